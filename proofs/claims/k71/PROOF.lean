import PyProof.Rows.All
import Wide.All
import OpenK.AllK
import Wide.FinOn
import HandS.ForMost
import HandS.Wide
import HandS.IsInst
import HandS.Evl
import HandS.ForExc
import HandS.ExcIs
import HandS.WideBits
import HandS.AnyAll
import HandS.Codes
import HandS.Comp
import HandS.Dict
import HandS.DictComp
import HandS.EndTab
import HandS.Evl
import HandS.ExcValue
import HandS.Iter
import HandS.MapJoin
import HandS.MapObj
import HandS.More
import HandS.ReplaceDef
import HandS.ReplaceLit
import HandS.Rev
import HandS.RevTup
import HandS.SortInts
import HandS.Star
import HandS.StrMore
import HandS.Style
import HandS.Text
import HandS.TupAny
import HandS.Walk
import HandS.Zip
import KE.KDictSum
import PySem.Challenge.RW_cardwright_k71_places_that_runs_come_by
set_option Elab.async false
set_option linter.all false
set_option maxRecDepth 100000
set_option maxHeartbeats 4000000
namespace WP
open PySem PySem.Spec PyProof.Rows L2

/-! ### a def that may be called -/
structure Callee (P : Program) (w : World) (K : PySem.W.Frag) (mg : Str → Option Value) (base : Heap) (CX : CXT) (lv : Nat) (nm : Str) (ps : List Str) (sp : Sp) : Prop where
  ex : ∃ (f : Addr) (fd : FuncData), FnOk P w K mg base CX lv f fd ps sp ∧ mg nm = some (.ref f) ∧ PySem.W.keepIn K (.ref f) = true ∧ Binds K fd ps []
theorem Callee.mk' {P : Program} {w : World} {K : PySem.W.Frag} {mg : Str → Option Value} {base : Heap} {CX : CXT} {lv : Nat} {nm : Str} {ps : List Str} {sp : Sp} {f : Addr} {fd : FuncData}
    (h : FnOk P w K mg base CX lv f fd ps sp) (m : mg nm = some (.ref f)) (k : PySem.W.keepIn K (.ref f) = true) (b : Binds K fd ps []) : Callee P w K mg base CX lv nm ps sp := ⟨⟨f, fd, h, m, k, b⟩⟩
section
variable {X : Cx} {CX : CXT} {k j : Nat} {ps : List Str} {sp : Sp} {E : XK} {x : Str} {p pos : Pos} {e : Expr} {es : List Expr} {t : TA}
theorem pe_callC (C : Callee X.prog X.w X.K X.mg X.base CX k x ps sp) (hr : Room j X.A) (hg : Gl X x) (hx : Passes CX X E) (ha : PA X (e :: es) t) (hl : k ≤ j := by decide)
    (hdb : (x == ("__debug__" : Str)) = false := by decide) (he : starEach (e :: es) X.env = (false, eval e X.env) :: starEach es X.env := by rfl) (hpl : (backTo pos (starEach es X.env)).any (·.1) = false := by rfl) :
    PE X (.Call (.Name x p) (e :: es) [] pos) (tCall sp [] E t) := by
  obtain ⟨f, fd, F, hm, hk, hb⟩ := C.ex
  exact pe_call F (hr.mono hl) hg hm hk hb .nil hx ha hdb he hpl
theorem pe_callC0 (C : Callee X.prog X.w X.K X.mg X.base CX k x ps sp) (hr : Room j X.A) (hg : Gl X x) (hx : Passes CX X E) (hl : k ≤ j := by decide)
    (hdb : (x == ("__debug__" : Str)) = false := by decide) : PE X (.Call (.Name x p) [] [] pos) (tCall sp [] E tNil) := by
  obtain ⟨f, fd, F, hm, hk, hb⟩ := C.ex
  exact pe_call0 F (hr.mono hl) hg hm hk hb .nil hx hdb
end

/-! ### readings, a step at a time -/
section
variable {σ : L2.St} {H : Hp} {D : Ends} {t u : TS} {te ta tb : TE} {tt tu : TT} {g : TG} {Q : VK} {QB : Bool → Hp → Prop} {QA : List V → Hp → Prop} {r : R2} {i j : Int} {n : Nat} {v x y : V}
theorem seq (h : t { D with nx := u D } σ H) : tSeq t u D σ H := h
theorem asg (h : te σ H fun x H1 => g x σ H1 D.nx) : tAsg te g D σ H := h
theorem name {QS : L2.St → Hp → Prop} (h : QS (σ.set n (some v)) H) : gName n v σ H QS := h
theorem var (e : σ[n]? = some (some v)) (h : Q v H) : tVar n σ H Q := ⟨v, e, h⟩
theorem con (h : Q v H) : tC v σ H Q := h
theorem op (h : ta σ H fun x H1 => tb σ H1 fun y H2 => r x y H2 Q) : tOp r ta tb σ H Q := h
theorem un {ru : V → Hp → VK → Prop} (h : ta σ H fun x H1 => ru x H1 Q) : tUn ru ta σ H Q := h
theorem rU_ {g : Int → V} (h : Q (g i) H) : rU g (.int i) H Q := ⟨i, rfl, h⟩
theorem i0 {g : Int → Int → V} (h : Q (g i j) H) : rI0 g (.int i) (.int j) H Q := ⟨i, j, rfl, rfl, h⟩
theorem iC {C : Int → Int → Prop} {g : Int → Int → V} (c : C i j) (h : Q (g i j) H) : rI C g (.int i) (.int j) H Q := ⟨i, j, rfl, rfl, c, h⟩
theorem eqS (s : scal x y = true) (h : Q (.bl (decide (x = y))) H) : rEq x y H Q := ⟨s, h⟩
theorem neS (s : scal x y = true) (h : Q (.bl (!decide (x = y))) H) : rNe x y H Q := ⟨s, h⟩
theorem ifS (h : tt σ H fun b H1 => if b = true then t D σ H1 else u D σ H1) : tIfS tt t u D σ H := h
theorem ifE (h : tt σ H fun b H1 => if b = true then ta σ H1 Q else tb σ H1 Q) : tIf tt ta tb σ H Q := h
theorem test (h : te σ H fun x H1 => ∃ k, x = .bl k ∧ QB k H1) : tTest te σ H QB := h
theorem bt (h : te σ H fun x H1 => ∃ k, x = .bl k ∧ QB k H1) : tB te σ H QB := h
theorem isb {b : Bool} (h : QB b H) : ∃ k, V.bl b = V.bl k ∧ QB k H := ⟨b, rfl, h⟩
theorem ret (h : te σ H D.rt) : tRet te D σ H := h
theorem retN (h : D.rt .non H) : tRetN D σ H := h
theorem drop (h : te σ H fun _ H1 => D.nx σ H1) : tDrop te D σ H := h
theorem next (h : D.nx σ H) : tNext D σ H := h
theorem brk (h : D.bk σ H) : tBreak D σ H := h
theorem cont (h : D.ct σ H) : tCont D σ H := h
theorem cb {rc : List V → Hp → VK → Prop} {a : TA} (h : a σ H fun vs H1 => rc vs H1 Q) : tCB rc a σ H Q := h
theorem call {sp : Sp} {E : XK} {a : TA} (h : a σ H fun vs H1 => sp (vs ++ []) H1 Q E) : tCall sp [] E a σ H Q := h
theorem cons {a : TA} (h : te σ H fun x H1 => a σ H1 fun xs H2 => QA (x :: xs) H2) : tCons te a σ H QA := h
theorem nil (h : QA [] H) : tNil σ H QA := h
theorem tup {a : TA} (h : a σ H fun xs H1 => xs.length ≤ sizeLine ∧ ∀ p, H1 p = none → Q (.ref p) (upd H1 p (.tup xs))) : tTup a σ H Q := h
theorem lst {a : TA} (h : a σ H fun xs H1 => xs.length ≤ sizeLine ∧ ∀ p, H1 p = none → Q (.ref p) (upd H1 p (.lst xs))) : tLst a σ H Q := h
theorem notT (h : tt σ H fun c H1 => QB (!c) H1) : tNot tt σ H QB := h
theorem andT (h : tt σ H fun c H1 => if c = true then tu σ H1 QB else QB false H1) : tAnd tt tu σ H QB := h
theorem orT (h : tt σ H fun c H1 => if c = true then QB true H1 else tu σ H1 QB) : tOr tt tu σ H QB := h
theorem andV (h : ta σ H fun x H1 => ∃ c, x = .bl c ∧ if c = true then tb σ H1 Q else Q (.bl false) H1) : tAndV ta tb σ H Q := h
theorem orV (h : ta σ H fun x H1 => ∃ c, x = .bl c ∧ if c = true then Q (.bl true) H1 else tb σ H1 Q) : tOrV ta tb σ H Q := h
theorem notV (h : ta σ H fun x H1 => ∃ c, x = .bl c ∧ Q (.bl (!c)) H1) : tNotV ta σ H Q := h
theorem isbV {b : Bool} {R : Bool → Prop} (h : R b) : ∃ k, V.bl b = V.bl k ∧ R k := ⟨b, rfl, h⟩
theorem sl {r : V → Option Int → Option Int → Hp → VK → Prop} {tl th : TO} (h : te σ H fun x H1 => tl σ H1 fun l H2 => th σ H2 fun u H3 => r x l u H3 Q) : tSl r te tl th σ H Q := h
theorem noPart {QO : Option Int → Hp → Prop} (h : QO none H) : tNoPart σ H QO := h
theorem part {QO : Option Int → Hp → Prop} (h : te σ H fun x H1 => ∃ i, x = .int i ∧ QO (some i) H1) : tPart te σ H QO := h
theorem isi {R : Int → Prop} (h : R i) : ∃ k, V.int i = V.int k ∧ R k := ⟨i, rfl, h⟩
/-- tests -/
theorem br {c A B : Prop} [Decidable c] (h1 : c → A) (h2 : ¬ c → B) : if decide c = true then A else B := by
  by_cases h : c
  · rw [decide_eq_true h, if_pos rfl]; exact h1 h
  · rw [decide_eq_false h, if_neg Bool.false_ne_true]; exact h2 h
theorem brN {c A B : Prop} [Decidable c] (h1 : ¬ c → A) (h2 : c → B) : if (!decide c) = true then A else B := by
  by_cases h : c
  · rw [decide_eq_true h]; exact iteF (h2 h)
  · rw [decide_eq_false h]; exact iteT (h1 h)
theorem brT {b : Bool} {A B : Prop} (e : b = true) (h : A) : if b = true then A else B := by rw [if_pos e]; exact h
theorem brF {b : Bool} {A B : Prop} (e : b = false) (h : B) : if b = true then A else B := by rw [if_neg (by rw [e]; exact Bool.false_ne_true)]; exact h
theorem brB {b : Bool} {A B : Prop} (h1 : b = true → A) (h2 : b = false → B) : if b = true then A else B := by
  cases b
  · exact iteF (h2 rfl)
  · exact iteT (h1 rfl)
theorem dec_int {i j : Int} : decide (V.int i = V.int j) = decide (i = j) := by
  by_cases h : i = j
  · rw [decide_eq_true h, decide_eq_true (congrArg V.int h)]
  · rw [decide_eq_false h, decide_eq_false fun e => h (V.int.inj e)]
theorem dec_str {i j : Str} : decide (V.str i = V.str j) = decide (i = j) := by
  by_cases h : i = j
  · rw [decide_eq_true h, decide_eq_true (congrArg V.str h)]
  · rw [decide_eq_false h, decide_eq_false fun e => h (V.str.inj e)]
theorem dec_bl {i j : Bool} : decide (V.bl i = V.bl j) = decide (i = j) := by
  by_cases h : i = j
  · rw [decide_eq_true h, decide_eq_true (congrArg V.bl h)]
  · rw [decide_eq_false h, decide_eq_false fun e => h (V.bl.inj e)]
theorem eqI (h : Q (.bl (decide (i = j))) H) : rEq (.int i) (.int j) H Q := ⟨rfl, by rw [dec_int]; exact h⟩
theorem neI (h : Q (.bl (!decide (i = j))) H) : rNe (.int i) (.int j) H Q := ⟨rfl, by rw [dec_int]; exact h⟩
theorem eqT {a b : Str} (h : Q (.bl (decide (a = b))) H) : rEq (.str a) (.str b) H Q := ⟨rfl, by rw [dec_str]; exact h⟩
theorem neT {a b : Str} (h : Q (.bl (!decide (a = b))) H) : rNe (.str a) (.str b) H Q := ⟨rfl, by rw [dec_str]; exact h⟩
theorem eqB {a b : Bool} (h : Q (.bl (decide (a = b))) H) : rEq (.bl a) (.bl b) H Q := ⟨rfl, by rw [dec_bl]; exact h⟩
theorem neB {a b : Bool} (h : Q (.bl (!decide (a = b))) H) : rNe (.bl a) (.bl b) H Q := ⟨rfl, by rw [dec_bl]; exact h⟩
end
/-! ### numbers of a known number of bits -/
theorem sz2 : (2 : Nat) ≤ sizeLine := by rw [sizeLine_eq]; decide
theorem sz {n : Nat} (h : n ≤ 1000000) : n ≤ sizeLine := by rw [sizeLine_eq]; omega
end WP
namespace WP
open PySem PySem.Spec PyProof.Rows L2
section
variable {X : Cx} {x : Str} {v : V} {pos : Pos}
theorem pe_const (hg : Gl X x) (h : ∃ u, X.mg x = some u ∧ RelV v u) (hd : (x == ("__debug__" : Str)) = false := by decide) : PE X (.Name x pos) (tC v) := by
  obtain ⟨u, hm, r⟩ := h
  exact pe_glob hg hm r hd
end
/-- a number of at most a bits -/
def Bt (i : Int) (a : Nat) : Prop := i.natAbs < 2 ^ a
theorem Bt.mono {i : Int} {a b : Nat} (h : Bt i a) (l : a ≤ b) : Bt i b := Nat.lt_of_lt_of_le h (Nat.pow_le_pow_right (by decide) l)
theorem Bt.mul {i j : Int} {a b : Nat} (h : Bt i a) (k : Bt j b) : Bt (i * j) (a + b) := wide_lt h k
theorem Bt.neg {i : Int} {a : Nat} (h : Bt i a) : Bt (-i) a := by unfold Bt at *; rw [Int.natAbs_neg]; exact h
theorem Bt.add {i j : Int} {a : Nat} (h : Bt i a) (k : Bt j a) : Bt (i + j) (a + 1) := by
  unfold Bt at *
  have := Int.natAbs_add_le i j
  rw [Nat.pow_succ]; omega
theorem Bt.sub {i j : Int} {a : Nat} (h : Bt i a) (k : Bt j a) : Bt (i - j) (a + 1) := by
  rw [Int.sub_eq_add_neg]; exact h.add k.neg
theorem Bt.le {i j : Int} {a : Nat} (h : Bt i a) (k : j.natAbs ≤ i.natAbs) : Bt j a := Nat.lt_of_le_of_lt k h
theorem Bt.ten (n : Nat) : Bt (10 ^ n) (4 * n + 1) := by
  unfold Bt
  have e : ((10 : Int) ^ n).natAbs = 10 ^ n := by rw [Int.natAbs_pow]; rfl
  rw [e]
  have h : 10 ^ n ≤ 16 ^ n := Nat.pow_le_pow_left (by decide) n
  have h2 : (16 : Nat) ^ n = 2 ^ (4 * n) := by rw [show (16 : Nat) = 2 ^ 4 from rfl, ← Nat.pow_mul]
  rw [h2] at h
  rw [Nat.pow_succ]
  have : 0 < 2 ^ (4 * n) := Nat.pow_pos (by decide)
  omega
theorem Bt.w {i j : Int} {a b : Nat} (h : Bt i a) (k : Bt j b) (l : a + b ≤ 999998 := by omega) : CMulW i j :=
  wide_mul (h.mono (Nat.le_succ a)) (k.mono (Nat.le_succ b)) (Nat.succ_pos _) (Nat.succ_pos _) (by omega)
theorem Bt.d {j : Int} {b : Nat} (h : 0 < j) (k : Bt j b) (l : b ≤ 8999 := by omega) : CDivW 0 j := wide_div h (k.mono (Nat.le_succ b)) (Nat.succ_pos _) (by omega)
theorem Bt.d' {i j : Int} {b : Nat} (h : 0 < j) (k : Bt j b) (l : b ≤ 8999 := by omega) : CDivW i j := Bt.d h k l
theorem ten_pos (n : Nat) : (0 : Int) < 10 ^ n := Int.pow_pos (by decide)
end WP
namespace WP
open PySem PySem.Spec PyProof.Rows L2
/-! ### what comes back -/
def RetT (xs : List V) (H : Hp) (Q : VK) : Prop := ∀ p H', Same H H' → H' p = some (.tup xs) → Q (.ref p) H'
def RetL (xs : List V) (H : Hp) (Q : VK) : Prop := ∀ p H', H p = none → Same H H' → H' p = some (.lst xs) → Q (.ref p) H'
def RetV (v : V) (H : Hp) (Q : VK) : Prop := ∀ H', Same H H' → Q v H'
theorem same_new {H : Hp} {p : Addr} {o : HO} (h : H p = none) : Same H (upd H p o) := fun b u e => by
  rw [upd_ne (ne_of_none e h)]; exact e
theorem same_mut {H H' : Hp} {p : Addr} {o : HO} (e : Same H H') (h : H p = none) : Same H (upd H' p o) := fun a u ha => by
  rw [upd_ne (ne_of_none ha h)]; exact e a u ha
theorem sqt {K : PySem.W.Frag} {H H' : Hp} {a : Addr} {xs : List V} (e : Same H H') (h : SqT K H a xs) : SqT K H' a xs := by
  rcases h with (h | ⟨o, h⟩) | h
  · exact .inl (.inl (e _ _ h))
  · exact .inl (.inr ⟨o, e _ _ h⟩)
  · exact .inr h
theorem RetT.new {xs : List V} {H H' : Hp} {Q : VK} (k : RetT xs H Q) (e : Same H H') : ∀ p, H' p = none → Q (.ref p) (upd H' p (.tup xs)) := fun p hp =>
  k p _ (e.trans (same_new hp)) upd_same
theorem RetL.new {xs : List V} {H H' : Hp} {Q : VK} (k : RetL xs H Q) (e : Same H H') : ∀ p, H' p = none → Q (.ref p) (upd H' p (.lst xs)) := fun p hp =>
  k p _ (e.free hp) (e.trans (same_new hp)) upd_same
/-- a decimal's two parts -/
abbrev dv (u : Int) (s : Nat) : List V := [.int u, .int (s : Int)]
theorem at0 {α : Type} {x : α} {xs : List α} : atI (x :: xs) (0 : Int) = some x := atI_nat (j := 0) rfl
theorem at1 {α : Type} {x y : α} {xs : List α} : atI (x :: y :: xs) (1 : Int) = some y := atI_nat (j := 1) rfl
theorem at2 {α : Type} {x y z : α} {xs : List α} : atI (x :: y :: z :: xs) (2 : Int) = some z := atI_nat (j := 2) rfl
theorem at3 {α : Type} {x y z u : α} {xs : List α} : atI (x :: y :: z :: u :: xs) (3 : Int) = some u := atI_nat (j := 3) rfl
theorem at4 {α : Type} {x y z u v : α} {xs : List α} : atI (x :: y :: z :: u :: v :: xs) (4 : Int) = some v := atI_nat (j := 4) rfl
section
variable {K : PySem.W.Frag} {H : Hp} {p : Addr} {xs : List V} {v : V} {i : Int} {Q : VK}
theorem ixT (h : SqT K H p xs) (a : atI xs i = some v) (q : Q v H) : rIxT K (.ref p) (.int i) H Q := ⟨p, xs, i, v, rfl, rfl, h, a, q⟩
theorem ixL (h : SqL K H p xs) (a : atI xs i = some v) (q : Q v H) : rIxL K (.ref p) (.int i) H Q := ⟨p, xs, i, v, rfl, rfl, h, a, q⟩
theorem unT {n : Nat} {t : TGs} {σ : L2.St} {QS : L2.St → Hp → Prop} (h : SqT K H p xs) (l : xs.length = n) (q : t xs σ H QS) : gTup K n t (.ref p) σ H QS := ⟨p, xs, rfl, h, l, q⟩
theorem gsCons {g : TG} {gs : TGs} {x : V} {r : List V} {σ : L2.St} {QS : L2.St → Hp → Prop} (q : g x σ H fun σ' H' => gs r σ' H' QS) : gCons g gs (x :: r) σ H QS := ⟨x, r, rfl, q⟩
theorem gsNil {σ : L2.St} {QS : L2.St → Hp → Prop} (q : QS σ H) : gNil [] σ H QS := ⟨rfl, q⟩
end
end WP
namespace WP
open PySem PySem.Spec PyProof.Rows L2
section
variable {K : PySem.W.Frag} {H : Hp} {p : Addr} {xs : List V} {v x : V} {i : Int} {Q : VK} {σ : L2.St} {D : Ends}
theorem forl {wi : TI} {g : TG} {tb : TS} (h : wi σ H fun J H1 => ∃ W : Nat → Nat → L2.St → Hp → Prop, (∃ m, W 0 m σ H1) ∧ ∀ i m σ H, W i m σ H →
  (J.stop i H ∧ D.nx σ H) ∨ (J.go i H ∧ ∃ N : L2.St → Hp → Prop, (∀ σ' H', N σ' H' → ∃ m', m' < m ∧ W (i + 1) m' σ' H') ∧ ∀ x H', J.yld i H x H' → g x σ H' fun σ2 H2 => tb { D with nx := N, ct := N, bk := D.nx } σ2 H2)) : tFor wi g tb D σ H := h
theorem rng1 {ta : TA} {R : It → Hp → Prop} (h : ta σ H fun vs H1 => ∃ j : Int, vs = [.int j] ∧ -(2 ^ 62) ≤ j ∧ j < 2 ^ 62 ∧ R (Itr 0 j.toNat) H1) : iRng1 ta σ H R := h
theorem rng2 {ta : TA} {R : It → Hp → Prop} (h : ta σ H fun vs H1 => ∃ i j : Int, vs = [.int i, .int j] ∧ (-(2 ^ 62) ≤ i ∧ i < 2 ^ 62 ∧ -(2 ^ 62) ≤ j ∧ j < 2 ^ 62) ∧ R (Itr i (j - i).toNat) H1) : iRng2 ta σ H R := h
theorem walkL {tl : TE} {R : It → Hp → Prop} (h : tl σ H fun x H1 => ∃ a, x = .ref a ∧ (∃ xs, SqL K H1 a xs) ∧ R (Itl K a) H1) : iList K tl σ H R := h
theorem walkT {tl : TE} {R : It → Hp → Prop} (h : tl σ H fun x H1 => ∃ a, x = .ref a ∧ (∃ xs, SqT K H1 a xs) ∧ R (Itt K a) H1) : iTup K tl σ H R := h
theorem isT {t n : String} {b : Bool} (ty : TyX K H x (.type t)) (q : Q (.bl b) H) (hb : kitB t n = some b := by decide +kernel) : rIsi K [x, .ty n] H Q :=
  ⟨x, .ty n, _, _, b, rfl, ClsV.ty n, ty, kit_ty hb, q⟩
theorem isY {t n : String} (ty : TyX K H x (.type t)) (q : Q (.bl true) H) (hb : kitB t n = some true := by decide +kernel) : rIsi K [x, .ty n] H Q := isT ty q hb
theorem isN {t n : String} (ty : TyX K H x (.type t)) (q : Q (.bl false) H) (hb : kitB t n = some false := by decide +kernel) : rIsi K [x, .ty n] H Q := isT ty q hb
def rLen (K : PySem.W.Frag) : List V → Hp → VK → Prop := fun xs H Q => ∃ x n, xs = [x] ∧ LenV K x H n ∧ Q (.int (n : Nat)) H
theorem c_len {X : Cx} : CallR X (.builtin "len") (rLen X.K) := call_len
theorem lenL (h : SqL K H p xs) (q : Q (.int (xs.length : Int)) H) : rLen K [V.ref p] H Q := ⟨_, _, rfl, .inl ⟨xs, h, rfl⟩, q⟩
theorem lenT (h : SqT K H p xs) (q : Q (.int (xs.length : Int)) H) : rLen K [V.ref p] H Q := ⟨_, _, rfl, .inr ⟨xs, h, rfl⟩, q⟩
theorem lenS {z : Str} (h : z.length ≤ sizeLine) (q : Q (.int (z.length : Int)) H) : rLen K [V.str z] H Q := ⟨_, _, rfl, ⟨h, rfl⟩, q⟩
def rInt1 : List V → Hp → VK → Prop := fun xs H Q => (∃ i, xs = [.int i] ∧ Q (.int i) H) ∨ ∃ k, xs = [.bl k] ∧ Q (.int (if k then 1 else 0)) H
theorem c_int1 {X : Cx} : CallR X (.type "int") rInt1 := call_int1
theorem intI (q : Q (.int i) H) : rInt1 [V.int i] H Q := .inl ⟨i, rfl, q⟩
theorem intB {b : Bool} (q : Q (.int (if b then 1 else 0)) H) : rInt1 [V.bl b] H Q := .inr ⟨b, rfl, q⟩
def rAbs : List V → Hp → VK → Prop := fun xs H Q => ∃ i, xs = [.int i] ∧ Q (.int (if i < 0 then -i else i)) H
theorem c_abs {X : Cx} : CallR X (.builtin "abs") rAbs := call_abs
theorem absI (q : Q (.int (i.natAbs : Int)) H) : rAbs [V.int i] H Q := ⟨i, rfl, by
  have e : (if i < 0 then -i else i) = (i.natAbs : Int) := by split <;> omega
  rw [e]; exact q⟩
def rMax2 : List V → Hp → VK → Prop := fun xs H Q => ∃ i j, xs = [.int i, .int j] ∧ Q (.int (if j > i then j else i)) H
def rMin2 : List V → Hp → VK → Prop := fun xs H Q => ∃ i j, xs = [.int i, .int j] ∧ Q (.int (if j < i then j else i)) H
theorem c_max2 {X : Cx} (hc : X.calm = true) : CallR X (.builtin "max") rMax2 := call_max2 hc
theorem c_min2 {X : Cx} (hc : X.calm = true) : CallR X (.builtin "min") rMin2 := call_min2 hc
theorem maxI {j : Int} (q : Q (.int (max i j)) H) : rMax2 [V.int i, V.int j] H Q := ⟨i, j, rfl, by
  have e : (if j > i then j else i) = max i j := by split <;> omega
  rw [e]; exact q⟩
theorem minI {j : Int} (q : Q (.int (min i j)) H) : rMin2 [V.int i, V.int j] H Q := ⟨i, j, rfl, by
  have e : (if j < i then j else i) = min i j := by split <;> omega
  rw [e]; exact q⟩
def rStrI : List V → Hp → VK → Prop := fun xs H Q => ∃ i : Int, xs = [.int i] ∧ i.natAbs.log2 < 1920 ∧ Q (.str (toString i)) H
theorem c_str {X : Cx} : CallR X (.type "str") rStrI := call_str_int
theorem strI (h : i.natAbs.log2 < 1920) (q : Q (.str (toString i)) H) : rStrI [V.int i] H Q := ⟨i, rfl, h, q⟩
def rListOf (K : PySem.W.Frag) : List V → Hp → VK → Prop := fun xs H Q => ∃ p ys, xs = [.ref p] ∧ (SqL K H p ys ∨ SqT K H p ys) ∧ ∀ l, H l = none → Q (.ref l) (upd H l (.lst ys))
theorem c_listOf {X : Cx} : CallR X (.type "list") (rListOf X.K) := call_list_of
theorem listL (h : SqL K H p xs) (q : ∀ l, H l = none → Q (.ref l) (upd H l (.lst xs))) : rListOf K [V.ref p] H Q := ⟨p, xs, rfl, .inl h, q⟩
theorem listT (h : SqT K H p xs) (q : ∀ l, H l = none → Q (.ref l) (upd H l (.lst xs))) : rListOf K [V.ref p] H Q := ⟨p, xs, rfl, .inr h, q⟩
def rTupOf (K : PySem.W.Frag) : List V → Hp → VK → Prop := fun xs H Q => ∃ p ys, xs = [.ref p] ∧ ((SqL K H p ys ∧ ∀ l, H l = none → Q (.ref l) (upd H l (.tup ys))) ∨ (SqT K H p ys ∧ Q (.ref p) H))
theorem c_tupOf {X : Cx} : CallR X (.type "tuple") (rTupOf X.K) := call_tuple_of
theorem tupL (h : SqL K H p xs) (q : ∀ l, H l = none → Q (.ref l) (upd H l (.tup xs))) : rTupOf K [V.ref p] H Q := ⟨p, xs, rfl, .inl ⟨h, q⟩⟩
def rOrd : List V → Hp → VK → Prop := fun xs H Q => ∃ x : Str, xs = [.str x] ∧ x.length = 1 ∧ Q (.int (x.cps.getD 0 0 : Nat)) H
theorem c_ord {X : Cx} : CallR X (.builtin "ord") rOrd := call_ord
theorem ordS {z : Str} (h : z.length = 1) (q : Q (.int (z.cps.getD 0 0 : Nat)) H) : rOrd [V.str z] H Q := ⟨z, rfl, h, q⟩
def rDivmod : List V → Hp → VK → Prop := fun xs H Q => ∃ i j, xs = [.int i, .int j] ∧ CDiv i j ∧ ∀ p, H p = none → Q (.ref p) (upd H p (.tup [.int (i / j), .int (i % j)]))
theorem c_divmod {X : Cx} : CallR X (.builtin "divmod") rDivmod := call_divmod
theorem sql {H' : Hp} {a : Addr} (e : Same H H') (h : SqL K H a xs) : SqL K H' a xs := e.seq h
theorem at_ints {ns : List Int} (h0 : 0 ≤ i) (h1 : i < (ns.length : Int)) : atI (ns.map V.int) i = some (.int (ns.getD i.toNat 0)) := by
  have e : i = ((i.toNat : Nat) : Int) := (Int.toNat_of_nonneg h0).symm
  rw [e]
  refine atI_nat ?_
  have hl : i.toNat < ns.length := by omega
  rw [List.getElem?_map, List.getElem?_eq_getElem hl, Int.toNat_natCast, List.getD_eq_getElem?_getD, List.getElem?_eq_getElem hl]
  rfl
end
end WP
namespace WP
open PySem PySem.Spec PyProof.Rows L2
section
variable {X : Cx}
theorem cut {t u : TS} {D : Ends} {σ : L2.St} {H : Hp} (Mid : L2.St → Hp → Prop) (h : t { D with nx := Mid } σ H) (k : ∀ σ' H', Mid σ' H' → u D σ' H') : Evl.tCut t u D σ H := ⟨Mid, h, k⟩
end
/-! ### == of data -/
section
variable {K : PySem.W.Frag} {H : Hp} {x y : V} {d e : PyData} {Q : VK}
theorem eqD (a : Dp K H x d) (b : Dp K H y e) (h : Q (.bl (PyData.eqv d e)) H) (s1 : SeqAt.shaped d = true := by first | rfl | decide +kernel) (s2 : SeqAt.shaped e = true := by first | rfl | decide +kernel) : rEqD K x y H Q := ⟨d, e, a, b, s1, s2, h⟩
theorem neD (a : Dp K H x d) (b : Dp K H y e) (h : Q (.bl (!PyData.eqv d e)) H) (s1 : SeqAt.shaped d = true := by first | rfl | decide +kernel) (s2 : SeqAt.shaped e = true := by first | rfl | decide +kernel) : rNeD K x y H Q := ⟨d, e, a, b, s1, s2, h⟩
theorem dpv {p : Addr} {u : Int} {s : Nat} (h : SqT K H p (dv u s)) : Dp K H (.ref p) (.tuple [.int u, .int (s : Int)]) := .tup h (.cons (.int _) (.cons (.int _) .nil))
end
end WP
namespace WP
open PySem PySem.Spec PyProof.Rows L2
abbrev MG := Str → Option Value
/-- the address that a module's name holds -/
def ca (mg : MG) (nm : Str) : Addr := match mg nm with
  | some (.ref a) => a
  | _ => 0
theorem ca_of {mg : MG} {nm : Str} {a : Addr} (h : mg nm = some (.ref a)) : ca mg nm = a := by unfold ca; rw [h]
/-! ### own exceptions without an __init__ of their own -/
structure ExcAt (K : PySem.W.Frag) (C : Addr) : Prop where
  x : PySem.W.excIn K C [.type "ValueError", .type "Exception", .type "BaseException", .type "object"] "ValueError.__new__" = true
  k : PySem.W.keepIn K (.ref C) = true
  t : PySem.W.typeIn K (.ref C) = some (.type "type")
  c : ExcC K C
structure ExcOk (K : PySem.W.Frag) (mg : MG) (nm : Str) : Prop where
  m : mg nm = some (.ref (ca mg nm))
  a : ExcAt K (ca mg nm)
theorem ExcOk.mk' {K : PySem.W.Frag} {mg : MG} {nm : Str} {C : Addr} (h : mg nm = some (.ref C)) (x : ExcAt K C) : ExcOk K mg nm := by
  have e := ca_of h
  exact ⟨by rw [e]; exact h, by rw [e]; exact x⟩
theorem ExcAt.raises {X : Cx} {C : Addr} (x : ExcAt X.K C) : Raises X (.ref C) := raises_own x.c.hs x.t
theorem ExcAt.catches {K : PySem.W.Frag} {C : Addr} (x : ExcAt K C) {cls : Value} {b : Bool} (h : PySem.W.subIn K cls (.ref C) = some b) : PySem.W.exmOne K cls (.ref C) = some b := PySem.W.exm_ref x.c.hs x.c.hd x.t h
section
variable {X : Cx} {x m : Str} {j : Nat} {p p2 pos pos2 : Pos} {W : WX}
theorem ps_raiseC (hc : X.calm = true) (tk : Takes X W) (e : ExcOk X.K X.mg x) (hg : Gl X x) (hdb : (x == ("__debug__" : Str)) = false := by decide) :
    PS X (.Raise (some (.Call (.Name x p) [.Constant (.str m) j p2] [] pos)) none pos2) (fun _ σ H => W (.ref (ca X.mg x)) none σ H) :=
  ps_raise hc tk (pmk_own PySem.F.excBase_ValueError e.a.x e.m e.a.k e.a.raises hg hdb)
end
/-- isinstance of the caught error -/
def rIsX (K : PySem.W.Frag) (a : Addr) (cls : Value) (d : Option Addr) : List V → Hp → VK → Prop := fun xs H Q => ∃ D, cls = .ref D ∧ d = none ∧ ExcC K D ∧ rIsE K D a xs H Q
theorem call_isX {X : Cx} {a : Addr} {oe : Obj} {cls : Value} {d : Option Addr} {pn : List (Addr × Obj)} (hz : Zc cls d oe) (hf : ∃ vs, oe.data = .fields vs) : CallR (X.suite a ((a, oe) :: pn)) (.builtin "isinstance") (rIsX X.K a cls d) := by
  intro pins s σ H xs us Q I r h
  obtain ⟨D, rfl, rfl, c, h⟩ := h
  exact call_isE c hz hf pins s σ H xs us Q I r h
theorem isX {K : PySem.W.Frag} {a D C : Addr} {b : Bool} {H : Hp} {Q : VK} (c : ExcC K D) (h : PySem.W.kitOne K (.ref D) (.ref C) = some b) (q : Q (.bl b) H) : rIsX K a (.ref D) none [.ref a, .ref C] H Q :=
  ⟨D, rfl, rfl, c, .ref C, .ref C, b, rfl, fun _ r => r, h, q⟩
section
variable {X : Cx} {CX' : CXT} {k j : Nat} {ps : List Str} {sp : Sp} {E : L2.St → XK} {E0 : XK} {x : Str} {p pos : Pos} {e : Expr} {es : List Expr} {t : TA}
theorem pe_callSC (C : Callee X.prog X.w X.K X.mg X.base (L2.CX X.prog X.w) k x ps sp) (hr : Room j X.A) (hg : Gl X x) (hx : ∀ σ, PassesAt (L2.CX X.prog X.w) X σ (E σ)) (ha : PA X (e :: es) t) (hl : k ≤ j := by decide)
    (hdb : (x == ("__debug__" : Str)) = false := by decide) (he : starEach (e :: es) X.env = (false, eval e X.env) :: starEach es X.env := by rfl) (hpl : (backTo pos (starEach es X.env)).any (·.1) = false := by rfl) :
    PE X (.Call (.Name x p) (e :: es) [] pos) (tCallS sp E t) := by
  obtain ⟨f, fd, F, hm, hk, hb⟩ := C.ex
  exact pe_callS F (hr.mono hl) hg hm hk hb hx ha hdb he hpl
/-- what a callee lets out leaves this def too -/
theorem passX {E : XK} {E₁ : Value → Shared → Prop} (hs : X.stack = X.env :: X.outer) (hf : X.env.frame = some X.env.locals) (hex : X.ex = [])
    (hx : X.xe = fun e s' => wpAny (model X.prog X.w) X.A (leaving X.env e) (fun _ s'' => L2.CX X.prog X.w X.outer X.H_0 X.s_0 E e s'') E₁ s') : Passes (L2.CX X.prog X.w) X E :=
  fun pins σ H s e s' I c => passes_call (takes_of hs hf hex hx) (fun _ _ _ _ z => z) pins σ H s e s' I c
end
theorem callS {sp : Sp} {E : L2.St → XK} {a : TA} {σ : L2.St} {H : Hp} {Q : VK} (h : a σ H fun vs H1 => sp vs H1 Q (E σ)) : tCallS sp E a σ H Q := h
end WP
namespace WP
open PySem PySem.Spec PyProof.Rows L2
def rDivmodW : List V → Hp → VK → Prop := fun xs H Q => ∃ i j, xs = [.int i, .int j] ∧ CDivP i j ∧ ∀ p, H p = none → Q (.ref p) (upd H p (.tup [.int (i / j), .int (i % j)]))
theorem c_divmodW {X : Cx} : CallR X (.builtin "divmod") rDivmodW := call_divmodW
theorem Bt.p {i j : Int} {a : Nat} (h : Bt i a) (hj : 0 < j) (l : a ≤ 4000 := by omega) : CDivP i j := divp_ok hj (by have := intBits_le h; omega)
theorem divW {i j : Int} {H : Hp} {Q : VK} (c : CDivP i j) (q : ∀ p, H p = none → Q (.ref p) (upd H p (.tup [.int (i / j), .int (i % j)]))) : rDivmodW [.int i, .int j] H Q := ⟨i, j, rfl, c, q⟩
end WP
namespace WP
open PySem PySem.Spec PyProof.Rows L2
/-- a callee that raises, called where it does not -/
theorem pass0X {X : Cx} : Passes (L2.CX X.prog X.w) X (fun _ _ _ => False) := fun pins σ H s e s' I c => passes_call (W := fun _ _ _ _ => False) takes0 (fun _ _ _ _ z => z) pins σ H s e s' I c
end WP
namespace WP
open PySem PySem.Spec PyProof.Rows L2
/-- no star -/
def noStar : Expr → Bool
  | .Starred _ _ => false
  | _ => true
theorem starEach_no {e : Expr} {es : List Expr} {env : Env} (h : noStar e = true) : starEach (e :: es) env = (false, eval e env) :: starEach es env := by
  cases e with
  | Starred a b => cases h
  | _ => rfl
theorem pa_consN {X : Cx} {e : Expr} {es : List Expr} {te : TE} {t : TA} (ha : PE X e te) (hr : PA X es t) (hs : noStar e = true := by rfl) : PA X (e :: es) (tCons te t) := pa_cons ha hr (starEach_no hs)
end WP

namespace WP
open PySem PySem.Spec PyProof.Rows L2
open SX (S S_len S_cat)
section
variable {X : Cx}
theorem pe_strL {x : Str} {j pos} (l : List Nat) (h : x = S l) : PE X (.Constant (.str x) j pos) (tC (.str (S l))) := by subst h; exact pe_str
/-- text * number -/
def rMulS : R2 := fun x y H Q => ∃ (a : Str) (i : Int), x = .str a ∧ y = .int i ∧ MulOk a i ∧ Q (.str (Txt.mul a i)) H
theorem op_mul_str : OpR X (binaryOp .Mult) rMulS := by
  intro pins s σ H x y v u Q I rx ry h
  obtain ⟨a, i, rfl, rfl, hz, q⟩ := h
  obtain ⟨t, rfl⟩ := rx
  obtain ⟨t', rfl⟩ := ry
  exact SB.mul hz fun t' k => ⟨.str _, H, I.tok _, ⟨_, rfl⟩, q⟩
def rAddS : R2 := fun x y H Q => ∃ (a b : Str), x = .str a ∧ y = .str b ∧ a.length + b.length ≤ sizeLine ∧ Q (.str (a ++ b)) H
theorem op_addS : OpR X (binaryOp .Add) rAddS := op_add_str
def rZfill : V → List V → Hp → VK → Prop := fun x xs H Q => ∃ (a : Str) (i : Int), x = .str a ∧ xs = [.int i] ∧ PadOk i = true ∧ Q (.str (Txt.zfill a i)) H
theorem m_zfill : MtR X "str.zfill" rZfill := mt_zfill
def rIntS : List V → Hp → VK → Prop := fun xs H Q => ∃ (a : Str) (n : Int), xs = [.str a] ∧ PySem.intText? a = some n ∧ a.length ≤ 640 ∧ Q (.int n) H
theorem c_intS : CallR X (.type "int") rIntS := call_int_str
end
section
variable {a b l : List Nat} {i : Int} {H : Hp} {Q : VK}
theorem catS (q : Q (.str (S (a ++ b))) H) (h : a.length + b.length ≤ sizeLine := by size_fits) : rAddS (.str (S a)) (.str (S b)) H Q := ⟨_, _, rfl, rfl, by rw [S_len, S_len]; exact h, by rw [S_cat]; exact q⟩
theorem reps1 (c : Nat) : ∀ (k : Nat) (acc : Array Nat), ((List.replicate k #[c]).foldl (· ++ ·) acc) = (acc.toList ++ List.replicate k c).toArray
  | 0, acc => by simp
  | k + 1, acc => by
    rw [List.replicate_succ, List.foldl_cons, reps1 c k]
    simp [List.replicate_succ]
theorem mul_S (c : Nat) (i : Int) : Txt.mul (S [c]) i = S (List.replicate i.toNat c) := by
  unfold Txt.mul
  split
  · rename_i h
    rw [show i.toNat = 0 by omega]; rfl
  · rename_i h
    split
    · rename_i h2
      have : i = 1 := by
        rw [Bool.or_eq_true] at h2
        rcases h2 with h2 | h2
        · exact eq_of_beq h2
        · exact absurd h2 (by rw [S_len]; exact Bool.false_ne_true)
      subst this
      rfl
    · show (⟨(List.replicate i.toNat #[c]).foldl (· ++ ·) #[]⟩ : Str) = _
      rw [reps1]; simp [S]
theorem mulOk1 (c : Nat) {i : Int} (h : i ≤ 100000) (h2 : -100000 ≤ i) : MulOk (S [c]) i := by
  refine ⟨by rw [decide_eq_false (by omega), decide_eq_false (by omega)]; rfl, fun h1 _ => ?_, fun h1 _ => ?_⟩
  · rw [S_len]
    show ¬ (((1 : Nat) : Int) > _)
    have : (1 : Int) ≤ (2 ^ 63 - 1) / i := by
      rw [Int.le_ediv_iff_mul_le (by omega)]; omega
    omega
  · rw [S_len]
    unfold Builtin.Str.tooLong
    exact decide_eq_false (by rw [sizeLine_eq]; show ¬ (1 * i.toNat > _); omega)
theorem mulS {c : Nat} (h : i ≤ 100000) (h2 : -100000 ≤ i) (q : Q (.str (S (List.replicate i.toNat c))) H) : rMulS (.str (S [c])) (.int i) H Q :=
  ⟨_, _, rfl, rfl, mulOk1 c h h2, by rw [mul_S]; exact q⟩
/-- zfill of a text without a sign -/
theorem zfill_S (h : ∀ c, l.head? = some c → c ≠ 43 ∧ c ≠ 45) (hi : 0 ≤ i) : Txt.zfill (S l) i = S (List.replicate (i.toNat - l.length) 48 ++ l) := by
  unfold Txt.zfill
  rw [S_len]
  split
  · rename_i h1
    rw [show i.toNat - l.length = 0 by omega]; rfl
  · unfold PySem.zfilled
    have e : (S l).cps[0]? = l.head? := by simp [S, List.head?_eq_getElem?]
    rw [e]
    have fin : Builtin.Str.padded (S l) (i.toNat - l.length) 0 48 = S (List.replicate (i.toNat - l.length) 48 ++ l) := by
      unfold Builtin.Str.padded
      simp [S]
    split
    · rename_i hc; exact absurd rfl (h _ hc).1
    · rename_i hc; exact absurd rfl (h _ hc).2
    · exact fin
theorem zfillS (h : ∀ c, l.head? = some c → c ≠ 43 ∧ c ≠ 45) (hi : 0 ≤ i) (h2 : i ≤ 100000) (q : Q (.str (S (List.replicate (i.toNat - l.length) 48 ++ l))) H) : rZfill (.str (S l)) [.int i] H Q :=
  ⟨_, _, rfl, rfl, by unfold PadOk fitsSsize; rw [decide_eq_false (by omega), decide_eq_false (by omega)]; unfold Builtin.Str.tooLong; rw [decide_eq_false (by rw [sizeLine_eq]; omega)]; rfl, by rw [zfill_S h hi]; exact q⟩
theorem lenS' (h : l.length ≤ sizeLine) (q : Q (.int (l.length : Int)) H) {K : PySem.W.Frag} : rLen K [V.str (S l)] H Q := ⟨_, _, rfl, ⟨by rw [S_len]; exact h, rfl⟩, by rw [S_len]; exact q⟩
theorem strN {n : Nat} (h : n.log2 < 1920) (q : Q (.str (S (TL.numL n))) H) : rStrI [V.int (n : Int)] H Q := ⟨_, rfl, by rw [Int.natAbs_natCast]; exact h, by
  have e : Str.ofString (toString ((n : Nat) : Int)) = S (TL.numL n) := SX.num_S n
  rw [e]; exact q⟩
theorem intSd (h : l.all (fun c => decide (48 ≤ c) && decide (c ≤ 57)) = true) (hne : l ≠ []) (hl : l.length ≤ 640) (q : Q (.int ((NumText.digitsVal l : Nat) : Int)) H) : rIntS [V.str (S l)] H Q :=
  ⟨_, _, rfl, SX.int_S h hne (by omega), by rw [S_len]; exact hl, q⟩
theorem slS {lo hi : Option Int} (z : Str) (h : z.length ≤ sizeLine) (q : Q (.str (Txt.slice z lo hi)) H) : rSlS (.str z) lo hi H Q := ⟨z, rfl, h, by rw [C8.cutS_slice]; exact q⟩
theorem slTo (hi : 0 ≤ i) (h : l.length ≤ sizeLine) (q : Q (.str (S (l.take i.toNat))) H) : rSlS (.str (S l)) none (some i) H Q := slS _ (by rw [S_len]; exact h) (by rw [SX.slice_to hi]; exact q)
theorem slFrom (hi : 0 ≤ i) (h : l.length ≤ sizeLine) (q : Q (.str (S (l.drop i.toNat))) H) : rSlS (.str (S l)) (some i) none H Q := slS _ (by rw [S_len]; exact h) (by rw [SX.slice_from hi]; exact q)
/-- an index from the end -/
theorem idx_neg_hi {l1 : Option Int} {n : Nat} {i : Int} (h : i < 0) (h2 : 0 ≤ i + n) : Builtin.Str.strSliceIndices l1 (some i) 1 n = Builtin.Str.strSliceIndices l1 (some (i + n)) 1 n := by
  have h1 : ¬ (i + n < 0) := by omega
  simp only [Builtin.Str.strSliceIndices, h, h1, if_false, if_true]
theorem idx_neg_lo {l1 : Option Int} {n : Nat} {i : Int} (h : i < 0) (h2 : 0 ≤ i + n) : Builtin.Str.strSliceIndices (some i) l1 1 n = Builtin.Str.strSliceIndices (some (i + n)) l1 1 n := by
  have h1 : ¬ (i + n < 0) := by omega
  simp only [Builtin.Str.strSliceIndices, h, h1, if_false, if_true]
theorem slice_toN (h : i < 0) (h2 : 0 ≤ i + (l.length : Int)) : Txt.slice (S l) none (some i) = S (l.take (i + (l.length : Int)).toNat) := by
  rw [← SX.slice_to h2]
  unfold Txt.slice
  rw [S_len, idx_neg_hi h h2]
theorem slice_fromN (h : i < 0) (h2 : 0 ≤ i + (l.length : Int)) : Txt.slice (S l) (some i) none = S (l.drop (i + (l.length : Int)).toNat) := by
  rw [← SX.slice_from h2]
  unfold Txt.slice
  rw [S_len, idx_neg_lo h h2]
theorem slToN (hi : i < 0) (h2 : 0 ≤ i + (l.length : Int)) (h : l.length ≤ sizeLine) (q : Q (.str (S (l.take (i + (l.length : Int)).toNat))) H) : rSlS (.str (S l)) none (some i) H Q := slS _ (by rw [S_len]; exact h) (by rw [slice_toN hi h2]; exact q)
theorem slFromN (hi : i < 0) (h2 : 0 ≤ i + (l.length : Int)) (h : l.length ≤ sizeLine) (q : Q (.str (S (l.drop (i + (l.length : Int)).toNat))) H) : rSlS (.str (S l)) (some i) none H Q := slS _ (by rw [S_len]; exact h) (by rw [slice_fromN hi h2]; exact q)
theorem eqTS {a b : List Nat} (h : Q (.bl (decide (a = b))) H) : rEq (.str (S a)) (.str (S b)) H Q := ⟨rfl, by
  have e : decide ((S a : Str) = S b) = decide (a = b) := by
    by_cases h : a = b
    · subst h; rw [decide_eq_true rfl, decide_eq_true rfl]
    · rw [decide_eq_false h, decide_eq_false fun z => h (SX.S_inj z)]
  rw [dec_str, e]; exact h⟩
theorem neTS {a b : List Nat} (h : Q (.bl (!decide (a = b))) H) : rNe (.str (S a)) (.str (S b)) H Q := ⟨rfl, by
  have e : decide ((S a : Str) = S b) = decide (a = b) := by
    by_cases h : a = b
    · subst h; rw [decide_eq_true rfl, decide_eq_true rfl]
    · rw [decide_eq_false h, decide_eq_false fun z => h (SX.S_inj z)]
  rw [dec_str, e]; exact h⟩
/-- range with a step -/
theorem rng3 {ta : TA} {σ : L2.St} {R : It → Hp → Prop} (h : ta σ H fun vs H1 => ∃ (i j c : Int) (n : Nat), vs = [.int i, .int j, .int c] ∧ RgC i j c n ∧ R (Itc i c n) H1) : iRng3 ta σ H R := h
end
/-! ### the figures of a number -/
/-- k figures of n -/
def padL : Nat → Nat → List Nat
  | 0, _ => []
  | k + 1, n => padL k (n / 10) ++ [48 + n % 10]
theorem padL_len : ∀ k n, (padL k n).length = k
  | 0, _ => rfl
  | k + 1, n => by unfold padL; rw [List.length_append, padL_len]; rfl
theorem numL_app : ∀ (k q r : Nat), 0 < q → r < 10 ^ k → TL.numL (q * 10 ^ k + r) = TL.numL q ++ padL k r
  | 0, q, r, _, hr => by
    have : r = 0 := by simp at hr; exact hr
    subst this
    simp [padL]
  | k + 1, q, r, hq, hr => by
    have e10 : 10 ^ (k + 1) = 10 ^ k * 10 := Nat.pow_succ ..
    have hp : 0 < 10 ^ k := Nat.pow_pos (by decide)
    have b : 10 ≤ q * 10 ^ (k + 1) + r := by
      have : 1 * 10 ^ (k + 1) ≤ q * 10 ^ (k + 1) := Nat.mul_le_mul_right _ hq
      omega
    have d : (q * 10 ^ (k + 1) + r) / 10 = q * 10 ^ k + r / 10 := by
      rw [e10, ← Nat.mul_assoc]; omega
    have m : (q * 10 ^ (k + 1) + r) % 10 = r % 10 := by
      rw [e10, ← Nat.mul_assoc]; omega
    rw [TL.numL_step b, d, m, numL_app k q (r / 10) hq (by omega)]
    rw [show padL (k + 1) r = padL k (r / 10) ++ [48 + r % 10] from rfl, List.append_assoc]
theorem padL_zero : ∀ k, padL k 0 = List.replicate k 48
  | 0 => rfl
  | k + 1 => by unfold padL; rw [show 0 / 10 = 0 from rfl, padL_zero k, List.replicate_succ']
theorem padL_num : ∀ (k n : Nat), 0 < k → n < 10 ^ k → padL k n = List.replicate (k - (TL.numL n).length) 48 ++ TL.numL n
  | k + 1, n, _, h => by
    by_cases c : n < 10
    · rw [TL.numL_lt c]
      unfold padL
      rw [show n / 10 = 0 by omega, padL_zero, show n % 10 = n by omega]
      rfl
    · have hk : 0 < k := by
        rcases k with _ | k
        · simp at h; omega
        · omega
      have e10 : 10 ^ (k + 1) = 10 ^ k * 10 := Nat.pow_succ ..
      rw [TL.numL_step (by omega)]
      unfold padL
      rw [padL_num k (n / 10) hk (by omega), List.length_append, List.append_assoc]
      congr 2
      simp
theorem numL_head {n c : Nat} (h : (TL.numL n).head? = some c) : c ≠ 43 ∧ c ≠ 45 := by
  have m : c ∈ TL.numL n := List.mem_of_head? h
  have := TL.numL_digits n c m
  omega
theorem digits_rep (n : Nat) : NumText.digitsVal (49 :: List.replicate n 48) = 10 ^ n := by
  unfold NumText.digitsVal
  rw [List.foldl_cons]
  have : ∀ (n a : Nat), (List.replicate n 48).foldl (fun acc c => acc * 10 + (c - 48)) a = a * 10 ^ n := by
    intro n
    induction n with
    | zero => intro a; simp
    | succ n ih => intro a; rw [List.replicate_succ, List.foldl_cons, ih, Nat.pow_succ]; rw [Nat.sub_self, Nat.add_zero, Nat.mul_assoc, Nat.mul_comm 10]
  rw [this]; simp
end WP
namespace WP
open PySem PySem.Spec PyProof.Rows L2
section
variable {K : PySem.W.Frag} {σ : L2.St} {H : Hp} {Q : VK} {x v : V} {p : Addr} {xs : List V}
theorem bm {T : String} {r : V → List V → Hp → VK → Prop} {to : TE} {t : TA} (h : to σ H fun x H1 => tyV K T x H1 ∧ t σ H1 fun xs H2 => r x xs H2 Q) : tBM K T r to t σ H Q := h
theorem tyS {z : Str} {A : Prop} (q : A) : tyV K "str" (.str z) H ∧ A := ⟨rfl, q⟩
theorem gsub {to ti : TE} {t : TSet} {QS : L2.St → Hp → Prop} (h : to σ H fun o H1 => ti σ H1 fun i H2 => t o i v H2 fun H3 => QS σ H3) : gSub to ti t v σ H QS := h
theorem setL {k : Int} {j : Nat} {R : Hp → Prop} (hp : H p = some (.lst xs)) (hj : ixN xs.length k = some j) (q : R (upd H p (.lst (xs.set j v)))) : rSetL (.ref p) (.int k) v H R := ⟨p, xs, k, j, rfl, rfl, hp, hj, q⟩
theorem appL (hp : H p = some (.lst xs)) (hz : xs.length < sizeLine) (q : Q .non (upd H p (.lst (xs ++ [v])))) : rAppend (.ref p) [v] H Q := ⟨p, xs, v, rfl, rfl, hp, hz, q⟩
theorem tyL {A : Prop} (hp : SqL K H p xs) (q : A) : tyV K "list" (.ref p) H ∧ A := ⟨.inl ⟨rfl, xs, hp⟩, q⟩
theorem tyT (h : SqT K H p xs) : TyX K H (.ref p) (.type "tuple") := by
  rcases h with (h | ⟨o, h⟩) | h
  · exact .base (.tup h)
  · exact .fTuple h
  · obtain ⟨o, its, n, h1, h2, h3⟩ := h
    exact .kTuple h1 h2
/-- all objects but the one at d are kept -/
def Sx (d : Addr) (H H' : Hp) : Prop := ∀ a o, a ≠ d → H a = some o → H' a = some o
theorem Sx.refl {d : Addr} {H : Hp} : Sx d H H := fun _ _ _ e => e
theorem Sx.trans {d : Addr} {H H' H2 : Hp} (h : Sx d H H') (k : Sx d H' H2) : Sx d H H2 := fun a o n e => k a o n (h a o n e)
theorem Sx.of {d : Addr} {H H' : Hp} (h : Same H H') : Sx d H H' := fun a o _ e => h a o e
theorem Sx.upd {d : Addr} {H : Hp} {o : HO} : Sx d H (upd H d o) := fun a u n e => by rw [upd_ne n]; exact e
theorem sqtX {d : Addr} {H H' : Hp} {ys : List V} (e : Sx d H H') (hd : H d = some (.lst ys)) (h : SqT K H p xs) : SqT K H' p xs := by
  rcases h with (h | ⟨o, h⟩) | h
  · exact .inl (.inl (e _ _ (fun z => by rw [z, hd] at h; cases h) h))
  · exact .inl (.inr ⟨o, e _ _ (fun z => by rw [z, hd] at h; cases h) h⟩)
  · exact .inr h
end
end WP
namespace WP
theorem log2_lt {n k : Nat} (hk : 0 < k) (h : n < 2 ^ k) : n.log2 < k := by
  by_cases z : n = 0
  · subst z; exact hk
  · exact (Nat.log2_lt z).mpr h
end WP
namespace WP
open PySem PySem.Spec PyProof.Rows L2
theorem ifSS {c : Prop} [Decidable c] {a b : List Nat} {σ : L2.St} {H : Hp} {Q : VK} (q : Q (.str (SX.S (if c then a else b))) H) : if decide c = true then tC (.str (SX.S a)) σ H Q else tC (.str (SX.S b)) σ H Q := by
  by_cases h : c
  · rw [if_pos (decide_eq_true h)]; rw [if_pos h] at q; exact q
  · rw [if_neg (by rw [decide_eq_false h]; exact Bool.false_ne_true)]; rw [if_neg h] at q; exact q
end WP
namespace WP
open PySem PySem.Spec PyProof.Rows L2
section
variable {K : PySem.W.Frag} {H H' : Hp} {a d : Addr} {xs : List V}
theorem sqlX (e : Sx d H H') (n : a ≠ d) (h : SqL K H a xs) : SqL K H' a xs := by
  rcases h with (h | ⟨o, h⟩) | h
  · exact .inl (.inl (e _ _ n h))
  · exact .inl (.inr ⟨o, e _ _ n h⟩)
  · exact .inr h
end
end WP
namespace WP
open PySem PySem.Spec PyProof.Rows L2
/-- a text that may stand in data -/
def SOk (z : Str) : Prop := (PyData.str z).canLay0 = true
theorem SOk.sh {z : Str} (h : SOk z) : SeqAt.shaped (.str z) = true := Bool.and_eq_true_iff.mpr ⟨h, rfl⟩
theorem sok_S {l : List Nat} (h : ∀ c ∈ l, c < 1114112) : SOk (SX.S l) := by
  show (SX.S l).cps.all (· < 0x110000) = true
  rw [← Array.all_toList]
  exact List.all_eq_true.mpr fun c hc => decide_eq_true (h c hc)
end WP
namespace WP
open PySem PySem.Spec PyProof.Rows L2
theorem rg9 {j : Int} (h1 : 1 ≤ j) (h2 : j ≤ 1000) : RgC 0 j 9 ((j - 1) / 9 + 1).toNat := by
  have e : Builtin.Range.rangeSize 0 j 9 = (j - 1) / 9 + 1 := by
    unfold Builtin.Range.rangeSize
    rw [if_pos (by decide), if_pos (by omega), show j - 0 - 1 = j - 1 by omega]
  refine ⟨by decide, by decide, ?_, by rw [e]; omega⟩
  unfold Builtin.Range.small
  rw [e]
  simp only [Builtin.Range.rangeFitsLong, Bool.and_eq_true, Bool.or_eq_true, decide_eq_true_eq, beq_iff_eq]
  simp
  omega
end WP

namespace WJ
open PySem PySem.W PySem.Calls PyProof.Rows PySem.SC
section
variable {prog : Program} {w : World} {A : Around} {E : Value → Shared → Prop} {s : Shared}
/-- x.join(reversed(a list)): the walk backwards is collected, then glued -/
theorem join_rev {x : Str} {t : Tok} {ys : List Str} {it l : Addr} {its : Array Value} {Q : Value → Shared → Prop} (hh : A.handled = none)
    (hi : s.heap.IsRevIter it l ((its.size : Int) - 1)) (hl : s.heap.IsList l its) (ne : l ≠ it) (hn : its.size ≤ sizeLine)
    (hy : ∀ acc : Array Value, ItemsOf (fun i v => its[its.size - 1 - i]? = some v) acc its.size → StrsAre acc.toList ys) (fit : (ys.map (·.length)).sum + ys.length * x.length ≤ 16777216)
    (done : ∀ (h' : Heap) (t' : Tok) (k : Nat), (∀ b o, b ≠ it → s.heap.get? b = some o → h'.get? b = some o) → Q (.str (Txt.join x ys) t') { s with heap := h', toks := k }) :
    wpAny (model prog w) A (call (.builtin "str.join") [.str x t, .ref it]) Q E s := by
  have T : s.TypeIs (.ref it) "list_reverseiterator" := Heap.IsRevIter.typeIs hi
  refine wpAny_call (codeAny_call_builtin F.slot_str_join.plain F.entry_str_join ?_)
  refine F.slot_str_join.check _ _ _ _ _ _ _ _ (typeIs_str _ _ _) (F.args_str_join_2 _ _) ?_
  rw [join_tree_other]
  refine wpAny_bind (wpAny_typeOf T ?_)
  show wpAny _ A.in1 ((pyIter (.ref it)).tryCatch _ >>= fun j => collect j >>= fun zs => joinTail x zs) _ _ s
  refine wpAny_bind (wpAny_tryCatch (wpAny_pyIter_revIter hi ?_))
  refine wpAny_bind (RT.collect_rev hh hi hl ne hn fun h' k acc kept got => ?_)
  obtain ⟨ts, et, ey⟩ := strsAre_values (hy acc got)
  subst ey
  rw [et]
  have ok := joinOk_of fit
  unfold JoinOk at ok
  rw [Bool.not_eq_true'] at ok
  have G : Gives (joinTail x (strValues ts)) (joinMade x ts) := by
    rcases ts with _ | ⟨_, _ | ⟨_, _⟩⟩ <;> exact gives_joinTail x _ ok
  refine G prog w A (wants Q E) { s with heap := h', toks := k } (post_join ts ⟨joinFit_length ok, fun t' k' => ?_⟩)
  exact done h' t' k' kept
end
end WJ
namespace WP
open PySem PySem.Spec PyProof.Rows L2
/-- sep.join(reversed(xs)), xs a list of texts -/
def tJoinRev (K : PySem.W.Frag) (to te : TE) : TE := fun σ H Q => to σ H fun x H1 => (∃ a, x = .str a) ∧ te σ H1 fun v H2 => ∃ (a : Str) (q : Addr) (ys : List Str),
  x = .str a ∧ v = .ref q ∧ SqL K H2 q (ys.map V.str) ∧ ((ys.map (·.length)).sum + ys.length * a.length ≤ 16777216) ∧ Q (.str (Txt.join a ys.reverse)) H2
theorem pe_joinRev {X : Cx} {o e : Expr} {to te : TE} {apos pos p2 pos2 : Pos} (hc : X.calm = true) (ho : PE X o to) (hg : Gl X "reversed") (hm : X.mg "reversed" = none) (he : PE X e te)
    (hs1 : starEach [.Call (.Name "reversed" p2) [e] [] pos2] X.env = [(false, eval (.Call (.Name "reversed" p2) [e] [] pos2) X.env)] := by rfl)
    (hs : starEach [e] X.env = (false, eval e X.env) :: starEach [] X.env := by rfl)
    (hbase : attributeBase o "join" X.env (eval o X.env) = eval o X.env := by rfl) (hline : (apos.endLine == pos.line) = true := by rfl) :
    PE X (.Call (.Attribute o "join" apos) [.Call (.Name "reversed" p2) [e] [] pos2] [] pos) (tJoinRev X.K to te) := by
  refine ⟨fun pins s σ H Q I h => ?_⟩
  refine PySem.Call_method1 hbase hs1 hline (thn (ho.run pins s σ H _ I h) fun v s1 ⟨x, H1, I1, r1, q1⟩ => ?_)
  obtain ⟨⟨a, rfl⟩, q1⟩ := q1
  obtain ⟨t, rfl⟩ := _root_.id r1
  refine ⟨"str", _, F.plainAttrs_str, F.slot_str_join, F.type_str_join, typeIs_str _ _ _, (fun _ e => nomatch e), Calls.callWith_builtin rfl (Calls.evalArgs_plain (Calls.spliced_cons ?_))⟩
  refine Call_ (ld_blt I1 hg hm PyProof.Rows.boot_reversed (PyProof.Rows.callWith_type1 (args_cons (thn (he.run pins s1 σ H1 _ I1 q1) fun u s2 ⟨v2, H2, I2, r2, q2⟩ => args_nil ?_) hs) hs rfl))
  obtain ⟨a', q, ys, ea, ev, hq, hz, q2⟩ := q2
  cases ea
  subst ev
  obtain rfl : u = Value.ref q := r2
  obtain ⟨its, rv, pl, hsz⟩ := I2.list hq
  refine call_reversed_list pl.isList (Calls.spliced_nil ?_)
  have k0 : ∀ b o, s2.heap.get? b = some o → (s2.heap.push (revObj q ((its.toArray.size : Int) - 1))).get? b = some o := fun b o e => Heap.get?_push_of_some _ e
  have I3 : Inv X pins σ H2 { s2 with heap := s2.heap.push (revObj q ((its.toArray.size : Int) - 1)) } := I2.kept (t' := s2.toks) k0
  obtain ⟨f0, f1, f2, f3, f4, f5⟩ := I2.fpOk (H' := H2) (b := s2.heap.objs.size) (Nat.le_refl _) (I2.hok.fresh (Nat.le_refl _))
  have hl := pl.isList
  obtain ⟨ol, hol, _⟩ := _root_.id hl
  refine WJ.join_rev (s := { s2 with heap := s2.heap.push (revObj q ((its.toArray.size : Int) - 1)) }) (ys := ys.reverse) (I2.ok.hd hc) ⟨_, Heap.get?_push_size _ rfl, rfl, rfl⟩ (hl.push _) (Nat.ne_of_lt (Heap.lt_size hol))
    (by rw [List.size_toArray, ← rv.length]; exact hsz) (fun acc hacc => ?_) (by rw [List.map_reverse, List.sum_reverse, List.length_reverse]; exact hz) fun h' t' k hk => ?_
  · have z := RT.vals_rev rv hacc
    rw [← List.map_reverse] at z
    exact strs_of_vals z
  · exact ⟨.str _, H2, I3.turned (t' := k) (fun b o hb e => hk b o hb e) f0 f1 f3 f4 f5, ⟨t', rfl⟩, q2⟩
end WP
namespace WP
open PySem PySem.Spec PyProof.Rows L2
theorem jr {K : PySem.W.Frag} {to te : TE} {σ : L2.St} {H : Hp} {Q : VK} (h : to σ H fun x H1 => (∃ a, x = .str a) ∧ te σ H1 fun v H2 => ∃ (a : Str) (q : Addr) (ys : List Str),
  x = .str a ∧ v = .ref q ∧ SqL K H2 q (ys.map V.str) ∧ ((ys.map (·.length)).sum + ys.length * a.length ≤ 16777216) ∧ Q (.str (Txt.join a ys.reverse)) H2) : tJoinRev K to te σ H Q := h
theorem joinL_nil : ∀ l : List (List Nat), TL.joinL [] l = l.flatten
  | [] => rfl
  | [p] => by simp [TL.joinL]
  | p :: q :: r => by rw [TL.joinL, joinL_nil (q :: r)]; simp
theorem join_nilS (ys : List (List Nat)) : Txt.join (SX.S []) (ys.map SX.S) = SX.S ys.flatten := by rw [SX.join_S, joinL_nil]
end WP

namespace WP
open PySem PySem.Spec PyProof.Rows L2
open SX (S S_len S_cat)
/-! ### tuples and dicts of the module -/
structure KTp (K : PySem.W.Frag) (mg : MG) (nm : Str) (xs : List V) : Prop where
  m : mg nm = some (.ref (ca mg nm))
  s : ∀ H, SqT K H (ca mg nm) xs
theorem KTp.mk' {K : PySem.W.Frag} {mg : MG} {nm : Str} {C : Addr} {xs : List V} (h : mg nm = some (.ref C)) (x : ∀ H, SqT K H C xs) : KTp K mg nm xs := by
  have e := ca_of h
  exact ⟨by rw [e]; exact h, by rw [e]; exact x⟩
structure KDc (K : PySem.W.Frag) (w : World) (mg : MG) (nm : Str) (l : List (Str × V)) : Prop where
  m : mg nm = some (.ref (ca mg nm))
  s : ∀ p ∈ l, KDct K w (ca mg nm) p.1 p.2
theorem KDc.mk' {K : PySem.W.Frag} {w : World} {mg : MG} {nm : Str} {C : Addr} {l : List (Str × V)} (h : mg nm = some (.ref C)) (x : ∀ p ∈ l, KDct K w C p.1 p.2) : KDc K w mg nm l := by
  have e := ca_of h
  exact ⟨by rw [e]; exact h, by rw [e]; exact x⟩
theorem kdc_cons {K : PySem.W.Frag} {w : World} {C : Addr} {k : Str} {v : V} {l : List (Str × V)} (h : KDct K w C k v) (t : ∀ p ∈ l, KDct K w C p.1 p.2) : ∀ p ∈ (k, v) :: l, KDct K w C p.1 p.2 := fun p hp => by
  rcases List.mem_cons.mp hp with e | e
  · subst e; exact h
  · exact t p e
section
variable {X : Cx}
theorem pe_ktup {x : Str} {xs : List V} {pos : Pos} (hg : Gl X x) (h : KTp X.K X.mg x xs) (hd : (x == ("__debug__" : Str)) = false := by decide) : PE X (.Name x pos) (tC (.ref (ca X.mg x))) := pe_glob hg h.m rfl hd
def rUpper : V → List V → Hp → VK → Prop := fun x xs H Q => ∃ a, x = .str a ∧ xs = [] ∧ a.length ≤ 5592405 ∧ Q (.str (Txt.upper a)) H
theorem m_upper : MtR X "str.upper" rUpper := mt_upper
theorem pe_dgetD {o e f : Expr} {td ty tx : TE} {apos cpos : Pos} (hu : X.A.units + 1 < cLine) (ho : PE X o td) (he : PE X e ty) (hf : PE X f tx) (m : M2 X o "get" apos e f cpos) : PE X (.Call (.Attribute o "get" apos) [e, f] [] cpos) (tDGet2 td ty tx) :=
  pe_dget2 hu ho he hf m
end
section
variable {K : PySem.W.Frag} {w : World} {σ : L2.St} {H : Hp} {Q : VK} {l : List Nat} {i : Int} {c : Nat}
theorem ixS1 (a : atI l i = some c) (hz : l.length ≤ sizeLine) (q : Q (.str (S [c])) H) : rIxS (.str (S l)) (.int i) H Q := ⟨S l, i, c, rfl, rfl, by rw [S_len]; exact hz, a, q⟩
theorem wstr {te : TE} {R : It → Hp → Prop} (h : te σ H fun v H1 => ∃ x, v = .str x ∧ R (Its x) H1) : iStr te σ H R := h
theorem upS (h : l.all (· < 128) = true) (hl : l.length ≤ 1000) (q : Q (.str (S (l.map up1))) H) : rUpper (.str (S l)) [] H Q := ⟨_, rfl, rfl, by rw [S_len]; omega, by rw [SX.upper_S h]; exact q⟩
theorem inV_S {s : List Nat} : ∀ {ls : List (List Nat)}, inV (.str (S s)) (ls.map fun a => V.str (S a)) = decide (s ∈ ls)
  | [] => rfl
  | a :: ls => by
    show (eqV (.str (S a)) (.str (S s)) || inV (.str (S s)) (ls.map fun a => V.str (S a))) = _
    rw [inV_S]
    show ((S a == S s) || _) = _
    rw [SX.S_beq_eq]
    by_cases h : a = s
    · subst h; simp
    · rw [decide_eq_false h, Bool.false_or]
      congr 1
      exact propext ⟨fun z => List.mem_cons_of_mem _ z, fun z => by
        rcases List.mem_cons.mp z with z | z
        · exact absurd z.symm h
        · exact z⟩
theorem flat_S : ∀ (ls : List (List Nat)), (ls.map fun a => V.str (S a)).all flatV = true
  | [] => rfl
  | a :: ls => flat_S ls
/-- a text in a tuple, a list of texts -/
theorem inT (ls : List (List Nat)) {p : Addr} {xs : List V} {s : List Nat} (h : SqT K H p xs) (e : xs = ls.map fun a => V.str (S a)) (q : Q (.bl (decide (s ∈ ls))) H) : rIn K false (.str (S s)) (.ref p) H Q := by
  subst e
  exact ⟨p, _, rfl, .inr h, rfl, flat_S ls, by rw [inV_S]; exact q⟩
theorem inL (ls : List (List Nat)) {p : Addr} {xs : List V} {s : List Nat} (h : SqL K H p xs) (e : xs = ls.map fun a => V.str (S a)) (q : Q (.bl (decide (s ∈ ls))) H) : rIn K false (.str (S s)) (.ref p) H Q := by
  subst e
  exact ⟨p, _, rfl, .inl h, rfl, flat_S ls, by rw [inV_S]; exact q⟩
/-- a sign in a text -/
def rInSign : R2 := fun x y H Q => ∃ (c : Nat) (z : Str), x = .str ⟨#[c]⟩ ∧ y = .str z ∧ Q (.bl (decide (c ∈ z.cps.toList))) H
theorem op_inSign {X : Cx} : OpR X (compareOp .In) rInSign := op_in_sign
theorem inSign (q : Q (.bl (decide (c ∈ l))) H) : rInSign (.str (S [c])) (.str (S l)) H Q := ⟨c, S l, rfl, rfl, q⟩
theorem ixK {nm : Str} {mg : MG} {ls : List (Str × V)} {s : Str} {v : V} (h : KDc K w mg nm ls) (m : (s, v) ∈ ls) (q : Q v H) : rIxD K w (.ref (ca mg nm)) (.str s) H Q := ⟨_, _, _, rfl, rfl, h.s _ m, q⟩
/-- displays of one and two pairs -/
theorem disp1 {a : Str} {v : V} (q : ∀ p, H p = none → Q (.ref p) (upd (upd H p (.dK [])) p (.dK [(.inr a, v)]))) : tDisp [(tC (.str a), tC v)] σ H Q := fun p hp =>
  ⟨upd_same, [(.inr a, v)], rfl, show 1 ≤ 15 by decide, q p hp⟩
theorem disp2 {a b : Str} {v u : V} (ne : ¬ a = b) (q : ∀ p, H p = none → Q (.ref p) (upd (upd H p (.dK [])) p (.dK [(.inr a, v), (.inr b, u)]))) : tDisp [(tC (.str a), tC v), (tC (.str b), tC u)] σ H Q := fun p hp =>
  ⟨upd_same, [(.inr a, v), (.inr b, u)], rfl, show 2 ≤ 15 by decide, by
    have e : mergeK [] [((Sum.inr a : Key), v), ((Sum.inr b : Key), u)] = [((Sum.inr a : Key), v), ((Sum.inr b : Key), u)] := by
      show putK (putK ([] : List (Key × V)) (Sum.inr a) v) (Sum.inr b) u = _
      have e1 : putK ([] : List (Key × V)) (Sum.inr a) v = [((Sum.inr a : Key), v)] := rfl
      rw [e1]
      unfold putK
      rw [if_neg (by simp [ne])]
      rfl
    rw [e]; exact q p hp⟩
theorem same_disp {p : Addr} {o u : HO} (hp : H p = none) : Same H (upd (upd H p o) p u) := fun b x e => by
  rw [upd_ne (ne_of_none e hp), upd_ne (ne_of_none e hp)]; exact e
end
end WP
namespace WP
open PySem PySem.Spec PyProof.Rows L2
theorem bm0 {K : PySem.W.Frag} {σ : L2.St} {H : Hp} {Q : VK} {T : String} {r : V → List V → Hp → VK → Prop} {to : TE} (h : to σ H fun x H1 => tyV K T x H1 ∧ r x [] H1 Q) : tBM0 K T r to σ H Q := h
/-- a for over the signs of a text -/
theorem for_txt {l : List Nat} {g : TG} {tb : TS} {D : Ends} {σ : L2.St} {H : Hp} (Pv : Nat → L2.St → Hp → Prop) (h0 : Pv 0 σ H)
    (hs : ∀ i c σ H, l[i]? = some c → Pv i σ H → g (.str (SX.S [c])) σ H fun σ2 H2 => tb { D with nx := Pv (i + 1), ct := Pv (i + 1), bk := D.nx } σ2 H2) (hd : ∀ σ H, Pv l.length σ H → D.nx σ H) :
    ∃ W : Nat → Nat → L2.St → Hp → Prop, (∃ m, W 0 m σ H) ∧ ∀ i m σ H, W i m σ H →
      ((Its (SX.S l)).stop i H ∧ D.nx σ H) ∨ ((Its (SX.S l)).go i H ∧ ∃ N : L2.St → Hp → Prop, (∀ σ' H', N σ' H' → ∃ m', m' < m ∧ W (i + 1) m' σ' H') ∧ ∀ x H', (Its (SX.S l)).yld i H x H' → g x σ H' fun σ2 H2 => tb { D with nx := N, ct := N, bk := D.nx } σ2 H2) := by
  have e : (SX.S l).cps.size = l.length := by simp [SX.S]
  refine for_it walk_str Pv h0 (fun _ _ _ _ _ => True.intro) (fun i x σ H H' hi p y => ?_) fun σ H p => hd σ H (by rw [← e]; exact p)
  obtain ⟨rfl, c, hc, rfl⟩ := y
  refine hs i c σ H' ?_ p
  simpa [SX.S] using hc
end WP
namespace WP
open PySem PySem.Spec PyProof.Rows L2
theorem pe_kdict {X : Cx} {x : Str} {xs : List (Str × V)} {pos : Pos} (hg : Gl X x) (h : KDc X.K X.w X.mg x xs) (hd : (x == ("__debug__" : Str)) = false := by decide) : PE X (.Name x pos) (tC (.ref (ca X.mg x))) := pe_glob hg h.m rfl hd
end WP
namespace WP
open PySem PySem.Spec PyProof.Rows L2
theorem lc {wi : TI} {g : TG} {tt : TT} {te : TE} {vs : List Nat} {σ : L2.St} {H : Hp} {Q : VK} (h : wi σ H fun J H1 => ∀ D, H1 D = none → ∃ W : Nat → Nat → Hp → Prop, (∃ m, W 0 m (upd H1 D (.lst []))) ∧ ∀ i m H, W i m H →
    (J.stop i H ∧ Q (.ref D) H) ∨ (J.go i H ∧ ∃ Nx : Hp → Prop, (∀ H', Nx H' → ∃ m', m' < m ∧ W (i + 1) m' H') ∧ ∀ x H', J.yld i H x H' → g x (wipe σ vs) H' fun σ2 H2 => wipe σ2 vs = wipe σ vs ∧ tt σ2 H2 fun b H3 =>
      if b = true then te σ2 H3 fun y H4 => ∃ acc, H4 D = some (.lst acc) ∧ acc.length < sizeLine ∧ Nx (upd H4 D (.lst (acc ++ [y]))) else Nx H3)) : tLc wi g tt te vs σ H Q := h
theorem lc_txt {l : List Nat} {g : TG} {tt : TT} {te : TE} {vs : List Nat} {σ : L2.St} {H1 : Hp} {D : Addr} {Qd : Hp → Prop} (Pv : Nat → Hp → Prop) (h0 : Pv 0 (upd H1 D (.lst [])))
    (hs : ∀ i c H, l[i]? = some c → Pv i H → g (.str (SX.S [c])) (wipe σ vs) H fun σ2 H2 => wipe σ2 vs = wipe σ vs ∧ tt σ2 H2 fun b H3 =>
      if b = true then te σ2 H3 fun y H4 => ∃ acc, H4 D = some (.lst acc) ∧ acc.length < sizeLine ∧ Pv (i + 1) (upd H4 D (.lst (acc ++ [y]))) else Pv (i + 1) H3) (hd : ∀ H, Pv l.length H → Qd H) :
    ∃ W : Nat → Nat → Hp → Prop, (∃ m, W 0 m (upd H1 D (.lst []))) ∧ ∀ i m H, W i m H →
      ((Its (SX.S l)).stop i H ∧ Qd H) ∨ ((Its (SX.S l)).go i H ∧ ∃ Nx : Hp → Prop, (∀ H', Nx H' → ∃ m', m' < m ∧ W (i + 1) m' H') ∧ ∀ x H', (Its (SX.S l)).yld i H x H' → g x (wipe σ vs) H' fun σ2 H2 => wipe σ2 vs = wipe σ vs ∧ tt σ2 H2 fun b H3 =>
        if b = true then te σ2 H3 fun y H4 => ∃ acc, H4 D = some (.lst acc) ∧ acc.length < sizeLine ∧ Nx (upd H4 D (.lst (acc ++ [y]))) else Nx H3) := by
  have e : (SX.S l).cps.size = l.length := by simp [SX.S]
  refine lc_it walk_str Pv h0 (fun _ _ _ _ => True.intro) (fun i x H H' hi p y => ?_) fun H p => hd H (by rw [← e]; exact p)
  obtain ⟨rfl, c, hc, rfl⟩ := y
  refine hs i c H' ?_ p
  simpa [SX.S] using hc
theorem at_S {ls : List (List Nat)} {i : Int} (h0 : 0 ≤ i) (h1 : i < (ls.length : Int)) : ∃ a ∈ ls, atI (ls.map fun a => V.str (SX.S a)) i = some (.str (SX.S a)) := by
  obtain ⟨j, rfl⟩ : ∃ j : Nat, i = (j : Int) := ⟨i.toNat, by omega⟩
  have hj : j < ls.length := by omega
  exact ⟨ls[j], List.getElem_mem hj, atI_nat (by rw [List.getElem?_map, List.getElem?_eq_getElem hj]; rfl)⟩
end WP
namespace WP
open PySem PySem.Spec PyProof.Rows L2
theorem dget2 {td ty tx : TE} {σ : L2.St} {H : Hp} {Q : VK} (h : td σ H fun x H1 => ∃ a, x = .ref a ∧ IsD H1 a ∧ ty σ H1 fun y H2 => tx σ H2 fun z H3 => ∃ o, DGet H3 a y o ∧ Q (o.getD z) H3) : tDGet2 td ty tx σ H Q := h
theorem dget {td ty : TE} {σ : L2.St} {H : Hp} {Q : VK} (h : td σ H fun x H1 => ty σ H1 fun y H2 => ∃ a v, x = .ref a ∧ DGet H2 a y (some v) ∧ Q v H2) : tDGet td ty σ H Q := h
theorem at_I {ls : List Int} {i : Int} (h0 : 0 ≤ i) (h1 : i < (ls.length : Int)) : ∃ a, atI (ls.map V.int) i = some (.int a) := ⟨_, at_ints h0 h1⟩
theorem valV1 {a c : List Nat} {v : V} : valV [((Sum.inr (SX.S a) : Key), v)] (Sum.inr (SX.S c)) = if a = c then some v else none := by
  by_cases h : a = c
  · subst h; rw [if_pos rfl]; exact valV_pos rfl
  · rw [if_neg h]; exact (valV_neg fun e => h (SX.S_inj (Sum.inr.inj e))).trans valV_nil
theorem valV2 {a b c : List Nat} {v u : V} : valV [((Sum.inr (SX.S a) : Key), v), ((Sum.inr (SX.S b) : Key), u)] (Sum.inr (SX.S c)) = if a = c then some v else if b = c then some u else none := by
  by_cases h : a = c
  · subst h; rw [if_pos rfl]; exact valV_pos rfl
  · rw [if_neg h]; exact (valV_neg fun e => h (SX.S_inj (Sum.inr.inj e))).trans valV1
end WP
namespace WP
open PySem PySem.Spec PyProof.Rows L2
theorem andOr {σ : L2.St} {H : Hp} {Q : VK} {ta tb tc : TE} {x y z : Bool} (ha : ∀ Q : VK, Q (.bl x) H → ta σ H Q) (hb : ∀ Q : VK, Q (.bl y) H → tb σ H Q) (hc : ∀ Q : VK, Q (.bl z) H → tc σ H Q)
    (q : Q (.bl (x && (y || z))) H) : tAndV ta (tOrV tb tc) σ H Q := by
  refine WP.andV (ha _ ⟨x, rfl, ?_⟩)
  cases x with
  | false => exact q
  | true =>
    refine WP.brT rfl (WP.orV (hb _ ⟨y, rfl, ?_⟩))
    cases y with
    | true => exact q
    | false => exact WP.brF rfl (hc _ q)
end WP
namespace WP
open PySem PySem.Spec PyProof.Rows L2
def rNotInSign : R2 := fun x y H Q => ∃ (c : Nat) (z : Str), x = .str ⟨#[c]⟩ ∧ y = .str z ∧ Q (.bl (!decide (c ∈ z.cps.toList))) H
theorem op_notInSign {X : Cx} : OpR X (compareOp .NotIn) rNotInSign := op_notIn_sign
theorem notInSign {c : Nat} {l : List Nat} {H : Hp} {Q : VK} (q : Q (.bl (!decide (c ∈ l))) H) : rNotInSign (.str (SX.S [c])) (.str (SX.S l)) H Q := ⟨c, SX.S l, rfl, rfl, q⟩
end WP
namespace WP
open PySem PySem.Spec PyProof.Rows L2
theorem chain {r r' : R2} {ta tb tc : TE} {σ : L2.St} {H : Hp} {Q : VK} (h : ta σ H fun x H1 => tb σ H1 fun y H2 => r x y H2 fun z H3 => ∃ k, z = .bl k ∧ (if k = true then tc σ H3 fun w' H4 => r' y w' H4 Q else Q (.bl false) H3)) : tChain r r' ta tb tc σ H Q := h
theorem notInL {K : PySem.W.Frag} {H : Hp} {Q : VK} (ls : List (List Nat)) {p : Addr} {xs : List V} {s : List Nat} (h : SqL K H p xs) (e : xs = ls.map fun a => V.str (SX.S a)) (q : Q (.bl (!decide (s ∈ ls))) H) : rIn K true (.str (SX.S s)) (.ref p) H Q := by
  subst e
  exact ⟨p, _, rfl, .inl h, rfl, flat_S ls, by rw [inV_S]; exact q⟩
end WP
namespace WP
open PySem PySem.Spec PyProof.Rows L2
theorem yes {σ : L2.St} {H : Hp} {t : Hp → Prop} {u : Hp → Prop} (h : t H) : tYes σ H (fun b H3 => if b = true then t H3 else u H3) := by
  show (if true = true then t H else u H)
  rw [if_pos rfl]; exact h
end WP
namespace WP
open PySem PySem.Spec PyProof.Rows L2
/-- text[i:j], both from the front -/
theorem slice_both {l : List Nat} {i j : Int} (h0 : 0 ≤ i) (h1 : i ≤ j) : Txt.slice (SX.S l) (some i) (some j) = SX.S ((l.drop i.toNat).take (j - i).toNat) := by
  have hl : ((SX.S l).length : Int) = (l.length : Int) := by rw [SX.S_len]
  by_cases hj : j ≤ (l.length : Int)
  · exact beq_iff_eq.mp (PyProof.Rows.slice_closesL (x := SX.S l) h0 h1 (by omega))
  · have e2 : Txt.slice (SX.S l) (some i) (some j) = Txt.slice (SX.S l) (some i) (some (l.length : Int)) := by
      unfold Txt.slice
      rw [SX.S_len, SX.idx_hi (by omega)]
    rw [e2]
    by_cases hi : i ≤ (l.length : Int)
    · have e := beq_iff_eq.mp (PyProof.Rows.slice_closesL (x := SX.S l) (j := (l.length : Int)) h0 hi (by omega))
      refine e.trans ?_
      show SX.S ((l.drop i.toNat).take ((l.length : Int) - i).toNat) = _
      rw [List.take_of_length_le (by rw [List.length_drop]; omega), List.take_of_length_le (by rw [List.length_drop]; omega)]
    · have e3 : Txt.slice (SX.S l) (some i) (some (l.length : Int)) = SX.S [] := by
        have hb := PyProof.Rows.slice_beyond (x := SX.S l) (i := i) (by omega)
        have hf := SX.slice_from (a := l) h0
        have e4 : Txt.slice (SX.S l) (some i) (some (l.length : Int)) = Txt.slice (SX.S l) (some i) none := by
          unfold Txt.slice
          rw [SX.S_len]
          have a1 : ¬ ((l.length : Int) < 0) := by omega
          have a2 : (1 : Int) > 0 := by decide
          simp only [Builtin.Str.strSliceIndices, a1, a2, if_false, if_true, Int.min_self, Int.max_eq_right (Int.natCast_nonneg l.length)]
        rw [e4, hf, List.drop_eq_nil_of_le (by omega)]
      rw [e3, List.drop_eq_nil_of_le (by omega), List.take_nil]
theorem slBoth {l : List Nat} {i j : Int} {H : Hp} {Q : VK} (h0 : 0 ≤ i) (h1 : i ≤ j) (h : l.length ≤ sizeLine) (q : Q (.str (SX.S ((l.drop i.toNat).take (j - i).toNat))) H) : rSlS (.str (SX.S l)) (some i) (some j) H Q := slS _ (by rw [SX.S_len]; exact h) (by rw [slice_both h0 h1]; exact q)
end WP
namespace WP
open PySem PySem.Spec PyProof.Rows L2
theorem m_lstripC {X : Cx} : MtR X "str.lstrip" (fun x xs H Q => ∃ a b, x = .str a ∧ xs = [.str b] ∧ a.length ≤ sizeLine ∧ Q (.str (Txt.lstripChars a b)) H) := mt_lstripChars
end WP
namespace WP
open PySem PySem.Spec PyProof.Rows L2
/-- in a comprehension's block: the fragment and the module named -/
theorem pe_ktupK {X : Cx} {K : PySem.W.Frag} {mg : MG} {x : Str} {xs : List V} {pos : Pos} (hg : Gl X x) (h : KTp K mg x xs) (hK : X.K = K) (hm : X.mg = mg) (hd : (x == ("__debug__" : Str)) = false := by decide) : PE X (.Name x pos) (tC (.ref (ca mg x))) := by
  subst hK hm
  exact pe_ktup hg h hd
theorem op_inK {X : Cx} {K : PySem.W.Frag} (h : X.K = K) : OpR X (compareOp .In) (rIn K false) := by subst h; exact op_in_seq
theorem op_notInK {X : Cx} {K : PySem.W.Frag} (h : X.K = K) : OpR X (compareOp .NotIn) (rIn K true) := by subst h; exact op_notIn_seq
end WP
namespace WP
open PySem PySem.Spec PyProof.Rows L2
theorem notInT {K : PySem.W.Frag} {H : Hp} {Q : VK} (ls : List (List Nat)) {p : Addr} {xs : List V} {s : List Nat} (h : SqT K H p xs) (e : xs = ls.map fun a => V.str (SX.S a)) (q : Q (.bl (!decide (s ∈ ls))) H) : rIn K true (.str (SX.S s)) (.ref p) H Q := by
  subst e
  exact ⟨p, _, rfl, .inr h, rfl, flat_S ls, by rw [inV_S]; exact q⟩
end WP

namespace WP
open PySem PySem.Spec PyProof.Rows L2 GxR
section
variable {X : Cx} {pins : List (Addr × Obj)} {σ : L2.St} {H : Hp} {s : Shared}
/-- the generator expression's scope in the def's scope sc -/
structure GenSc (sc scope : Scope) (x : Str) : Prop where
  kind : scope.kind = .function
  co : scope.isCoroutine = false
  cell : ∀ y ∈ scope.names, y.2 ≠ .cell
  dot : scope.names.lookup (".0" : Str) = some NameKind.local
  loc : scope.names.lookup x = some .local
  free : ∀ y ∈ scope.names, y.2 = .free → sc.names.lookup y.1 = some .cell ∨ sc.names.lookup y.1 = some .free
def gscB (sc scope : Scope) (x : Str) : Bool :=
  decide (scope.kind = .function) && !scope.isCoroutine && scope.names.all (fun y => !decide (y.2 = .cell)) && decide (scope.names.lookup (".0" : Str) = some NameKind.local) && decide (scope.names.lookup x = some .local) &&
    scope.names.all (fun y => !decide (y.2 = .free) || decide (sc.names.lookup y.1 = some .cell ∨ sc.names.lookup y.1 = some .free))
theorem gsc_by {sc scope : Scope} {x : Str} (h : gscB sc scope x = true) : GenSc sc scope x := by
  unfold gscB at h
  simp only [Bool.and_eq_true, Bool.not_eq_true', decide_eq_true_eq, List.all_eq_true, Bool.or_eq_true, decide_eq_false_iff_not] at h
  obtain ⟨⟨⟨⟨⟨h1, h2⟩, h3⟩, h4⟩, h5⟩, h6⟩ := h
  exact ⟨h1, h2, h3, h4, h5, fun y hy e => (h6 y hy).elim (fun z => absurd e z) id⟩
/-- what the walked thing xv gives in the state s1: n items, the i-th one as Pf tells -/
def ItOk (X : Cx) (P : Addr) (s1 : Shared) (xv : Value) (n : Nat) (Pf : Nat → Value → Prop) : Prop :=
  ∃ fpx : List Addr, (∀ b ∈ fpx, b < s1.heap.objs.size ∧ b ≠ P) ∧ ∀ (Q : Value → Shared → Prop),
    (∀ (o : Obj) (St : Nat → Heap → Prop), (∀ A' : Around, A'.handled = none → Walks X.prog X.w A' s1.heap.objs.size (s1.heap.objs.size :: fpx) [s1.heap.objs.size] n Pf St) → St 0 (s1.heap.push o) →
      Q (.ref s1.heap.objs.size) { s1 with heap := s1.heap.push o }) → wpAny (model X.prog X.w) X.A (pyIter xv) Q X.xe s1
theorem itOk_str {P : Addr} {s1 : Shared} {a : Str} {t : Tok} : ItOk X P s1 (.str a t) a.cps.size (SignAt a) :=
  ⟨[], (fun b hb => by cases hb), fun Q h => wpAny_pyIter_str fun o St W hst => h o St W hst⟩
theorem itOk_list {P : Addr} {s1 : Shared} {q : Addr} {its : Array Value} (hl : s1.heap.IsList q its) (hP : q ≠ P) : ItOk X P s1 (.ref q) its.size (fun i v => its[i]? = some v) := by
  obtain ⟨ol, hol, _⟩ := _root_.id hl
  have hlt := Heap.lt_size hol
  refine ⟨[q], fun b hb => ?_, fun Q h => wpAny_pyIter_list hl (h _ _ (fun A' hA => Walks.list hA _ q (Nat.ne_of_lt hlt) its) ⟨⟨_, Heap.get?_push_size _ rfl, rfl, rfl⟩, hl.push _⟩)⟩
  rcases List.mem_cons.mp hb with z | z
  · rw [z]; exact ⟨hlt, hP⟩
  · cases z
/-- the element in the generator's own frame -/
def EltG (X : Cx) (P : Addr) (scope : Scope) (x : Str) (elt : Expr) (s1 : Shared) (Pf : Nat → Value → Prop) (pb : Nat → Bool) : Prop :=
  ∀ (cenv : Env) (A' : Around) (E' : Value → Shared → Prop) (i : Nat) (v : Value) (s₂ : Shared) (m₂ : Str → Option Value), cenv.scope = scope → cenv.globals = X.env.globals → cenv.cells = cloFrom X.env.cells scope.names [] → A'.handled = none → Pf i v →
    s₂.heap.Ns cenv.locals m₂ → m₂ x = some v → (∀ b u, b ≠ P → s1.heap.get? b = some u → s₂.heap.get? b = some u) →
    wpAny (model X.prog X.w) A' (eval elt cenv) (fun y s₃ => y = .bool (pb i) ∧ Keeps s₂ s₃) E' s₂
def ReadyN (X : Cx) (pins : List (Addr × Obj)) (σ : L2.St) (H1 : Hp) (P : Addr) (n : Nat) (pb : Nat → Bool) (g : Addr) (s5 : Shared) : Prop :=
  ∃ (fp wr : List Addr) (G : Array GenState → Array GenState → Prop) (F : Nat → Value → Prop) (St : Nat → Shared → Prop),
    WalksS X.prog X.w X.A.in1 g fp wr G n F St ∧ St 0 s5 ∧ TruthOf X.prog X.w X.A.in1 F pb ∧ ∀ s', Moved wr G s5 s' → ∃ H2, Tabbed P H1 H2 ∧ Inv X pins σ H2 s'
theorem gen_go {c P : Addr} {elt iter : Expr} {x : Str} {px gpos : Pos} {scope : Scope} {te : TE} {k : Nat} {Q' : Value → Shared → Prop} {R : V → Hp → Prop}
    (hr : Room k X.A) (TB : TabB X.base X.mg c P) (hcode : X.env.code = .ref c) (S : GenSc X.env.scope scope x) (hi : PE X iter te)
    (hs : ∀ v, genFold iter X.env v = pure v) (I : Inv X pins σ H s) (h : te σ H fun v H1 => TabG H1 P ∧ R v H1)
    (hw : ∀ v xv H1 s1, TabG H1 P → R v H1 → RelV v xv → Inv X pins σ H1 s1 → ∃ n Pf pb, ItOk X P s1 xv n Pf ∧ EltG X P scope x elt s1 Pf pb ∧ ∀ g s5, ReadyN X pins σ H1 P n pb g s5 → Q' (.ref g) s5) :
    wpAny (model X.prog X.w) X.A (eval (.GeneratorExp elt [⟨.Name x px, iter, [], 0⟩] scope gpos) X.env) Q' X.xe s := by
  refine wpAny_GeneratorExp_walksQ hr.hd S.co (closure_ok fun y hy e => I.ok.has y.1 (S.free y hy e)) S.cell S.dot S.loc S.kind (by have := hr.dp; omega) ?_ hs
  refine thn (hi.run pins s σ H _ I h) fun xv s1 ⟨v, H1, I1, r1, ⟨ps, hP, ht⟩, q1⟩ => ?_
  obtain ⟨n, Pf, pb, ⟨fpx, hfpx, hIt⟩, hel, hQ⟩ := hw v xv H1 s1 ⟨ps, hP, ht⟩ q1 r1 I1
  refine hIt _ fun o St W hst => ?_
  have hPs : s1.heap.get? P = some { cls := .none, data := .fields ps } := I1.hok P _ hP
  have hPlt : P < s1.heap.objs.size := Heap.lt_size hPs
  have hP2 : (s1.heap.push o).get? P = some { cls := .none, data := .fields ps } := Heap.get?_push_of_some _ hPs
  have cd : PySem.W.CodeHd (s1.heap.push o) c P := TB.code.keeps fun b u e => Heap.get?_push_of_some _ (I1.bk b u e)
  have lim2 : (s1.heap.push o).NoLimit := I1.nolimit.push o
  have cont : ∀ (code : Value) (h3 : Heap) (tk : Nat) (ps' : Array Value), Heap.ExtBut P (s1.heap.push o) h3 → (s1.heap.push o).objs.size ≤ h3.objs.size → h3.get? P = some { cls := .none, data := .fields ps' } → (∃ more, ps' = ps ++ more) → TriplesOk ps'.toList →
      wpAny (model X.prog X.w) X.A (builtinsFor X.env.globals X.env.builtins) (fun bi s₄ =>
        ∃ Ia fp wr n₀ Pf St₀ pz F, Value.ref s1.heap.objs.size = .ref Ia ∧ (∀ A' : Around, A'.handled = none → Walks X.prog X.w A' Ia fp wr n₀ Pf St₀) ∧ St₀ 0 s₄.heap ∧ (∀ b ∈ fp, b < s₄.heap.objs.size) ∧ s₄.heap.NoLimit ∧ cStatics ∉ wr ∧
          (∀ href : Heap, (∀ b o, s₄.heap.get? b = some o → href.get? b = some o) →
            QuietGen X.prog X.w (genEnv scope (cloFrom X.env.cells scope.names []) s₄.heap.objs.size code bi X.env) x [] elt (List.range s₄.heap.objs.size) wr Pf pz F href) ∧
          (∀ a h₅ tk gs, gs.bare = true → s₄.heap.objs.size < a → h₅.objs.size = a + 1 → (∀ b o, s₄.heap.get? b = some o → h₅.get? b = some o) →
            WalksS X.prog X.w X.A.in4 a (a :: s₄.heap.objs.size :: List.range s₄.heap.objs.size) (s₄.heap.objs.size :: wr) (GenOnlyQ s₄.gens.size) (passing pz n₀ 0).length
              (fun j y => ∃ i, (passing pz n₀ 0)[j]? = some i ∧ F i y) (GenAt X.prog X.w X.A.in4 a s₄.gens.size s₄.heap.objs.size (List.range s₄.heap.objs.size) wr pz n₀ F) →
            GenAt X.prog X.w X.A.in4 a s₄.gens.size s₄.heap.objs.size (List.range s₄.heap.objs.size) wr pz n₀ F 0 { s₄ with gens := s₄.gens.push gs, toks := tk, heap := h₅ } →
            Q' (.ref a) { s₄ with gens := s₄.gens.push gs, toks := tk, heap := h₅ })) X.xe { s1 with heap := h3, toks := tk } := by
    intro code h3 tk ps' hx hsz hP3 hmore ht3
    obtain ⟨bm, ob, e1, e2, e3, e4, e5, e6, e7, e8⟩ := TB.bm
    have hcP : cStatics ≠ P := fun e => by
      obtain ⟨_, hns, _⟩ := I1.nolimit
      obtain ⟨o', es, ep, ho, hd, _⟩ := hns
      rw [e, hPs] at ho
      cases ho
      cases hd
    have hcl : cStatics < s1.heap.objs.size := let ⟨_, hns, _⟩ := I1.nolimit; hns.lt
    have sz2 : (s1.heap.push o).objs.size = s1.heap.objs.size + 1 := Heap.size_push ..
    have le3 : s1.heap.objs.size ≤ h3.objs.size := Nat.le_trans (Nat.le_succ _) (by have e := sz2; rw [e] at hsz; exact hsz)
    have keep3 : ∀ b u, b ≠ P → s1.heap.get? b = some u → h3.get? b = some u := fun b u hb e => hx b u hb (Heap.get?_push_of_some _ e)
    refine wpAny_builtinsFor (m := X.mg) (by rw [I1.ok.glob]; exact ((I1.mod.glob.keeps I1.bk).push o).extBut hx TB.gP) e1 e2 (keep3 _ _ e4 (I1.bk _ _ e5)) e6 e7 e8 ?_
    refine ⟨s1.heap.objs.size, s1.heap.objs.size :: fpx, [s1.heap.objs.size], n, Pf, St, (fun _ => true), (fun i y => y = .bool (pb i)), rfl, W, ?_, ?_, lim2.extBut hx hcP, ?_, ?_, ?_⟩
    · refine (W X.A hr.hd).frame _ _ _ hst fun b hb u e => hx b u (fun z => ?_) e
      rcases List.mem_cons.mp hb with z2 | z2
      · exact Nat.ne_of_lt hPlt (z.symm.trans z2)
      · exact (hfpx b z2).2 z
    · intro b hb
      rcases List.mem_cons.mp hb with z | z
      · rw [z]
        show s1.heap.objs.size < h3.objs.size
        omega
      · exact Nat.lt_of_lt_of_le (hfpx b z).1 le3
    · intro z
      rcases List.mem_cons.mp z with z | z
      · exact Nat.ne_of_lt hcl z
      · cases z
    · intro href hhref
      refine ⟨fun A' E' i v s₂ m₂ hA hPv hn hm hk => ?_, fun A' E' i v s₂ m₂ hA hPv hp hn hm hk => ?_⟩
      · simp only [List.forIn_nil]
        exact wpAny_pure ⟨rfl, keeps_refl _⟩
      · refine hel _ A' E' i v s₂ m₂ rfl rfl rfl hA hPv hn hm fun b u hb e => ?_
        have hlt := Heap.lt_size e
        refine hk b (List.mem_range.mpr ?_) (fun z => ?_) u (hhref b u (keep3 b u hb e))
        · exact Nat.lt_of_lt_of_le hlt le3
        · rcases List.mem_cons.mp z with z | z
          · exact Nat.ne_of_lt hlt z
          · cases z
    · intro g h5 tk5 gs hgb hag hsz5 hk5 W5 hat
      simp only [GxR.passing_true, List.length_range] at W5
      refine hQ g _ ⟨_, _, _, _, _, W5.in4_1, hat, ?_, fun s' hm => ?_⟩
      · intro j y sj Qj Ej hy hQj
        obtain ⟨i, hij, rfl⟩ := hy
        obtain ⟨hj, ej⟩ := List.getElem?_eq_some_iff.mp hij
        rw [List.getElem_range] at ej
        subst ej
        exact wpAny_truthy_bool hQj
      · obtain ⟨more, em⟩ := hmore
        have nwr : ∀ b u, s1.heap.get? b = some u → b ∉ h3.objs.size :: [s1.heap.objs.size] := fun b u e hb => by
          have hl := Heap.lt_size e
          rcases List.mem_cons.mp hb with z | z
          · rw [z] at hl
            have h9 : (h3.objs.size : Nat) < s1.heap.objs.size := hl
            omega
          · rcases List.mem_cons.mp z with z | z
            · rw [z] at hl
              exact Nat.lt_irrefl _ hl
            · cases z
        have J := inv_tab (more := more) (h' := s'.heap) (g' := s'.gens) (d' := s'.drawn) (t' := s'.toks) I1 hP (fun b u hb e => hm.heap b u (nwr b u e) (hk5 b u (keep3 b u hb e)))
          (by rw [← em]; exact hm.heap P _ (nwr P _ hPs) (hk5 P _ hP3)) (AllBare.movedS (I1.bare.push hgb) hm)
        rw [sh_eta s1 s' hm.os] at J
        refine ⟨upd H1 P (.tbl (ps ++ more)), ⟨⟨ps ++ more, upd_same, by rw [← em]; exact ht3⟩, fun b hb => upd_ne hb⟩, J⟩
  refine ⟨lim2, ?_⟩
  cases hf : codeAmong gpos ps.toList with
  | none =>
    refine wpAny_genexprCodeX hcode (cd.code hP2 ht) (cd.tab hP2) hf fun c' h' tk hx hge hlt hco' _ htab' _ => ?_
    obtain ⟨o1, vs, f1, tf, fl, tg, inF, tx, tt, op, _, _, _, _, _, _, _, _, _, htr, _⟩ := hco'
    exact cont _ h' tk _ hx (Nat.le_trans hge (Nat.le_of_lt hlt)) htab'.2 ⟨_, rfl⟩ htr
  | some cv =>
    refine wpAny_genexprCode_hit hcode (cd.code hP2 ht) hf ?_
    exact cont cv (s1.heap.push o) s1.toks ps (Heap.ExtBut.refl _ _) (Nat.le_refl _) hP2 ⟨#[], by simp⟩ ht
/-- cells of the def, seen from the generator -/
theorem clo_look {cells : List (Str × Addr)} {names : List (Str × NameKind)} {y : Str} {c : Addr} (hf : (y, NameKind.free) ∈ names) (hc : cells.lookup y = some c) : (cloFrom cells names []).lookup y = some c := by
  have h := cloFrom_has (cells := cells) (acc := []) hf
  obtain ⟨c', hc'⟩ := L2.mem_lookup h
  rw [hc']
  rcases cloFrom_mem (PySem.mem_of_lookup hc') with z | ⟨_, z⟩
  · cases z
  · rw [z, hc]; rfl
def trI (pb : Int → Bool) (l : List Int) (j : Nat) : Bool := match l[j]? with
  | some b => pb b
  | none => false
theorem trI_some {pb : Int → Bool} {l : List Int} {j : Nat} {b : Int} (h : l[j]? = some b) : trI pb l j = pb b := by
  unfold trI
  rw [h]
theorem all_trI (l : List Int) (pb : Int → Bool) : (List.range l.length).all (trI pb l) = l.all pb := by
  rw [Bool.eq_iff_iff, List.all_eq_true, List.all_eq_true]
  constructor
  · intro h b hb
    obtain ⟨j, hj, e⟩ := List.getElem_of_mem hb
    have q := h j (List.mem_range.mpr hj)
    rw [trI_some (List.getElem?_eq_getElem hj), e] at q
    exact q
  · intro h j hj
    have hj' := List.mem_range.mp hj
    rw [trI_some (List.getElem?_eq_getElem hj')]
    exact h _ (List.getElem_mem hj')
/-- x in y, y a captured text -/
theorem elt_in {P : Addr} {scope : Scope} {x y : Str} {p1 p2 p3 : Pos} {H1 : Hp} {s1 : Shared} {a z : Str} {i : Nat} (I1 : Inv X pins σ H1 s1) (hP : ∃ ps : Array Value, H1 P = some (.tbl ps))
    (hN : X.N[i]? = some y) (hv : σ[i]? = some (some (.str z))) (hk : X.env.scope.names.lookup y = some .cell) (hfr : (y, NameKind.free) ∈ scope.names) (hl : scope.names.lookup x = some .local) (hy : scope.names.lookup y = some .free) (hkd : scope.kind = .function)
    (hd : (x == ("__debug__" : Str)) = false := by decide) (hd2 : (y == ("__debug__" : Str)) = false := by decide) (hcd : (y == ("__classdict__" : Str)) = false := by decide) (hm : behindInMarks .In (.Name y p2) = false := by with_unfolding_all rfl) :
    EltG X P scope x (.Compare (.Name x p1) [.In] [.Name y p2] p3) s1 (SignAt a) (trF (fun c => decide (c ∈ z.cps.toList)) a.cps.toList) := by
  intro cenv A' E' j v s₂ m₂ e1 e2 e3 hA hPf hn hmx hkp
  obtain ⟨c, t, hc, rfl⟩ := hPf
  obtain ⟨m, hns, hloc⟩ := I1.loc
  obtain ⟨u, ru, lk⟩ := hloc i y _ hN hv (.inr (.inl hk))
  obtain ⟨t', rfl⟩ := _root_.id ru
  have hkk : X.env.kindOf y = some .cell := hk
  rcases lk with ⟨hk', _⟩ | ⟨_, cl, hcl, ⟨oc, hoc, hcd2⟩⟩
  · rw [hkk] at hk'; cases hk'
  have hcP : cl ≠ P := fun e => by
    obtain ⟨ps, hps⟩ := hP
    have q := I1.hok P _ hps
    have q' : s1.heap.get? P = some { cls := .none, data := .fields ps } := q
    rw [e, q'] at hoc
    cases hoc
    cases hcd2
  have ec : cenv.cells.lookup y = some cl := by rw [e3]; exact clo_look hfr hcl
  have hcell : s₂.heap.IsCell cl (some (.str z t')) := ⟨oc, hkp cl oc hcP hoc, hcd2⟩
  refine wpAny_Compare1 ?_ hm
  refine wpAny_Name (wpAny_loadName_local (by rw [e1]; exact hkd) (show cenv.scope.names.lookup x = some .local by rw [e1]; exact hl) hn hmx ?_) hd
  refine wpAny_Name (wpAny_loadName_free (by rw [e1]; exact hkd) (show cenv.scope.names.lookup y = some .free by rw [e1]; exact hy) ec hcell ?_ hcd) hd2
  refine PyProof.Rows.in_str ⟨?_, keeps_refl _⟩
  rw [trF_some (by rw [Array.getElem?_toList]; exact hc)]
  exact congrArg Value.bool (PySem.StrLaws.found_one z c)
/-- lo <= x <= hi and x != no, the three names of the module -/
theorem elt_rng {P : Addr} {scope : Scope} {x lo hi no : Str} {p1 p2 p3 p4 p5 p6 p7 p8 : Pos} {H1 : Hp} {s1 : Shared} {its : Array Value} {ns : List Int} {l h n : Int} {t1 t2 t3 : Tok} (I1 : Inv X pins σ H1 s1) (hP : ∃ ps : Array Value, H1 P = some (.tbl ps))
    (g1 : X.mg lo = some (.int l t1)) (g2 : X.mg hi = some (.int h t2)) (g3 : X.mg no = some (.int n t3)) (hv : Vals (ns.map V.int) its.toList)
    (hl : scope.names.lookup x = some .local) (k1 : scope.names.lookup lo = some .globalImplicit) (k2 : scope.names.lookup hi = some .globalImplicit) (k3 : scope.names.lookup no = some .globalImplicit) (hkd : scope.kind = .function)
    (d0 : (x == ("__debug__" : Str)) = false := by decide) (d1 : (lo == ("__debug__" : Str)) = false := by decide) (d2 : (hi == ("__debug__" : Str)) = false := by decide) (d3 : (no == ("__debug__" : Str)) = false := by decide) :
    EltG X P scope x (.BoolOp .And [.Compare (.Name lo p1) [.LtE, .LtE] [.Name x p2, .Name hi p3] p4, .Compare (.Name x p5) [.NotEq] [.Name no p6] p7] p8) s1 (fun i v => its[i]? = some v)
      (trI (fun c => decide (l ≤ c ∧ c ≤ h ∧ c ≠ n)) ns) := by
  intro cenv A' E' j v s₂ m₂ e1 e2 e3 hA hPf hn hmx hkp
  have hj : ∃ (c : Int) (tc : Tok), ns[j]? = some c ∧ v = .int c tc := by
    have hlen := hv.length
    obtain ⟨hjl, _⟩ := Array.getElem?_eq_some_iff.mp hPf
    have hj2 : j < ns.length := by simp only [List.length_map, Array.length_toList] at hlen; exact Nat.lt_of_lt_of_eq hjl hlen.symm
    obtain ⟨u, hu, ru⟩ := hv.get (i := j) (x := .int ns[j]) (by rw [List.getElem?_map, List.getElem?_eq_getElem hj2]; rfl)
    rw [Array.getElem?_toList, hPf] at hu
    cases hu
    obtain ⟨tc, rfl⟩ := ru
    exact ⟨_, tc, List.getElem?_eq_getElem hj2, rfl⟩
  obtain ⟨c, tc, hc, rfl⟩ := hj
  have kd : cenv.scope.kind = .function := by rw [e1]; exact hkd
  have gns : s₂.heap.Ns cenv.globals X.mg := by
    rw [e2, I1.ok.glob]
    obtain ⟨o, es, ep, ho, hd, r⟩ := I1.mod.glob.keeps I1.bk
    refine ⟨o, es, ep, hkp _ _ (fun e => ?_) ho, hd, r⟩
    obtain ⟨ps, hps⟩ := hP
    have q' : s1.heap.get? P = some { cls := .none, data := .fields ps } := I1.hok P _ hps
    rw [e, q'] at ho
    cases ho
    cases hd
  have ldx : ∀ {Q : Value → Shared → Prop} {pp : Pos}, Q (.int c tc) s₂ → wpAny (model X.prog X.w) A' (eval (.Name x pp) cenv) Q E' s₂ := fun q =>
    wpAny_Name (wpAny_loadName_local kd (show cenv.scope.names.lookup x = some .local by rw [e1]; exact hl) hn hmx q) d0
  have ldg : ∀ {y : Str} {val : Value} {Q : Value → Shared → Prop} {pp : Pos}, X.mg y = some val → scope.names.lookup y = some .globalImplicit → (y == ("__debug__" : Str)) = false → Q val s₂ → wpAny (model X.prog X.w) A' (eval (.Name y pp) cenv) Q E' s₂ := fun g k d q =>
    Calls.Name_function_global kd (show cenv.scope.names.lookup _ = some .globalImplicit by rw [e1]; exact k) (Calls.loadGlobal_global gns g q) d
  rw [trI_some hc]
  refine wpAny_And2 ?_
  refine Compare_chain (ldg g1 k1 d1 (chain_link (ldx (le_int ?_))))
  refine wpAny_truthy_bool ?_
  by_cases h1 : l ≤ c
  · rw [decide_eq_true h1]
    refine ite_tt (chain_last (ldg g2 k2 d2 (le_int ?_)))
    refine wpAny_truthy_bool ?_
    by_cases h2 : c ≤ h
    · rw [decide_eq_true h2]
      refine ite_tt (wpAny_Compare1 (ldx (ldg g3 k3 d3 (ne_int ?_))))
      refine ⟨?_, keeps_refl _⟩
      by_cases h3 : c = n
      · simp [h3]
      · simp [h1, h2, h3]
    · rw [decide_eq_false h2]
      exact ite_ff ⟨by simp [h2], keeps_refl _⟩
  · rw [decide_eq_false h1]
    refine ite_ff ?_
    refine wpAny_truthy_bool (ite_ff ⟨by simp [h1], keeps_refl _⟩)
/-- all(.. for x in e): the walked thing of the kind R, the answer b -/
theorem all_go {c P : Addr} {elt iter : Expr} {x : Str} {px p pos gpos : Pos} {scope : Scope} {te : TE} {Wf : V → Hp → L2.St → VK → Prop} {k : Nat}
    (hr : Room k X.A) (hg : Gl X "all") (hm : X.mg "all" = none) (hb : bootBuiltins "all" = some (.builtin "all")) (TB : TabB X.base X.mg c P) (hcode : X.env.code = .ref c) (S : GenSc X.env.scope scope x) (hi : PE X iter te)
    (hs : ∀ v, genFold iter X.env v = pure v)
    (he : starEach [.GeneratorExp elt [⟨.Name x px, iter, [], 0⟩] scope gpos] X.env = (false, eval (.GeneratorExp elt [⟨.Name x px, iter, [], 0⟩] scope gpos) X.env) :: starEach [] X.env)
    (hw : ∀ pins (σ : L2.St) (v : V) (xv : Value) (H1 : Hp) (s1 : Shared) (Q : VK), TabG H1 P → Wf v H1 σ Q → RelV v xv → Inv X pins σ H1 s1 → ∃ n Pf pb, ItOk X P s1 xv n Pf ∧ EltG X P scope x elt s1 Pf pb ∧ ∀ H2, Tabbed P H1 H2 → Q (.bl ((List.range n).all pb)) H2) :
    PE X (.Call (.Name "all" p) [.GeneratorExp elt [⟨.Name x px, iter, [], 0⟩] scope gpos] [] pos) (fun σ H Q => te σ H fun v H1 => TabG H1 P ∧ Wf v H1 σ Q) := by
  refine ⟨fun pins s σ H Q I h => ?_⟩
  refine wpAny_Call_Name_kw (ld_blt I hg hm hb ?_)
  refine PyProof.Rows.callWith_builtin1 ?_ he (by rfl)
  rw [he]
  show wpAny _ _ (spliced ((false, eval (.GeneratorExp elt [⟨.Name x px, iter, [], 0⟩] scope gpos) X.env) :: backTo pos (starEach [] X.env))) _ _ s
  refine Calls.spliced_cons (gen_go (R := fun v H1 => Wf v H1 σ Q) hr TB hcode S hi hs I h fun v xv H1 s1 hT q1 r1 I1 => ?_)
  obtain ⟨n, Pf, pb, h1, h2, h3⟩ := hw pins σ v xv H1 s1 Q hT q1 r1 I1
  refine ⟨n, Pf, pb, h1, h2, fun g s5 hG => ?_⟩
  obtain ⟨fp, wr, G, F, St, W, hst, htr, hI⟩ := hG
  refine Calls.spliced_nil ?_
  refine call_all_walkS (W.self 0 _ _ _ hst ⟨g, fp, wr, G, _, F, St, _, rfl, W, hst, htr, fun s' hmv => ?_⟩)
  obtain ⟨H2, hT, J⟩ := hI s' hmv
  exact ⟨.bl _, H2, J, rfl, h3 H2 hT⟩
/-- all(x in y for x in e), e and y texts; y the def's i-th name -/
def tAllC (P : Addr) (i : Nat) (te : TE) : TE := fun σ H Q => te σ H fun v H1 => TabG H1 P ∧ ∃ a z : Str, v = .str a ∧ σ[i]? = some (some (.str z)) ∧ ∀ H2, Tabbed P H1 H2 → Q (.bl (a.cps.toList.all fun c => decide (c ∈ z.cps.toList))) H2
theorem pe_allC {c P : Addr} {iter : Expr} {x y : Str} {px p pos gpos p1 p2 p3 : Pos} {scope : Scope} {te : TE} {k i : Nat}
    (hr : Room k X.A) (hg : Gl X "all") (hm : X.mg "all" = none) (hb : bootBuiltins "all" = some (.builtin "all")) (TB : TabB X.base X.mg c P) (hcode : X.env.code = .ref c) (S : GenSc X.env.scope scope x) (hi : PE X iter te)
    (hN : X.N[i]? = some y) (hk : X.env.scope.names.lookup y = some .cell) (hfr : (y, NameKind.free) ∈ scope.names) (hy : scope.names.lookup y = some .free)
    (hs : ∀ v, genFold iter X.env v = pure v)
    (he : starEach [.GeneratorExp (.Compare (.Name x p1) [.In] [.Name y p2] p3) [⟨.Name x px, iter, [], 0⟩] scope gpos] X.env = (false, eval (.GeneratorExp (.Compare (.Name x p1) [.In] [.Name y p2] p3) [⟨.Name x px, iter, [], 0⟩] scope gpos) X.env) :: starEach [] X.env := by rfl)
    (hd : (x == ("__debug__" : Str)) = false := by decide) (hd2 : (y == ("__debug__" : Str)) = false := by decide) (hcd : (y == ("__classdict__" : Str)) = false := by decide) (hmk : behindInMarks .In (Expr.Name y p2) = false := by with_unfolding_all rfl) :
    PE X (.Call (.Name "all" p) [.GeneratorExp (.Compare (.Name x p1) [.In] [.Name y p2] p3) [⟨.Name x px, iter, [], 0⟩] scope gpos] [] pos) (tAllC P i te) := by
  refine all_go (Wf := fun v H1 σ Q => ∃ a z : Str, v = .str a ∧ σ[i]? = some (some (.str z)) ∧ ∀ H2, Tabbed P H1 H2 → Q (.bl (a.cps.toList.all fun c => decide (c ∈ z.cps.toList))) H2) hr hg hm hb TB hcode S hi hs he fun pins σ v xv H1 s1 Q hT h r1 I1 => ?_
  obtain ⟨a, z, rfl, hv, hQ⟩ := h
  obtain ⟨t, rfl⟩ := _root_.id r1
  obtain ⟨ps, hP, _⟩ := hT
  refine ⟨_, _, _, itOk_str, elt_in I1 ⟨ps, hP⟩ hN hv hk hfr S.loc hy S.kind hd hd2 hcd hmk, fun H2 h2 => ?_⟩
  rw [all_signs]
  exact hQ H2 h2
/-- all(lo <= x <= hi and x != no for x in e), e a list of ints -/
def tAllR (K : PySem.W.Frag) (P : Addr) (l h n : Int) (te : TE) : TE := fun σ H Q => te σ H fun v H1 => TabG H1 P ∧ ∃ (q : Addr) (ns : List Int), v = .ref q ∧ SqL K H1 q (ns.map V.int) ∧ ∀ H2, Tabbed P H1 H2 → Q (.bl (ns.all fun c => decide (l ≤ c ∧ c ≤ h ∧ c ≠ n))) H2
theorem pe_allR {c P : Addr} {iter : Expr} {x lo hi no : Str} {px p pos gpos p1 p2 p3 p4 p5 p6 p7 p8 : Pos} {scope : Scope} {te : TE} {k : Nat} {l h n : Int}
    (hr : Room k X.A) (hg : Gl X "all") (hm : X.mg "all" = none) (hb : bootBuiltins "all" = some (.builtin "all")) (TB : TabB X.base X.mg c P) (hcode : X.env.code = .ref c) (S : GenSc X.env.scope scope x) (hi' : PE X iter te)
    (g1 : ∃ u, X.mg lo = some u ∧ RelV (.int l) u) (g2 : ∃ u, X.mg hi = some u ∧ RelV (.int h) u) (g3 : ∃ u, X.mg no = some u ∧ RelV (.int n) u)
    (k1 : scope.names.lookup lo = some .globalImplicit) (k2 : scope.names.lookup hi = some .globalImplicit) (k3 : scope.names.lookup no = some .globalImplicit)
    (hs : ∀ v, genFold iter X.env v = pure v)
    (he : starEach [.GeneratorExp (.BoolOp .And [.Compare (.Name lo p1) [.LtE, .LtE] [.Name x p2, .Name hi p3] p4, .Compare (.Name x p5) [.NotEq] [.Name no p6] p7] p8) [⟨.Name x px, iter, [], 0⟩] scope gpos] X.env = (false, eval (.GeneratorExp (.BoolOp .And [.Compare (.Name lo p1) [.LtE, .LtE] [.Name x p2, .Name hi p3] p4, .Compare (.Name x p5) [.NotEq] [.Name no p6] p7] p8) [⟨.Name x px, iter, [], 0⟩] scope gpos) X.env) :: starEach [] X.env := by rfl)
    (d0 : (x == ("__debug__" : Str)) = false := by decide) (d1 : (lo == ("__debug__" : Str)) = false := by decide) (d2 : (hi == ("__debug__" : Str)) = false := by decide) (d3 : (no == ("__debug__" : Str)) = false := by decide) :
    PE X (.Call (.Name "all" p) [.GeneratorExp (.BoolOp .And [.Compare (.Name lo p1) [.LtE, .LtE] [.Name x p2, .Name hi p3] p4, .Compare (.Name x p5) [.NotEq] [.Name no p6] p7] p8) [⟨.Name x px, iter, [], 0⟩] scope gpos] [] pos) (tAllR X.K P l h n te) := by
  obtain ⟨u1, g1, t1, rfl⟩ := g1
  obtain ⟨u2, g2, t2, rfl⟩ := g2
  obtain ⟨u3, g3, t3, rfl⟩ := g3
  refine all_go (Wf := fun v H1 σ Q => ∃ (q : Addr) (ns : List Int), v = .ref q ∧ SqL X.K H1 q (ns.map V.int) ∧ ∀ H2, Tabbed P H1 H2 → Q (.bl (ns.all fun c => decide (l ≤ c ∧ c ≤ h ∧ c ≠ n))) H2) hr hg hm hb TB hcode S hi' hs he fun pins σ v xv H1 s1 Q hT hq r1 I1 => ?_
  obtain ⟨q, ns, rfl, hq, hQ⟩ := hq
  obtain rfl : xv = Value.ref q := r1
  obtain ⟨its, rv, pl, hsz⟩ := I1.list hq
  obtain ⟨ps, hP, _⟩ := hT
  have hqP : q ≠ P := fun e => by
    have q' : s1.heap.get? P = some { cls := .none, data := .fields ps } := I1.hok P _ hP
    obtain ⟨o, nn, e1, _, _, e2⟩ := pl
    rw [e, q'] at e1
    cases e1
    cases e2
  refine ⟨_, _, _, itOk_list pl.isList hqP, elt_rng I1 ⟨ps, hP⟩ g1 g2 g3 (by simpa using rv) S.loc k1 k2 k3 S.kind d0 d1 d2 d3, fun H2 h2 => ?_⟩
  have e := rv.length
  rw [List.length_map] at e
  rw [List.size_toArray, ← e, all_trI]
  exact hQ H2 h2
end
end WP

namespace WP
open PySem PySem.Spec PyProof.Rows L2 GxR
/-- all but the tables stay, tables stay tables -/
def NT (u : HO) : Prop := ∀ ps, u ≠ .tbl ps
structure Sm (H H' : Hp) : Prop where
  k : ∀ b u, H b = some u → NT u → H' b = some u
  t : ∀ P, TabG H P → TabG H' P
theorem Sm.refl (H : Hp) : Sm H H := ⟨fun _ _ e _ => e, fun _ h => h⟩
theorem Sm.trans {H H' H2 : Hp} (a : Sm H H') (b : Sm H' H2) : Sm H H2 := ⟨fun x u e n => b.k x u (a.k x u e n) n, fun P h => b.t P (a.t P h)⟩
theorem Sm.of {H H' : Hp} (e : Same H H') : Sm H H' := ⟨fun b u h _ => e b u h, fun P ⟨ps, h, t⟩ => ⟨ps, e P _ h, t⟩⟩
theorem Sm.tab {H H' : Hp} {P : Addr} (g : TabG H P) (h : Tabbed P H H') : Sm H H' := by
  obtain ⟨ps, hP, ht⟩ := g
  refine ⟨fun b u e n => ?_, fun Q hq => ?_⟩
  · by_cases hb : b = P
    · rw [hb, hP] at e; exact absurd (Option.some.inj e).symm (n ps)
    · rw [h.2 b hb]; exact e
  · by_cases hb : Q = P
    · rw [hb]; exact h.1
    · obtain ⟨qs, h1, h2⟩ := hq
      exact ⟨qs, by rw [h.2 Q hb]; exact h1, h2⟩
theorem nt_tup {xs : List V} : NT (.tup xs) := fun _ z => by cases z
theorem nt_lst {xs : List V} : NT (.lst xs) := fun _ z => by cases z
theorem nt_frz {o : Obj} {x : HO} : NT (.frz o x) := fun _ z => by cases z
theorem Sm.tup {K : PySem.W.Frag} {H H' : Hp} {a : Addr} {xs : List V} (e : Sm H H') (h : SqT K H a xs) : SqT K H' a xs := by
  rcases h with (h | ⟨o, h⟩) | h
  · exact .inl (.inl (e.k _ _ h nt_tup))
  · exact .inl (.inr ⟨o, e.k _ _ h nt_frz⟩)
  · exact .inr h
theorem Sm.lst {K : PySem.W.Frag} {H H' : Hp} {a : Addr} {xs : List V} (e : Sm H H') (h : SqL K H a xs) : SqL K H' a xs := by
  rcases h with (h | ⟨o, h⟩) | h
  · exact .inl (.inl (e.k _ _ h nt_lst))
  · exact .inl (.inr ⟨o, e.k _ _ h nt_frz⟩)
  · exact .inr h
/-- what comes back, tables grown -/
def MetV (v : V) (H : Hp) (Q : VK) : Prop := ∀ H', Sm H H' → Q v H'
def MetT (xs : List V) (H : Hp) (Q : VK) : Prop := ∀ p H', Sm H H' → H' p = some (.tup xs) → Q (.ref p) H'
theorem MetT.new {xs : List V} {H H' : Hp} {Q : VK} (k : MetT xs H Q) (e : Sm H H') : ∀ p, H' p = none → Q (.ref p) (upd H' p (.tup xs)) := fun p hp =>
  k p _ (e.trans (.of (same_new hp))) upd_same
/-- the def x's code object and its table -/
def cod (K : PySem.W.Frag) (x : Str) : Addr := match PySem.W.tabIn K x with
  | some (c, _) => c
  | none => 0
def tbl (K : PySem.W.Frag) (x : Str) : Addr := match PySem.W.tabIn K x with
  | some (_, P) => P
  | none => 0
theorem cod_of {K : PySem.W.Frag} {x : Str} {c P : Addr} (h : PySem.W.tabIn K x = some (c, P)) : cod K x = c := by unfold cod; rw [h]
theorem tbl_of {K : PySem.W.Frag} {x : Str} {c P : Addr} (h : PySem.W.tabIn K x = some (c, P)) : tbl K x = P := by unfold tbl; rw [h]
/-- a def whose code object is c -/
structure FunC (K : PySem.W.Frag) (x qual : Str) (st : Stmt) (f : Addr) (fd : FuncData) (c : Addr) : Prop where
  ex : ∃ (oc : Value) (od : Option Addr) (kV doc pm : Value) (an : Option Addr) (ct : Value) (osl : Array (Option Value)),
    fd = PySem.W.fnOf x qual (defArgs st) (defBody st) (defScope st) .none kV doc pm an (.ref c) ct ∧ K.lookup f = some ⟨oc, od, .func fd, osl⟩ ∧ PySem.W.codeIn K (.ref c) qual = true
section
variable {P : Program} {w : World} {K : PySem.W.Frag} {mg : Str → Option Value} {base : Heap}
theorem FunC.ok {x qual : Str} {st : Stmt} {f : Addr} {fd : FuncData} {c : Addr} {N ps : List Str} {k : Nat} {sp : Sp} (F : FunC K x qual st f fd c) (S : FnScope N ps (defScope st)) (len : ∀ vs H Q E, sp vs H Q E → vs.length = ps.length)
    (hbody : ∀ (A : Around) (outer : List Env) (s : Shared) (H : Hp) (vs : List V) (Q : VK) (E : XK), Room k (A.deeper (envOfC qual (defScope st) s.heap.objs.size f (.ref c))) → sp vs H Q E →
      ∃ t, PSs (cxOf CX0 P w K mg base N qual (defScope st) f (.ref c) A outer s H E).nox (defBody st) t ∧ t { nx := fun _ H' => Q .non H', rt := Q } (start N vs) H) : FnOk P w K mg base CX0 (k + 1) f fd ps sp := by
  obtain ⟨oc, od, kV, doc, pm, an, ct, osl, rfl, lk, hcd⟩ := F.ex
  refine fn_of lk hcd S len fun A outer s H vs Q E hr hsp => ?_
  obtain ⟨t, h, q⟩ := hbody A outer s H vs Q E hr hsp
  exact ⟨t, h.nox, q⟩
theorem funC_mk {x qual : Str} {st : Stmt} {f : Addr} {c P' : Addr} {y : Str} {oc : Value} {od an : Option Addr} {osl : Array (Option Value)} {kV doc pm ct : Value} (l : K.lookup f = some ⟨oc, od, .func (PySem.W.fnOf x qual (defArgs st) (defBody st) (defScope st) .none kV doc pm an (.ref c) ct), osl⟩)
    (hc : PySem.W.codeIn K (.ref c) qual = true) (ht : PySem.W.tabIn K y = some (c, P')) : FunC K x qual st f (PySem.W.fnOf x qual (defArgs st) (defBody st) (defScope st) .none kV doc pm an (.ref c) ct) (cod K y) := by
  rw [cod_of ht]
  exact ⟨oc, od, kV, doc, pm, an, ct, osl, rfl, l, hc⟩
end
theorem FunC.toF {K : PySem.W.Frag} {x qual : Str} {st : Stmt} {f : Addr} {fd : FuncData} {c : Addr} (F : FunC K x qual st f fd c) (k : PySem.W.keepIn K (.ref f) = true) : Fun K x qual st f fd := by
  obtain ⟨oc, od, kV, doc, pm, an, ct, osl, e, lk, hcd⟩ := F.ex
  exact ⟨⟨oc, od, kV, doc, pm, an, _, ct, osl, e, lk, hcd⟩, k⟩
theorem tabB_of {base : Heap} {mg : Str → Option Value} {K : PySem.W.Frag} {x : Str} {c P : Addr} (h : LamX.TabB base mg c P) (ht : PySem.W.tabIn K x = some (c, P)) : GxR.TabB base mg (cod K x) (tbl K x) := by
  rw [cod_of ht, tbl_of ht]
  exact ⟨h.code, h.bm, h.gP⟩
/-- the end of a row whose defs hold generator expressions -/
theorem walk_ofG {l : PySem.W.OpenLaw} {n k : Nat} {q : Program} {loose : List Str} {XP : (Str → Option Value) → Heap → Prop} {YP : World → Heap → Prop} {d : DefRec} {K : Params → PySem.W.Frag} {CX : World → CXT} {x : Str}
    (hn : l.most = some n) (hn2 : n ≤ sizeLine) (hdf : d.params.defaults = []) (hr : Room k callerA) (hY : ∀ (w : World) (h : Heap), YP w h → (K w.params).In h)
    (F : ∀ (w : World) (mg : Str → Option Value) (fa : Addr) (h : Heap), YP w h → (K w.params).In h → h.Ns mainGlobals mg → mg d.name = some (.ref fa) →
      (∀ (x : Str) (c P : Addr), ((recsOf q).any fun e => e.name == x) = true → PySem.W.tabIn (K w.params) x = some (c, P) → PySem.W.CodeHd h c P ∧ h.get? P = some { cls := .none, data := .fields #[] }) → LamX.LawAtS l w (K w.params) (CX w) k n x mg fa h)
    (hCX : ∀ (w : World) (H : Hp) (s : Shared) (e : Value) (s' : Shared), CX w [] H s (fun _ _ _ => False) e s' → False) :
    PySem.W.WalkO q loose XP YP l.row.toRowW d [] (fun f vs => PySem.call f vs) := by
  refine Att.attach_callB hn hdf fun w s₀ s₁ mg mb fa o pm cd doc a vs ns G Y ho hd hcd hmg hobj hints hlen hbits hg => ?_
  have KX := hY w _ Y
  obtain ⟨fd, cs, sp, hT, nT, C, hb, hsp, hF⟩ := F w mg fa _ Y KX G.T.g hmg fun x c P hrec ht => by
    obtain ⟨dL, hf⟩ : ∃ dL, (recsOf q).find? (fun e => e.name == x) = some dL := by
      cases e : (recsOf q).find? (fun e => e.name == x) with
      | some dL => exact ⟨dL, rfl⟩
      | none =>
        rw [List.find?_eq_none] at e
        obtain ⟨z, hz, h2⟩ := List.any_eq_true.mp hrec
        exact absurd h2 (e z hz)
    exact PySem.W.tab_of G.T KX hf ht
  exact LamX.law_callTs KX G.T.g G.T.b G.T.builtins G.T.nolimit hg hT nT C G.T.bmain hobj hints (Nat.le_trans hlen hn2) hr hF hb (fun H hH hS => hsp H a ns hlen hbits hH hS) fun H e s' => hCX w H s₁ e s'
end WP

namespace WT
open PySem PySem.Spec PyProof.Rows L2 CwR
/-! ### with a token out: tests, ifs, loops, defs -/
def PTT (X : Cx) (e : Expr) (t : TT) : Prop :=
  ∀ (pins : List (Addr × Obj)) (s : Shared) (σ : L2.St) (H : Hp) (Q : Bool → Hp → Prop), 1 ≤ s.toks → Inv X pins σ H s → t σ H Q → wpAny (model X.prog X.w) X.A (isTrue e X.env (eval e X.env)) (TP X pins σ Q) X.xe s
def PWT (X : Cx) (e : Expr) (t : TT) : Prop :=
  ∀ (whole : Sem Value) (pins : List (Addr × Obj)) (s : Shared) (σ : L2.St) (H : Hp) (Q : Bool → Hp → Prop), 1 ≤ s.toks → Inv X pins σ H s → t σ H Q → wpAny (model X.prog X.w) X.A (isTrue e X.env whole) (TP X pins σ Q) X.xe s
section
variable {X : Cx} {st : Stmt} {rest : List Stmt} {t u : TS} {a b c e f : Expr} {te tf ta tb : TE} {tA tB tc : TT} {pos p : Pos}
theorem PTT.of (h : PT X e tA) : PTT X e tA := fun pins s σ H Q _ I q => h.run pins s σ H Q I q
theorem PWT.of (h : PW X e tA) : PWT X e tA := fun wh pins s σ H Q _ I q => h.run wh pins s σ H Q I q
theorem PWT.pt (h : PWT X e tA) : PTT X e tA := h _
theorem ptt_cmp {op : CmpOp} {r : R2} (ho : OpR X (compareOp op) r) (ha : PET X a ta) (hb : PET X b tb) (hm : behindInMarks op b = false) : PTT X (.Compare a [op] [b] pos) (tTest (tOp r ta tb)) := by
  intro pins s σ H Q h0 I h
  refine wpAny_isTrue_Compare1 (wpAny_mono (PySem.wpAny_toks (ha pins s σ H _ h0 I h)) (fun v s1 q => ?_) fun _ _ z => z.2) hm
  obtain ⟨hk, x, H1, I1, r1, q1⟩ := q
  refine thn (hb pins s1 σ H1 _ (Nat.le_trans h0 hk) I1 q1) fun u s2 ⟨y, H2, I2, r2, q2⟩ => thn (ho pins s2 σ H2 x y v u _ I2 r1 r2 q2) fun c s3 ⟨z, H3, I3, r3, k, e, q3⟩ => ?_
  subst e
  cases r3
  exact wpAny_truthy_bool ⟨H3, I3, q3⟩
theorem pwt_and {rest : List Expr} {tB' : TT} (ha : PTT X a tA) (hb : PWT X (.BoolOp .And (b :: rest) pos) tB') : PWT X (.BoolOp .And (a :: b :: rest) pos) (tAnd tA tB') := by
  intro wh pins s σ H Q h0 I h
  refine isTrue_and (wpAny_mono (PySem.wpAny_toks (ha pins s σ H _ h0 I h)) (fun c s1 q => ?_) fun _ _ z => z.2)
  obtain ⟨hk, H1, I1, q1⟩ := q
  cases c with
  | true => exact hb wh pins s1 σ H1 Q (Nat.le_trans h0 hk) I1 q1
  | false => exact ⟨H1, I1, q1⟩
theorem pat_one (ha : PET X e te) (hs : starEach [e] X.env = (false, eval e X.env) :: starEach [] X.env := by rfl) : PAT X [e] (tCons te tNil) := pat_cons ha pat_nil hs
theorem pet_callB {x : Str} {id : String} {r : List V → Hp → VK → Prop} {es : List Expr} {t : TA} (hc : CallR X (.builtin id) r) (hg : Gl X x) (hm : X.mg x = none) (hv : bootBuiltins x = some (.builtin id)) (ha : PAT X (e :: es) t) (hn : x ≠ "__name__" := by decide) (hdb : (x == ("__debug__" : Str)) = false := by decide)
    (he : starEach (e :: es) X.env = (false, eval e X.env) :: starEach es X.env := by rfl) (hpl : (backTo pos (starEach es X.env)).any (·.1) = false := by rfl) : PET X (.Call (.Name x p) (e :: es) [] pos) (tCB r t) := by
  intro pins s σ H Q h0 I h
  refine wpAny_Call_Name_kw (ld_blt I hg hm hv ?_ hn hdb)
  exact PyProof.Rows.callWith_builtin1 (thn (ha pos pins s σ H _ h0 I h) fun us s1 ⟨vs, H1, I1, r1, q1⟩ => hc pins s1 σ H1 vs us Q I1 r1 q1) he hpl
theorem pst_ifT {a b : List Stmt} (hc : PTT X c tc) (ha : PSsT X a t) (hb : PSsT X b u) : PST X (.If c a b pos) (tIfS tc t u) := by
  intro pins s σ H D h0 I h
  refine wpAny_If (wpAny_mono (PySem.wpAny_toks (hc pins s σ H _ h0 I h)) (fun d s1 q => ?_) fun _ _ z => z.2)
  obtain ⟨hk, H1, I1, q1⟩ := q
  cases d with
  | true => exact ha pins s1 σ H1 D (Nat.le_trans h0 hk) I1 q1
  | false => exact hb pins s1 σ H1 D (Nat.le_trans h0 hk) I1 q1
theorem psst_cut (h1 : PST X st t) (h2 : PSsT X rest u) : PSsT X (st :: rest) (Evl.tCut t u) := by
  intro pins s σ H D h0 I h
  obtain ⟨Mid, hm, hu⟩ := h
  refine wpAny_execs_cons (wpAny_mono (PySem.wpAny_toks (h1 pins s σ H { D with nx := Mid } h0 I hm)) (fun f s1 q => ?_) fun _ _ x => x.2)
  obtain ⟨hk, q⟩ := q
  cases f with
  | next =>
    obtain ⟨σ', H', I', q⟩ := q
    exact h2 pins s1 σ' H' D (Nat.le_trans h0 hk) I' (hu σ' H' q)
  | ret v => exact q
  | brk => exact q
  | cont => exact q
/-- for, its body with a token out -/
theorem pst_forT {tg iter : Expr} {body : List Stmt} {wi : TI} {g : TG} {tb : TS} (hp : PassesOwn (model X.prog X.w) X.A X.env X.xe) (hc : X.calm = true) (hi : PI X tg iter wi) (hg : PG X tg g) (hb : PSsT X body tb)
    (hs : ∀ x, foldedSetIterable iter X.env x = pure x := by intro _; rfl) : PST X (.For tg iter body [] pos) (tFor wi g tb) := by
  intro pins s σ H D h0 I h
  refine wpAny_For (wpAny_mono (PySem.wpAny_toks (hi.run pins s σ H _ I h)) (fun v s1 h1 => ?_) fun _ _ z => z.2) hs
  obtain ⟨hk1, h1⟩ := h1
  refine wpAny_mono (PySem.wpAny_toks h1) (fun itv s2 h2 => ?_) fun _ _ z => z.2
  obtain ⟨hk2, h2⟩ := h2
  obtain ⟨it, fp, tn, J, H2, e, I2, T, st2, f2, W, ⟨m0, w0⟩, turn⟩ := h2
  subst e
  have stat : ∀ {H' : Hp}, (∀ b ∈ fp, H' b = none) → ∀ b ∈ fp, FpOk X pins H' b := fun hn b hb => ⟨hn b hb, (f2 b hb).2⟩
  refine codeAny_forLoop_any (fun n s' => ∃ i σ' H', 1 ≤ s'.toks ∧ Inv X pins σ' H' s' ∧ tn i s'.heap ∧ (∀ b ∈ fp, H' b = none) ∧ W i n σ' H') ?_ m0 ⟨0, σ, H2, Nat.le_trans h0 (Nat.le_trans hk1 hk2), I2, st2, fun b hb => (f2 b hb).1, w0⟩
  rintro n s3 ⟨i, σ3, H3, k3, I3, st3, fr3, w3⟩
  rcases turn i n σ3 H3 w3 with ⟨stop, qn⟩ | ⟨go, N, hN, step⟩
  · refine wpAny_passesOwn hp (thn (T.done X rfl rfl rfl hc i pins s3 σ3 H3 X.xe I3 (stat fr3) st3 stop) fun r s4 ⟨hr, I4⟩ => ?_)
    subst hr
    exact wpAny_execs_nil ⟨σ3, H3, I4, qn⟩
  · refine wpAny_passesOwn hp (wpAny_mono (PySem.wpAny_toks (T.item X rfl rfl rfl hc i pins s3 σ3 H3 X.xe I3 (stat fr3) st3 go)) (fun r s4 q4 => ?_) fun _ _ z => z.2)
    obtain ⟨k4, u, hr, h4⟩ := q4
    subst hr
    refine wpAny_passesOwn hp (wpAny_mono (PySem.wpAny_toks h4) (fun _ s5 q5 => ?_) fun _ _ z => z.2)
    obtain ⟨k5, x, H5, I5, r5, y5, st5, fr5⟩ := q5
    have I5' := I5.pinned (stat fr5) (T.obj _ _ st5)
    refine wpAny_passesOwn hp (wpAny_mono (PySem.wpAny_toks (hg.run _ s5 σ3 H5 x u _ I5' r5 (step x H5 y5))) (fun _ s6 q6 => ?_) fun _ _ z => z.2)
    obtain ⟨k6, σ6, H6, I6, q6⟩ := q6
    have k06 := Nat.le_trans k3 (Nat.le_trans k4 (Nat.le_trans k5 k6))
    refine wpAny_passesOwn hp (wpAny_mono (PySem.wpAny_toks (hb _ s6 σ6 H6 _ k06 I6 q6)) (fun f s7 q7 => ?_) fun _ _ z => z.2)
    obtain ⟨k7, q7⟩ := q7
    have again : ∀ {σ7 : L2.St} {H7 : Hp}, Inv X (pins ++ pinsAt fp s5.heap) σ7 H7 s7 → N σ7 H7 → ∃ m, m < n ∧ ∃ i σ' H', 1 ≤ s7.toks ∧ Inv X pins σ' H' s7 ∧ tn i s7.heap ∧ (∀ b ∈ fp, H' b = none) ∧ W i m σ' H' := fun {σ7 H7} I7 n7 => by
      obtain ⟨m', hm, w7⟩ := hN σ7 H7 n7
      refine ⟨m', hm, i + 1, σ7, H7, Nat.le_trans k06 k7, I7.unpinned, T.keep _ _ _ st5 fun b hb o e => (I7.pin (b, o) (List.mem_append_right _ (List.mem_append_right _ (mem_pinsAt hb e)))).1, fun b hb => ?_, w7⟩
      obtain ⟨o, e, d⟩ := T.obj _ _ st5 b hb
      exact (I7.pin (b, o) (List.mem_append_right _ (List.mem_append_right _ (mem_pinsAt hb e)))).2.1
    cases f with
    | next => obtain ⟨σ7, H7, I7, n7⟩ := q7; exact again I7 n7
    | cont => obtain ⟨σ7, H7, I7, n7⟩ := q7; exact again I7 n7
    | brk => obtain ⟨σ7, H7, I7, q7⟩ := q7; exact ⟨σ7, H7, I7.unpinned, q7⟩
    | ret v => obtain ⟨x7, σ7, H7, I7, r7, q7⟩ := q7; exact ⟨x7, σ7, H7, I7.unpinned, r7, q7⟩
end
section
variable {P : Program} {w : World} {K : PySem.W.Frag} {mg : Str → Option Value} {base : Heap}
/-- a def with a parameter: at its entry a token is out -/
theorem okT {x qual : Str} {st : Stmt} {f : Addr} {fd : FuncData} {N ps : List Str} {k : Nat} {sp : Sp} (F : Fun K x qual st f fd) (S : FnScope N ps (defScope st)) (hnc : ∀ y ∈ (defScope st).names, y.2 ≠ .cell) (hps : 1 ≤ ps.length) (len : ∀ vs H Q E, sp vs H Q E → vs.length = ps.length)
    (hbody : ∀ (cdv : Value) (A : Around) (outer : List Env) (s : Shared) (H : Hp) (vs : List V) (Q : VK) (E : XK), Room k (A.deeper (envOfC qual (defScope st) s.heap.objs.size f cdv)) → sp vs H Q E →
      ∃ t, PSsT (cxOf CX0 P w K mg base N qual (defScope st) f cdv A outer s H E).nox (defBody st) t ∧ t { nx := fun _ H' => Q .non H', rt := Q } (start N vs) H) : FnOk P w K mg base CX0 (k + 1) f fd ps sp := by
  obtain ⟨oc, od, kV, doc, pm, an, cdv, ct, osl, rfl, lk, hcd⟩ := F.ex
  refine fn_ofT lk hcd S hnc hps len fun A outer s H vs Q E hr hsp => ?_
  obtain ⟨t, h, q⟩ := hbody cdv A outer s H vs Q E hr hsp
  exact ⟨t, fun pins s σ H D h0 I hw => wpAny_mono (h pins s σ H D h0 (I.wish _) hw) (fun _ _ q => q.unwish) fun _ _ z => False.elim z, q⟩
end
/-! ### the same as structures (so that they are not unfolded) -/
structure ET (X : Cx) (e : Expr) (t : TE) : Prop where
  run : PET X e t
structure TT1 (X : Cx) (e : Expr) (t : TT) : Prop where
  run : PTT X e t
structure TW (X : Cx) (e : Expr) (t : TT) : Prop where
  run : PWT X e t
structure ST (X : Cx) (st : Stmt) (t : TS) : Prop where
  run : PST X st t
structure SsT (X : Cx) (st : List Stmt) (t : TS) : Prop where
  run : PSsT X st t
section
variable {X : Cx} {st : Stmt} {rest : List Stmt} {t u : TS} {a b c e f : Expr} {te tf ta tb : TE} {tA tB tc : TT} {pos p apos c0 c1 : Pos} {y z : Str} {j k : Nat} {o : Expr} {to : TE}
theorem ET.of (h : PE X e te) : ET X e te := ⟨PET.of h⟩
theorem TT1.of (h : PT X e tA) : TT1 X e tA := ⟨PTT.of h⟩
theorem TW.of (h : PW X e tA) : TW X e tA := ⟨PWT.of h⟩
theorem TW.pt (h : TW X e tA) : TT1 X e tA := ⟨h.run.pt⟩
theorem ST.of (h : PS X st t) : ST X st t := ⟨PST.of h⟩
theorem SsT.of (h : PSs X rest t) : SsT X rest t := ⟨PSsT.of h⟩
theorem ss_cons (h1 : ST X st t) (h2 : SsT X rest u) : SsT X (st :: rest) (tSeq t u) := ⟨psst_cons h1.run h2.run⟩
theorem ss_cut (h1 : ST X st t) (h2 : SsT X rest u) : SsT X (st :: rest) (Evl.tCut t u) := ⟨psst_cut h1.run h2.run⟩
theorem ss_one (h : ST X st t) : SsT X [st] t := ⟨psst_one h.run⟩
theorem s_if {a b : List Stmt} (hc : TT1 X c tc) (ha : SsT X a t) (hb : SsT X b u) : ST X (.If c a b pos) (tIfS tc t u) := ⟨pst_ifT hc.run ha.run hb.run⟩
theorem s_for {tg iter : Expr} {body : List Stmt} {wi : TI} {g : TG} {tb : TS} (hp : PassesOwn (model X.prog X.w) X.A X.env X.xe) (hc : X.calm = true) (hi : PI X tg iter wi) (hg : PG X tg g) (hb : SsT X body tb)
    (hs : ∀ x, foldedSetIterable iter X.env x = pure x := by intro _; rfl) : ST X (.For tg iter body [] pos) (tFor wi g tb) := ⟨pst_forT hp hc hi hg hb.run hs⟩
theorem s_ret (he : ET X e te) : ST X (.Return (some e) pos) (tRet te) := ⟨pst_ret he.run⟩
theorem t_cmp {op : CmpOp} {r : R2} (ho : OpR X (compareOp op) r) (ha : ET X a ta) (hb : ET X b tb) (hm : behindInMarks op b = false) : TT1 X (.Compare a [op] [b] pos) (tTest (tOp r ta tb)) := ⟨ptt_cmp ho ha.run hb.run hm⟩
theorem w_and {rest : List Expr} {tB' : TT} (ha : TT1 X a tA) (hb : TW X (.BoolOp .And (b :: rest) pos) tB') : TW X (.BoolOp .And (a :: b :: rest) pos) (tAnd tA tB') := ⟨pwt_and ha.run hb.run⟩
theorem e_len {x : Str} {id : String} {r : List V → Hp → VK → Prop} (hc : CallR X (.builtin id) r) (hg : Gl X x) (hm : X.mg x = none) (hv : bootBuiltins x = some (.builtin id)) (ha : ET X e te) (hns : WP.noStar e = true := by rfl) (hn : x ≠ "__name__" := by decide) (hdb : (x == ("__debug__" : Str)) = false := by decide)
    (hpl : (backTo pos (starEach ([] : List Expr) X.env)).any (·.1) = false := by rfl) : ET X (.Call (.Name x p) [e] [] pos) (tCB r (tCons te tNil)) := ⟨pet_callB hc hg hm hv (pat_one ha.run (WP.starEach_no hns)) hn hdb (WP.starEach_no hns) hpl⟩
theorem e_op {op : Operator} {r : R2} (ho : OpR X (binaryOp op) r) (ha : ET X e te) (hb : ET X f tf) : ET X (.BinOp e op f pos) (tOp r te tf) := ⟨pet_op ho ha.run hb.run⟩
theorem e_replC (ho : PE X o to) (hyz : (y == z) = false := by decide)
    (hst : starEach [.Constant (.str y) j c0, .Constant (.str z) k c1] X.env = [(false, eval (.Constant (.str y) j c0) X.env), (false, eval (.Constant (.str z) k c1) X.env)] := by rfl)
    (hbase : attributeBase o "replace" X.env (eval o X.env) = eval o X.env := by rfl) (hline : (apos.endLine == pos.line) = true := by rfl) :
    ET X (.Call (.Attribute o "replace" apos) [.Constant (.str y) j c0, .Constant (.str z) k c1] [] pos) (tReplC to y z) := ⟨pet_replC ho hyz hst hbase hline⟩
theorem e_replT (ho : ET X o to) (hyz : (y == z) = false := by decide)
    (hst : starEach [.Constant (.str y) j c0, .Constant (.str z) k c1] X.env = [(false, eval (.Constant (.str y) j c0) X.env), (false, eval (.Constant (.str z) k c1) X.env)] := by rfl)
    (hbase : attributeBase o "replace" X.env (eval o X.env) = eval o X.env := by rfl) (hline : (apos.endLine == pos.line) = true := by rfl) :
    ET X (.Call (.Attribute o "replace" apos) [.Constant (.str y) j c0, .Constant (.str z) k c1] [] pos) (tReplC to y z) := ⟨pet_replT ho.run hyz hst hbase hline⟩
end
section
variable {P : Program} {w : World} {K : PySem.W.Frag} {mg : Str → Option Value} {base : Heap}
theorem okS {x qual : Str} {st : Stmt} {f : Addr} {fd : FuncData} {N ps : List Str} {k : Nat} {sp : Sp} (F : Fun K x qual st f fd) (S : FnScope N ps (defScope st)) (hnc : ∀ y ∈ (defScope st).names, y.2 ≠ .cell) (hps : 1 ≤ ps.length) (len : ∀ vs H Q E, sp vs H Q E → vs.length = ps.length)
    (hbody : ∀ (cdv : Value) (A : Around) (outer : List Env) (s : Shared) (H : Hp) (vs : List V) (Q : VK) (E : XK), Room k (A.deeper (envOfC qual (defScope st) s.heap.objs.size f cdv)) → sp vs H Q E →
      ∃ t, SsT (cxOf CX0 P w K mg base N qual (defScope st) f cdv A outer s H E).nox (defBody st) t ∧ t { nx := fun _ H' => Q .non H', rt := Q } (start N vs) H) : FnOk P w K mg base CX0 (k + 1) f fd ps sp :=
  okT F S hnc hps len fun cdv A outer s H vs Q E hr hsp => by
    obtain ⟨t, h, q⟩ := hbody cdv A outer s H vs Q E hr hsp
    exact ⟨t, h.run, q⟩
end
end WT
namespace WT
open PySem PySem.Spec PyProof.Rows L2 CwR
theorem repl {to : TE} {y z : Str} {σ : L2.St} {H : Hp} {Q : VK} (h : to σ H fun v H1 => ∃ x, v = .str x ∧ x.length + (x.length + 1) * z.length ≤ 16777216 ∧ Q (.str (Txt.replace x y z)) H1) : tReplC to y z σ H Q := h
end WT

namespace WZ
open PySem PySem.Spec PyProof.Rows L2
/-! ### zip of two texts -/
structure Ap (o ti to p q : Addr) : Prop where
  a1 : ti ≠ o
  a2 : to ≠ o
  a3 : p ≠ o
  a4 : q ≠ o
  b1 : ti ≠ to
  b2 : ti ≠ p
  b3 : ti ≠ q
  b4 : to ≠ p
  b5 : to ≠ q
  c1 : p ≠ q
theorem ap_new (n : Nat) : Ap (n + 4) (n + 2) (n + 3) n (n + 1) := by
  constructor <;> exact (show (_ : Nat) ≠ _ by omega)
abbrev Dr (P : Program) (w : World) (it : Addr) (x : Str) (St : Nat → Heap → Prop) : Prop :=
  ∀ A : Around, A.handled = none → Draws P w A it [it] x.cps.size (SignAt x) St
section
variable {P : Program} {w : World} {A : Around} {E : Value → Shared → Prop} {s : Shared}
theorem stE {St : Nat → Heap → Prop} {it : Addr} {x : Str} {i : Nat} {h h' : Heap} {c : Addr} (D : Dr P w it x St) (hA : A.handled = none) (st : St i h) (e : Heap.ExtBut c h h') (n : it ≠ c) : St i h' :=
  (D A hA).frame i h h' st fun b hb o ho => e b o (by rw [List.mem_singleton.mp hb]; exact n) ho
theorem live_lt {St : Nat → Heap → Prop} {it : Addr} {x : Str} {i : Nat} {h : Heap} (D : Dr P w it x St) (hA : A.handled = none) (st : St i h) : it < h.objs.size := by
  obtain ⟨o, ho⟩ := (D A hA).live i h st
  exact Heap.lt_size ho
/-- the next pair -/
theorem next_item {o ti to p q : Addr} {i j : Nat} {x y : Str} {S T : Nat → Heap → Prop} {a b : Value} {Q : Value → Shared → Prop} (hA : A.handled = none) (ap : Ap o ti to p q) (D1 : Dr P w p x S) (D2 : Dr P w q y T)
    (zo : IsZip s.heap o ti to .none) (pI : IsPair s.heap ti (.ref p) (.ref q)) (pO : IsPair s.heap to a b) (k1 : S i s.heap) (k2 : T j s.heap) (l1 : i < x.cps.size) (l2 : j < y.cps.size)
    (fin : ∀ u v h' tk, SignAt x i u → SignAt y j v → IsZip h' o ti to (rawInt s.heap.objs.size) → IsPair h' to u v → S (i + 1) h' → T (j + 1) h' → IsPair h' s.heap.objs.size u v → h'.objs.size = s.heap.objs.size + 1 →
      (∀ c ob, c ≠ o → c ≠ to → c ≠ p → c ≠ q → s.heap.get? c = some ob → h'.get? c = some ob) → Q (.ref s.heap.objs.size) { s with heap := h', toks := tk }) :
    wpAny (model P w) A (Builtin.«zip.__next__» ⟨[.ref o], []⟩) (fun f s' => ∃ v, f = .done (.ret v) ∧ Q v s') E s := by
  obtain ⟨hp, g, dn, t0, os⟩ := s
  show wpAny _ _ (field (.ref o) 2 >>= _) _ _ _
  refine wpAny_bind (wpAny_field zo rfl (x := .bool false) rfl ?_)
  show wpAny _ _ (field (.ref o) 3 >>= _) _ _ _
  refine wpAny_bind (wpAny_field zo rfl (x := .ref ti) rfl ?_)
  refine wpAny_bind (wpAny_seqItems pI rfl ?_)
  show wpAny _ _ (Builtin.SmallTypes.ownedTupleIsFree (.ref o) >>= _) _ _ _
  refine wpAny_bind (m := Builtin.SmallTypes.ownedTupleIsFree (.ref o)) ?_
  unfold Builtin.SmallTypes.ownedTupleIsFree
  refine wpAny_bind (wpAny_field zo rfl (x := .none) rfl (wpAny_pure ?_))
  simp only [if_true]
  refine wpAny_bind (wpAny_rule (wpAny_bind (wpAny_field zo rfl (x := .ref to) rfl (wpAny_bind (wpAny_setField_rec zo (by simp) fun h₁ z₁ e₁ => ?_)))))
  replace z₁ : IsZip h₁ o ti to .ellipsis := z₁
  replace e₁ : Heap.SameBut o hp h₁ := e₁
  refine wpAny_bind (m := forIn _ _ _) ?_
  simp only [List.zipIdx_cons, List.zipIdx_nil, List.forIn_cons, List.forIn_nil]
  refine wpAny_bind (wpAny_bind (wpAny_onRaise ?_))
  show wpAny _ _ (Builtin.SmallTypes.nextOf (.ref p) >>= _) _ _ ⟨h₁, g, dn, t0, os⟩
  refine wpAny_bind ((D1 _ hA).item i _ _ _ l1 (stE D1 hA k1 e₁.extBut ap.a3) fun u h₂ t1 hu s₂ e₂ => wpAny_pure ?_)
  replace e₂ : Heap.SameBut p h₁ h₂ := e₂
  have o₂ : IsPair h₂ to a b := e₂.extBut _ _ ap.b4 (e₁.extBut _ _ ap.a2 pO)
  refine wpAny_bind (wpAny_seqItems (s := ⟨h₂, g, dn, t1, os⟩) o₂ rfl ?_)
  refine wpAny_bind (wpAny_updateSeq_pair (s := ⟨h₂, g, dn, t1, os⟩) o₂ fun h₃ o₃ e₃ => ?_)
  replace o₃ : IsPair h₃ to u b := o₃
  replace e₃ : Heap.SameBut to h₂ h₃ := e₃
  refine wpAny_bind (wpAny_letGo (wpAny_pure ?_))
  refine wpAny_bind (wpAny_bind (wpAny_onRaise ?_))
  show wpAny _ _ (Builtin.SmallTypes.nextOf (.ref q) >>= _) _ _ ⟨h₃, g, dn, t1, os⟩
  have st2 : T j h₃ := stE D2 hA (stE D2 hA (stE D2 hA k2 e₁.extBut ap.a4) e₂.extBut ap.c1.symm) e₃.extBut ap.b5.symm
  refine wpAny_bind ((D2 _ hA).item j ⟨h₃, g, dn, t1, os⟩ _ _ l2 st2 fun v h₄ t2 hv s₄ e₄ => wpAny_pure ?_)
  replace e₄ : Heap.SameBut q h₃ h₄ := e₄
  have o₄ : IsPair h₄ to u b := e₄.extBut _ _ ap.b5 o₃
  refine wpAny_bind (wpAny_seqItems (s := ⟨h₄, g, dn, t2, os⟩) o₄ rfl ?_)
  refine wpAny_bind (wpAny_updateSeq_pair (s := ⟨h₄, g, dn, t2, os⟩) o₄ fun h₅ o₅ e₅ => ?_)
  replace o₅ : IsPair h₅ to u v := o₅
  replace e₅ : Heap.SameBut to h₄ h₅ := e₅
  refine wpAny_bind (wpAny_letGo (wpAny_pure (wpAny_pure ?_)))
  refine wpAny_bind (wpAny_seqItems (s := ⟨h₅, g, dn, t2, os⟩) o₅ rfl (wpAny_bind (wpAny_newTuple ?_)))
  have sz : h₅.objs.size = hp.objs.size := by rw [e₅.1, e₄.1, e₃.1, e₂.1, e₁.1]
  have z₅ : IsZip h₅ o ti to .ellipsis := e₅.extBut _ _ ap.a2.symm (e₄.extBut _ _ ap.a4.symm (e₃.extBut _ _ ap.a2.symm (e₂.extBut _ _ ap.a3.symm z₁)))
  have up5 : ∀ c ob, c ≠ o → c ≠ to → c ≠ p → c ≠ q → hp.get? c = some ob → h₅.get? c = some ob := fun c ob n1 n2 n3 n4 h =>
    e₅.extBut _ _ n2 (e₄.extBut _ _ n4 (e₃.extBut _ _ n2 (e₂.extBut _ _ n3 (e₁.extBut _ _ n1 h))))
  have s1₅ : S (i + 1) h₅ := stE D1 hA (stE D1 hA (stE D1 hA s₂ e₃.extBut ap.b4.symm) e₄.extBut ap.c1) e₅.extBut ap.b4.symm
  have s2₅ : T (j + 1) h₅ := stE D2 hA s₄ e₅.extBut ap.b5.symm
  have lo : o < h₅.objs.size := Heap.lt_size z₅
  have lt : to < h₅.objs.size := Heap.lt_size o₅
  have lp := live_lt D1 hA s1₅
  have lq := live_lt D2 hA s2₅
  show wpAny _ _ (Builtin.SmallTypes.ownedTupleHandOut (.ref o) (.ref h₅.objs.size) >>= _) _ _ _
  refine wpAny_bind (m := Builtin.SmallTypes.ownedTupleHandOut (.ref o) (.ref h₅.objs.size)) ?_
  unfold Builtin.SmallTypes.ownedTupleHandOut
  have z₆ : IsZip (h₅.push { cls := .type "tuple", data := .seq #[u, v] }) o ti to .ellipsis := Heap.get?_push_of_some _ z₅
  refine wpAny_bind (wpAny_setField_rec (s := ⟨h₅.push { cls := .type "tuple", data := .seq #[u, v] }, g, dn, t2, os⟩) z₆ (by simp) fun h₇ z₇ e₇ => ?_)
  replace z₇ : IsZip h₇ o ti to (rawInt h₅.objs.size) := z₇
  replace e₇ : Heap.SameBut o (h₅.push { cls := .type "tuple", data := .seq #[u, v] }) h₇ := e₇
  refine wpAny_setField_rec (s := ⟨h₇, g, dn, t2, os⟩) z₇ (by simp) fun h₈ z₈ e₈ => ?_
  replace z₈ : IsZip h₈ o ti to (rawInt h₅.objs.size) := z₈
  replace e₈ : Heap.SameBut o h₇ h₈ := e₈
  have up : ∀ c ob, c ≠ o → h₅.get? c = some ob → h₈.get? c = some ob := fun c ob n1 h => e₈.extBut _ _ n1 (e₇.extBut _ _ n1 (Heap.get?_push_of_some _ h))
  have t₈ : IsPair h₈ h₅.objs.size u v := e₈.extBut _ _ (Nat.ne_of_gt lo) (e₇.extBut _ _ (Nat.ne_of_gt lo) (Heap.get?_push_size _ rfl))
  have sz8 : h₈.objs.size = h₅.objs.size + 1 := by rw [e₈.1, e₇.1, Heap.size_push]
  rw [sz] at z₈ t₈ sz8
  refine wpAny_pure ⟨_, rfl, ?_⟩
  show Q (.ref h₅.objs.size) _
  rw [sz]
  have fr1 : S (i + 1) h₈ := (D1 A hA).frame _ _ _ s1₅ fun b hb ob h => by
    rw [List.mem_singleton.mp hb] at h ⊢
    exact up _ _ ap.a3 h
  have fr2 : T (j + 1) h₈ := (D2 A hA).frame _ _ _ s2₅ fun b hb ob h => by
    rw [List.mem_singleton.mp hb] at h ⊢
    exact up _ _ ap.a4 h
  exact fin u v h₈ t2 hu hv z₈ (up _ _ ap.a2 o₅) fr1 fr2 t₈ sz8 fun c ob n1 n2 n3 n4 h => up c ob n1 (up5 c ob n1 n2 n3 n4 h)
/-- no next pair -/
theorem next_end {o ti to p q : Addr} {i j : Nat} {x y : Str} {S T : Nat → Heap → Prop} {a b : Value} {Q : Fin → Shared → Prop} (hA : A.handled = none) (ap : Ap o ti to p q) (D1 : Dr P w p x S) (D2 : Dr P w q y T)
    (zo : IsZip s.heap o ti to .none) (pI : IsPair s.heap ti (.ref p) (.ref q)) (pO : IsPair s.heap to a b) (k1 : S i s.heap) (k2 : T j s.heap) (l : i = x.cps.size ∨ i < x.cps.size ∧ j = y.cps.size)
    (fin : ∀ h' e tk, (∀ c ob, c ≠ o → c ≠ to → c ≠ p → c ≠ q → s.heap.get? c = some ob → h'.get? c = some ob) → (∃ oe, h'.get? e = some oe ∧ oe.cls = .type "StopIteration") → E (.ref e) { s with heap := h', toks := tk }) :
    wpAny (model P w) A (Builtin.«zip.__next__» ⟨[.ref o], []⟩) Q E s := by
  obtain ⟨hp, g, dn, t0, os⟩ := s
  show wpAny _ _ (field (.ref o) 2 >>= _) _ _ _
  refine wpAny_bind (wpAny_field zo rfl (x := .bool false) rfl ?_)
  show wpAny _ _ (field (.ref o) 3 >>= _) _ _ _
  refine wpAny_bind (wpAny_field zo rfl (x := .ref ti) rfl ?_)
  refine wpAny_bind (wpAny_seqItems pI rfl ?_)
  show wpAny _ _ (Builtin.SmallTypes.ownedTupleIsFree (.ref o) >>= _) _ _ _
  refine wpAny_bind (m := Builtin.SmallTypes.ownedTupleIsFree (.ref o)) ?_
  unfold Builtin.SmallTypes.ownedTupleIsFree
  refine wpAny_bind (wpAny_field zo rfl (x := .none) rfl (wpAny_pure ?_))
  simp only [if_true]
  refine wpAny_bind (wpAny_rule (wpAny_bind (wpAny_field zo rfl (x := .ref to) rfl (wpAny_bind (wpAny_setField_rec zo (by simp) fun h₁ z₁ e₁ => ?_)))))
  replace z₁ : IsZip h₁ o ti to .ellipsis := z₁
  replace e₁ : Heap.SameBut o hp h₁ := e₁
  refine wpAny_bind (m := forIn _ _ _) ?_
  simp only [List.zipIdx_cons, List.zipIdx_nil, List.forIn_cons, List.forIn_nil]
  refine wpAny_bind (wpAny_bind (wpAny_onRaise ?_))
  show wpAny _ _ (Builtin.SmallTypes.nextOf (.ref p) >>= _) _ _ ⟨h₁, g, dn, t0, os⟩
  rcases l with rfl | ⟨l1, rfl⟩
  · refine wpAny_bind ((D1 _ hA).done ⟨h₁, g, dn, t0, os⟩ _ _ (stE D1 hA k1 e₁.extBut ap.a3) fun h₂ e e₂ he => ?_)
    obtain ⟨oe, hoe, hce⟩ := he
    have z₂ : IsZip h₂ o ti to .ellipsis := e₂ _ _ ap.a3.symm z₁
    have ez : e ≠ o := fun c => by subst c; rw [z₂] at hoe; cases hoe; simp at hce
    exact wpAny_setField_rec (s := ⟨h₂, g, dn, t0, os⟩) z₂ (by simp) fun h₃ _ e₃ => fin h₃ e t0 (fun c ob n1 _ n3 _ h => e₃.extBut _ _ n1 (e₂ _ _ n3 (e₁.extBut _ _ n1 h))) ⟨oe, e₃.extBut _ _ ez hoe, hce⟩
  · refine wpAny_bind ((D1 _ hA).item i ⟨h₁, g, dn, t0, os⟩ _ _ l1 (stE D1 hA k1 e₁.extBut ap.a3) fun u h₂ t1 hu s₂ e₂ => wpAny_pure ?_)
    replace e₂ : Heap.SameBut p h₁ h₂ := e₂
    have o₂ : IsPair h₂ to a b := e₂.extBut _ _ ap.b4 (e₁.extBut _ _ ap.a2 pO)
    refine wpAny_bind (wpAny_seqItems (s := ⟨h₂, g, dn, t1, os⟩) o₂ rfl ?_)
    refine wpAny_bind (wpAny_updateSeq_pair (s := ⟨h₂, g, dn, t1, os⟩) o₂ fun h₃ o₃ e₃ => ?_)
    replace e₃ : Heap.SameBut to h₂ h₃ := e₃
    refine wpAny_bind (wpAny_letGo (wpAny_pure ?_))
    refine wpAny_bind (wpAny_bind (wpAny_onRaise ?_))
    show wpAny _ _ (Builtin.SmallTypes.nextOf (.ref q) >>= _) _ _ ⟨h₃, g, dn, t1, os⟩
    have st2 := stE D2 hA (stE D2 hA (stE D2 hA k2 e₁.extBut ap.a4) e₂.extBut ap.c1.symm) e₃.extBut ap.b5.symm
    refine wpAny_bind ((D2 _ hA).done ⟨h₃, g, dn, t1, os⟩ _ _ st2 fun h₄ e e₄ he => ?_)
    obtain ⟨oe, hoe, hce⟩ := he
    have z₄ : IsZip h₄ o ti to .ellipsis := e₄ _ _ ap.a4.symm (e₃.extBut _ _ ap.a2.symm (e₂.extBut _ _ ap.a3.symm z₁))
    have ez : e ≠ o := fun c => by subst c; rw [z₄] at hoe; cases hoe; simp at hce
    exact wpAny_setField_rec (s := ⟨h₄, g, dn, t1, os⟩) z₄ (by simp) fun h₅ _ e₅ => fin h₅ e t1 (fun c ob n1 n2 n3 n4 h => e₅.extBut _ _ n1 (e₄ _ _ n4 (e₃.extBut _ _ n2 (e₂.extBut _ _ n3 (e₁.extBut _ _ n1 h))))) ⟨oe, e₅.extBut _ _ ez hoe, hce⟩
theorem py_item {o ti to p q : Addr} {i j : Nat} {x y : Str} {S T : Nat → Heap → Prop} {a b : Value} {Q : Option Value → Shared → Prop} (hA : A.handled = none) (ap : Ap o ti to p q) (D1 : Dr P w p x S) (D2 : Dr P w q y T)
    (zo : IsZip s.heap o ti to .none) (pI : IsPair s.heap ti (.ref p) (.ref q)) (pO : IsPair s.heap to a b) (k1 : S i s.heap) (k2 : T j s.heap) (l1 : i < x.cps.size) (l2 : j < y.cps.size)
    (fin : ∀ u v h' tk, SignAt x i u → SignAt y j v → IsZip h' o ti to (rawInt s.heap.objs.size) → IsPair h' to u v → S (i + 1) h' → T (j + 1) h' → IsPair h' s.heap.objs.size u v → h'.objs.size = s.heap.objs.size + 1 →
      (∀ c ob, c ≠ o → c ≠ to → c ≠ p → c ≠ q → s.heap.get? c = some ob → h'.get? c = some ob) → Q (some (.ref s.heap.objs.size)) { s with heap := h', toks := tk }) :
    wpAny (model P w) A (pyNext (.ref o)) Q E s := by
  have ty : s.TypeIs (.ref o) "zip" := ⟨_, zo, rfl⟩
  unfold pyNext
  refine wpAny_bind (wpAny_attempt (wpAny_callSpecial?_slot (name := Str.ofString "__next__") ty F.slot_zip_next (wpAny_call_entry F.slot_zip_next ty F.entry_zip_next ?_ (F.args_zip_next_1 _))))
  exact next_item hA ap D1 D2 zo pI pO k1 k2 l1 l2 fun u v h' tk b1 b2 b3 b4 b5 b6 b7 b8 b9 => wpAny_pure (fin u v h' tk b1 b2 b3 b4 b5 b6 b7 b8 b9)
theorem py_end {o ti to p q : Addr} {i j : Nat} {x y : Str} {S T : Nat → Heap → Prop} {a b : Value} {Q : Option Value → Shared → Prop} (hA : A.handled = none) (ap : Ap o ti to p q) (D1 : Dr P w p x S) (D2 : Dr P w q y T)
    (zo : IsZip s.heap o ti to .none) (pI : IsPair s.heap ti (.ref p) (.ref q)) (pO : IsPair s.heap to a b) (k1 : S i s.heap) (k2 : T j s.heap) (l : i = x.cps.size ∨ i < x.cps.size ∧ j = y.cps.size)
    (fin : ∀ h' tk, (∀ c ob, c ≠ o → c ≠ to → c ≠ p → c ≠ q → s.heap.get? c = some ob → h'.get? c = some ob) → Q none { s with heap := h', toks := tk }) : wpAny (model P w) A (pyNext (.ref o)) Q E s := by
  have ty : s.TypeIs (.ref o) "zip" := ⟨_, zo, rfl⟩
  unfold pyNext
  refine wpAny_bind (wpAny_attempt (wpAny_callSpecial?_slot (name := Str.ofString "__next__") ty F.slot_zip_next (wpAny_call_entry F.slot_zip_next ty F.entry_zip_next (next_end hA ap D1 D2 zo pI pO k1 k2 l fun h' e tk hk he => ?_) (F.args_zip_next_1 _))))
  obtain ⟨oe, hoe, hce⟩ := he
  exact wpAny_bind (wpAny_isInstance (T := "StopIteration") (b := true) ⟨oe, hoe, hce⟩ isSubtype_stop (wpAny_pure (fin _ _ hk)))
end
/-- the iterator of a text -/
def itTy (x : Str) : String := if x.cps.all (· < 128) = true then "str_ascii_iterator" else "str_iterator"
theorem dr_str {P : Program} {w : World} {it : Addr} {x : Str} {t : Tok} : Dr P w it x (fun i h => h.IsStrIter it (itTy x) x t i) := fun A hA => by
  unfold itTy
  by_cases h : x.cps.all (· < 128) = true
  · simp only [h, if_true]
    exact Draws.strAscii hA it x t
  · simp only [h, if_false]
    exact Draws.strWide hA it x t
section
variable {P : Program} {w : World} {A : Around} {E : Value → Shared → Prop} {s : Shared}
theorem iter_str {x : Str} {t : Tok} {Q : Value → Shared → Prop} (fin : Q (.ref s.heap.objs.size) { s with heap := s.heap.push { cls := .type (itTy x), data := .fields #[.str x t, .int 0 0] } }) : wpAny (model P w) A (pyIter (.str x t)) Q E s := by
  unfold itTy at fin
  cases h : x.cps.all (· < 128)
  · rw [h] at fin
    exact wpAny_pyIter_wide h fin
  · rw [h] at fin
    exact wpAny_pyIter_ascii h fin
end
abbrev P1 (h : Heap) (x : Str) (t : Tok) : Heap := h.push { cls := .type (itTy x), data := .fields #[.str x t, .int 0 0] }
abbrev P2 (h : Heap) (x y : Str) (t u : Tok) : Heap := (P1 h x t).push { cls := .type (itTy y), data := .fields #[.str y u, .int 0 0] }
abbrev P3 (h : Heap) (x y : Str) (t u : Tok) : Heap := (P2 h x y t u).push { cls := .type "tuple", data := .seq #[.ref h.objs.size, .ref (P1 h x t).objs.size] }
abbrev P4 (h : Heap) (x y : Str) (t u : Tok) : Heap := (P3 h x y t u).push { cls := .type "tuple", data := .seq #[.none, .none] }
abbrev P5 (h : Heap) (x y : Str) (t u : Tok) : Heap := (P4 h x y t u).push { cls := .type "zip", data := .fields #[.none, .bool false, .bool false, .ref (P2 h x y t u).objs.size, .ref (P3 h x y t u).objs.size] }
theorem new_str (x y : Str) (t u : Tok) : Meets (Builtin.«zip.__new__» ⟨[.type "zip", .str x t, .str y u], []⟩) (fun _ R s => R (.ok (.ret (.ref (P4 s.heap x y t u).objs.size))) { s with heap := P5 s.heap x y t u }) :=
  .of_wp fun prog w A R s h => by
    obtain ⟨hp, g, d, tk, os⟩ := s
    have hsub := sub_zip
    wp_walk using iter_str, iter_str
    exact ⟨_, rfl, h⟩
section
variable {P : Program} {w : World} {A : Around} {E : Value → Shared → Prop} {s : Shared}
theorem call_str {x y : Str} {t u : Tok} {Q : Value → Shared → Prop}
    (fin : ∀ h', IsZip h' (s.heap.objs.size + 4) (s.heap.objs.size + 2) (s.heap.objs.size + 3) .none → IsPair h' (s.heap.objs.size + 2) (.ref s.heap.objs.size) (.ref (s.heap.objs.size + 1)) → IsPair h' (s.heap.objs.size + 3) .none .none →
      h'.IsStrIter s.heap.objs.size (itTy x) x t 0 → h'.IsStrIter (s.heap.objs.size + 1) (itTy y) y u 0 → (∀ c ob, s.heap.get? c = some ob → h'.get? c = some ob) → Q (.ref (s.heap.objs.size + 4)) { s with heap := h' }) :
    wpAny (model P w) A (call (.type "zip") [.str x t, .str y u]) Q E s := by
  refine callType_new F.called_zip (by decide) (F.typeCall_zip_2 _ _) (F.newCall_zip_2 _ _) (fun obj => F.args_object_init_3 obj _ _) F.entry_zip_new (new_str x y t u) ?_
  have z1 : (P1 s.heap x t).objs.size = s.heap.objs.size + 1 := Heap.size_push ..
  have z2 : (P2 s.heap x y t u).objs.size = s.heap.objs.size + 2 := (Heap.size_push ..).trans (by rw [z1])
  have z3 : (P3 s.heap x y t u).objs.size = s.heap.objs.size + 3 := (Heap.size_push ..).trans (by rw [z2])
  have z4 : (P4 s.heap x y t u).objs.size = s.heap.objs.size + 4 := (Heap.size_push ..).trans (by rw [z3])
  have w5 : (P5 s.heap x y t u).get? (P4 s.heap x y t u).objs.size = some _ := Heap.get?_push_size _ rfl
  have w4 : (P5 s.heap x y t u).get? (P3 s.heap x y t u).objs.size = some _ := Heap.get?_push_of_some _ (Heap.get?_push_size _ rfl)
  have w3 : (P5 s.heap x y t u).get? (P2 s.heap x y t u).objs.size = some _ := Heap.get?_push_of_some _ (Heap.get?_push_of_some _ (Heap.get?_push_size _ rfl))
  have w2 : (P5 s.heap x y t u).get? (P1 s.heap x t).objs.size = some _ := Heap.get?_push_of_some _ (Heap.get?_push_of_some _ (Heap.get?_push_of_some _ (Heap.get?_push_size _ rfl)))
  have w1 : (P5 s.heap x y t u).get? s.heap.objs.size = some _ := Heap.get?_push_of_some _ (Heap.get?_push_of_some _ (Heap.get?_push_of_some _ (Heap.get?_push_of_some _ (Heap.get?_push_size _ rfl))))
  show _ ∧ _
  rw [z2, z3, z4] at w5
  rw [z1, z2] at w3
  rw [z3] at w4
  rw [z1] at w2
  rw [z4]
  refine ⟨⟨_, w5, rfl⟩, fin _ w5 w3 w4 ⟨_, w1, rfl, rfl⟩ ⟨_, w2, rfl, rfl⟩ fun c ob h => ?_⟩
  exact Heap.get?_push_of_some _ (Heap.get?_push_of_some _ (Heap.get?_push_of_some _ (Heap.get?_push_of_some _ (Heap.get?_push_of_some _ h))))
end
/-- the signs of two texts, side by side -/
def ItzS (x y : Str) : It :=
  ⟨fun i _ => i < x.cps.size ∧ i < y.cps.size,
    fun i H v H' => ∃ (T : Addr) (c d : Nat), v = .ref T ∧ H T = none ∧ x.cps[i]? = some c ∧ y.cps[i]? = some d ∧ H' = upd H T (.tup [.str ⟨#[c]⟩, .str ⟨#[d]⟩]),
    fun i _ => i = x.cps.size ∨ i < x.cps.size ∧ i = y.cps.size⟩
theorem turn_zipS {P : Program} {w : World} {K : PySem.W.Frag} {elts : List Expr} {kk : Nat} {tpos : Pos} {x y : Str} {t u : Tok} {o ti to p q : Addr} (ap : Ap o ti to p q) :
    Turn P w K (.Tuple elts kk tpos) (ItzS x y) [o, ti, to, p, q] o (fun i h => IsZip h o ti to .none ∧ IsPair h ti (.ref p) (.ref q) ∧ (∃ a b, IsPair h to a b) ∧ h.IsStrIter p (itTy x) x t i ∧ h.IsStrIter q (itTy y) y u i) where
  mem := .head _
  obj := fun i h st c hc => by
    obtain ⟨k1, k2, ⟨a, b, k3⟩, ⟨o1, e1, _, d1⟩, ⟨o2, e2, _, d2⟩⟩ := st
    have hc' : c = o ∨ c = ti ∨ c = to ∨ c = p ∨ c = q := by simpa using hc
    rcases hc' with rfl | rfl | rfl | rfl | rfl
    · exact ⟨_, k1, fun v n => nomatch n⟩
    · exact ⟨_, k2, fun v n => nomatch n⟩
    · exact ⟨_, k3, fun v n => nomatch n⟩
    · exact ⟨o1, e1, fun v n => by rw [d1] at n; cases n⟩
    · exact ⟨o2, e2, fun v n => by rw [d2] at n; cases n⟩
  keep := fun i h h' st k => by
    obtain ⟨k1, k2, ⟨a, b, k3⟩, ⟨o1, e1, r1⟩, ⟨o2, e2, r2⟩⟩ := st
    exact ⟨k o (by simp) _ k1, k ti (by simp) _ k2, ⟨a, b, k to (by simp) _ k3⟩, ⟨o1, k p (by simp) _ e1, r1⟩, ⟨o2, k q (by simp) _ e2, r2⟩⟩
  item := by
    intro X hP hw hK hc i pins s σ H E I hf st hg
    subst hP hw hK
    obtain ⟨k1, k2, ⟨a, b, k3⟩, k4, k5⟩ := st
    obtain ⟨l1, l2⟩ := hg
    have ol : o < s.heap.objs.size := Heap.lt_size k1
    refine py_item (I.ok.hd hc) ap dr_str dr_str k1 k2 k3 k4 k5 l1 l2 fun c d h' tk hcu hdv z' o' s1' s2' hT hsz hk => ?_
    obtain ⟨cc, tc, hcc, rfl⟩ := hcu
    obtain ⟨dd, td, hdd, rfl⟩ := hdv
    refine ⟨_, rfl, wpAny_letOwnedTupleGo_zip (s := { s with heap := h', toks := tk }) z' fun h'' z'' sb => ?_⟩
    have hT2 : h''.get? s.heap.objs.size = some { cls := .type "tuple", data := .seq #[.str ⟨#[cc]⟩ tc, .str ⟨#[dd]⟩ td] } := (sb.2 _ (Nat.ne_of_gt ol)).trans hT
    have new : ObjOk X.prog X.w (upd H s.heap.objs.size (.tup [.str ⟨#[cc]⟩, .str ⟨#[dd]⟩])) h'' s.heap.objs.size (.tup [.str ⟨#[cc]⟩, .str ⟨#[dd]⟩]) :=
      ⟨by show 2 ≤ sizeLine; decide, [.str ⟨#[cc]⟩ tc, .str ⟨#[dd]⟩ td], .cons ⟨tc, rfl⟩ (.cons ⟨td, rfl⟩ .nil), ⟨_, hT2, rfl, _, rfl⟩⟩
    have I1 : Inv X pins σ (upd H s.heap.objs.size (.tup [.str ⟨#[cc]⟩, .str ⟨#[dd]⟩])) { s with heap := h'', toks := tk } :=
      I.turnedNew (t' := tk) (ch := [o, ti, to, p, q]) (fun c ob hb e => (sb.2 c (fun n => hb (by simp [n]))).trans (hk c ob (fun n => hb (by simp [n])) (fun n => hb (by simp [n])) (fun n => hb (by simp [n])) (fun n => hb (by simp [n])) e)) hf (Nat.le_refl _) new
    refine ⟨.ref s.heap.objs.size, _, I1, rfl, ⟨_, cc, dd, rfl, I.hok.fresh (Nat.le_refl _), hcc, hdd, rfl⟩, ⟨z'', ?_, ⟨_, _, (sb.2 _ ap.a2).trans o'⟩, ?_, ?_⟩, fun c hcm => ?_⟩
    · exact (sb.2 _ ap.a1).trans (hk _ _ ap.a1 ap.b1 ap.b2 ap.b3 k2)
    · obtain ⟨ob, e, r⟩ := s1'
      exact ⟨ob, (sb.2 _ ap.a3).trans e, r⟩
    · obtain ⟨ob, e, r⟩ := s2'
      exact ⟨ob, (sb.2 _ ap.a4).trans e, r⟩
    · have lt : c < s.heap.objs.size := by
        have hc' : c = o ∨ c = ti ∨ c = to ∨ c = p ∨ c = q := by simpa using hcm
        rcases hc' with rfl | rfl | rfl | rfl | rfl
        · exact ol
        · exact Heap.lt_size k2
        · exact Heap.lt_size k3
        · obtain ⟨_, e, _⟩ := k4; exact Heap.lt_size e
        · obtain ⟨_, e, _⟩ := k5; exact Heap.lt_size e
      rw [upd_ne (Nat.ne_of_lt lt)]
      exact (hf c hcm).1
  done := by
    intro X hP hw hK hc i pins s σ H E I hf st hg
    subst hP hw hK
    obtain ⟨k1, k2, ⟨a, b, k3⟩, k4, k5⟩ := st
    refine py_end (I.ok.hd hc) ap dr_str dr_str k1 k2 k3 k4 k5 hg fun h' tk hk => ⟨rfl, I.turnedL (t' := tk) (ch := [o, ti, to, p, q]) (fun c ob hb e => ?_) hf⟩
    exact hk c ob (fun n => hb (by simp [n])) (fun n => hb (by simp [n])) (fun n => hb (by simp [n])) (fun n => hb (by simp [n])) e
  self := fun A i s Q E st h => wpAny_pyIter_zip st.1 h
def iZipS (ta : TA) : TI := fun σ H R => ta σ H fun vs H1 => ∃ x y : Str, vs = [.str x, .str y] ∧ R (ItzS x y) H1
theorem pi_zipS {X : Cx} {e e2 : Expr} {ta : TA} {p pos tpos : Pos} {elts : List Expr} {kk : Nat} (hg : Gl X "zip") (hm : X.mg "zip" = none) (ha : PA X [e, e2] ta)
    (h1 : starEach [e, e2] X.env = (false, eval e X.env) :: starEach [e2] X.env := by rfl) (h2 : (backTo pos (starEach [e2] X.env)).any (·.1) = false := by rfl) : PI X (.Tuple elts kk tpos) (.Call (.Name "zip" p) [e, e2] [] pos) (iZipS ta) := by
  refine ⟨fun pins s σ H R I h => ?_⟩
  refine Call_ (ld_blt I hg hm PyProof.Rows.boot_zip (PyProof.Rows.callWith_type1 (thn (ha.run pos pins s σ H _ I h) fun us s1 ⟨vs, H1, I1, r1, x, y, ex, q⟩ => ?_) h1 h2))
  subst ex
  cases r1 with
  | cons r rr =>
    cases rr with
    | cons r' rr =>
      cases rr
      obtain ⟨t, rfl⟩ := r
      obtain ⟨u, rfl⟩ := r'
      refine call_str fun h' k1 k2 k3 k4 k5 hk => wpAny_pyIter_zip k1 ?_
      have I2 : Inv X pins σ H1 { s1 with heap := h' } := I1.kept (t' := s1.toks) hk
      refine ⟨s1.heap.objs.size + 4, [s1.heap.objs.size + 4, s1.heap.objs.size + 2, s1.heap.objs.size + 3, s1.heap.objs.size, s1.heap.objs.size + 1], _, _, H1, rfl, I2, turn_zipS (t := t) (u := u) (ap_new _), ⟨k1, k2, ⟨_, _, k3⟩, k4, k5⟩, fun c hc => ?_, q⟩
      have le : s1.heap.objs.size ≤ c := by
        simp only [List.mem_cons, List.not_mem_nil, or_false] at hc
        rcases hc with e | e | e | e | e <;> subst e <;> first | exact Nat.le_refl _ | exact Nat.le_add_right _ _
      exact I1.fpOk le (I1.hok.fresh le)
/-- a loop over zip of two texts of one length -/
theorem for_zipS {l m : List Nat} {g : TG} {tb : TS} {D : Ends} {σ : L2.St} {H : Hp} (hl : l.length = m.length) (Pv : Nat → L2.St → Hp → Prop) (h0 : Pv 0 σ H)
    (hs : ∀ (i c d : Nat) (T : Addr) (σ : L2.St) (H : Hp), l[i]? = some c → m[i]? = some d → Pv i σ H → H T = none → g (.ref T) σ (upd H T (.tup [.str (SX.S [c]), .str (SX.S [d])])) fun σ2 H2 => tb { D with nx := Pv (i + 1), ct := Pv (i + 1), bk := D.nx } σ2 H2) (hd : ∀ σ H, Pv l.length σ H → D.nx σ H) :
    ∃ W : Nat → Nat → L2.St → Hp → Prop, (∃ m, W 0 m σ H) ∧ ∀ i n σ H, W i n σ H →
      ((ItzS (SX.S l) (SX.S m)).stop i H ∧ D.nx σ H) ∨ ((ItzS (SX.S l) (SX.S m)).go i H ∧ ∃ N : L2.St → Hp → Prop, (∀ σ' H', N σ' H' → ∃ m', m' < n ∧ W (i + 1) m' σ' H') ∧ ∀ v H', (ItzS (SX.S l) (SX.S m)).yld i H v H' → g v σ H' fun σ2 H2 => tb { D with nx := N, ct := N, bk := D.nx } σ2 H2) := by
  refine ⟨fun i n σ H => n = l.length - i ∧ i ≤ l.length ∧ Pv i σ H, ⟨l.length, rfl, Nat.zero_le _, h0⟩, ?_⟩
  rintro i n σ H ⟨rfl, hi, pv⟩
  by_cases lt : i < l.length
  · refine .inr ⟨⟨show i < l.length from lt, show i < m.length by omega⟩, Pv (i + 1), fun σ' H' p' => ⟨l.length - (i + 1), by omega, rfl, lt, p'⟩, fun v H' y => ?_⟩
    obtain ⟨T, c, d, rfl, hT, hc, hd', rfl⟩ := y
    exact hs i c d T σ H (by rw [← hc]; simp [SX.S]) (by rw [← hd']; simp [SX.S]) pv hT
  · have e : i = l.length := by omega
    subst e
    exact .inl ⟨.inl rfl, hd σ H pv⟩
end WZ
namespace WP
open PySem PySem.Spec PyProof.Rows L2 WZ
theorem zipS {ta : TA} {σ : L2.St} {H : Hp} {R : It → Hp → Prop} (h : ta σ H fun vs H1 => ∃ x y : Str, vs = [.str x, .str y] ∧ R (ItzS x y) H1) : iZipS ta σ H R := h
theorem Sm.mut {H H' : Hp} {p : Addr} {xs ys : List V} (e : Sm H H') (h : H p = none) (hp : H' p = some (.lst xs)) : Sm H (upd H' p (.lst ys)) := by
  refine ⟨fun b u hb nt => ?_, fun P hP => ?_⟩
  · rw [upd_ne (ne_of_none hb h)]
    exact e.k b u hb nt
  · obtain ⟨ps, h1, h2⟩ := e.t P hP
    have n : P ≠ p := fun z => by rw [z, hp] at h1; cases h1
    exact ⟨ps, by rw [upd_ne n]; exact h1, h2⟩
/-- a comprehension over zip of two texts of one length -/
theorem lc_zipS {l m : List Nat} {g : TG} {tt : TT} {te : TE} {vs : List Nat} {σ : L2.St} {H1 : Hp} {D : Addr} {Qd : Hp → Prop} (hl : l.length = m.length) (Pv : Nat → Hp → Prop) (h0 : Pv 0 (upd H1 D (.lst [])))
    (hs : ∀ (i c d : Nat) (T : Addr) (H : Hp), l[i]? = some c → m[i]? = some d → Pv i H → H T = none → g (.ref T) (wipe σ vs) (upd H T (.tup [.str (SX.S [c]), .str (SX.S [d])])) fun σ2 H2 => wipe σ2 vs = wipe σ vs ∧ tt σ2 H2 fun b H3 =>
      if b = true then te σ2 H3 fun y H4 => ∃ acc, H4 D = some (.lst acc) ∧ acc.length < sizeLine ∧ Pv (i + 1) (upd H4 D (.lst (acc ++ [y]))) else Pv (i + 1) H3) (hd : ∀ H, Pv l.length H → Qd H) :
    ∃ W : Nat → Nat → Hp → Prop, (∃ m, W 0 m (upd H1 D (.lst []))) ∧ ∀ i n H, W i n H →
      ((ItzS (SX.S l) (SX.S m)).stop i H ∧ Qd H) ∨ ((ItzS (SX.S l) (SX.S m)).go i H ∧ ∃ Nx : Hp → Prop, (∀ H', Nx H' → ∃ m', m' < n ∧ W (i + 1) m' H') ∧ ∀ x H', (ItzS (SX.S l) (SX.S m)).yld i H x H' → g x (wipe σ vs) H' fun σ2 H2 => wipe σ2 vs = wipe σ vs ∧ tt σ2 H2 fun b H3 =>
        if b = true then te σ2 H3 fun y H4 => ∃ acc, H4 D = some (.lst acc) ∧ acc.length < sizeLine ∧ Nx (upd H4 D (.lst (acc ++ [y]))) else Nx H3) := by
  refine ⟨fun i n H => n = l.length - i ∧ i ≤ l.length ∧ Pv i H, ⟨l.length, rfl, Nat.zero_le _, h0⟩, ?_⟩
  rintro i n H ⟨rfl, hi, pv⟩
  by_cases lt : i < l.length
  · refine .inr ⟨⟨show i < l.length from lt, show i < m.length by omega⟩, Pv (i + 1), fun H' p' => ⟨l.length - (i + 1), by omega, rfl, lt, p'⟩, fun v H' y => ?_⟩
    obtain ⟨T, c, d, rfl, hT, hc, hd', rfl⟩ := y
    exact hs i c d T H (by rw [← hc]; simp [SX.S]) (by rw [← hd']; simp [SX.S]) pv hT
  · have e : i = l.length := by omega
    subst e
    exact .inl ⟨.inl rfl, hd H pv⟩
end WP

namespace WP
open PySem PySem.Spec PyProof.Rows L2
/-! ### lists of counts and of truths -/
abbrev iL (l : List Nat) : List V := l.map fun (w : Nat) => V.int (w : Int)
abbrev bL (l : List Bool) : List V := l.map V.bl
section
variable {K : PySem.W.Frag} {H : Hp} {p : Addr} {Q : VK} {l : List Nat} {bs : List Bool} {j : Nat}
theorem at_iL (h : j < l.length) : atI (iL l) (j : Int) = some (.int ((l.getD j 0 : Nat) : Int)) := atI_nat (by rw [List.getElem?_map, List.getElem?_eq_getElem h, List.getD_eq_getElem?_getD, List.getElem?_eq_getElem h]; rfl)
theorem at_bL (h : j < bs.length) : atI (bL bs) (j : Int) = some (.bl (bs.getD j false)) := atI_nat (by rw [List.getElem?_map, List.getElem?_eq_getElem h, List.getD_eq_getElem?_getD, List.getElem?_eq_getElem h]; rfl)
theorem at_rev {v : Nat} {q : List Nat} : atI (iL (v :: q).reverse) (-1) = some (.int (v : Int)) := by
  rw [List.reverse_cons, show iL (q.reverse ++ [v]) = iL q.reverse ++ [.int (v : Int)] from List.map_append]
  exact atI_last _ _
theorem set_iL {v : Nat} : (iL l).set j (.int (v : Int)) = iL (l.set j v) := by unfold iL; rw [List.map_set]
theorem set_bL {b : Bool} : (bL bs).set j (.bl b) = bL (bs.set j b) := by unfold bL; rw [List.map_set]
theorem app_iL {v : Nat} : iL l ++ [.int (v : Int)] = iL (l ++ [v]) := by unfold iL; rw [List.map_append]; rfl
theorem app_rev {v : Nat} {q : List Nat} : iL q.reverse ++ [.int (v : Int)] = iL (v :: q).reverse := by rw [List.reverse_cons, app_iL]
theorem setN {xs : List V} {v : V} {R : Hp → Prop} (hp : H p = some (.lst xs)) (hj : j < xs.length) (q : R (upd H p (.lst (xs.set j v)))) : rSetL (.ref p) (.int (j : Int)) v H R := setL hp (Evl.ixN_nat hj) q
theorem popRev {v : Nat} {r : List Nat} (hp : H p = some (.lst (iL (v :: r).reverse))) (q : Q (.int (v : Int)) (upd H p (.lst (iL r.reverse)))) : rPop (.ref p) [] H Q := by
  refine ⟨p, _, .int (v : Int), rfl, rfl, hp, ?_, ?_⟩
  · unfold iL
    rw [List.reverse_cons, List.map_append, List.length_append]
    show (_ ++ [V.int (v : Int)])[_ + 1 - 1]? = _
    rw [Nat.add_sub_cancel, List.getElem?_append_right (Nat.le_refl _), Nat.sub_self]; rfl
  · unfold iL at q ⊢
    rw [List.reverse_cons, List.map_append]
    show Q _ (upd H p (.lst ((_ ++ [V.int (v : Int)]).dropLast)))
    rw [List.dropLast_concat]; exact q
theorem tr_rev {v : Nat} {q : List Nat} : (!(iL (v :: q).reverse).isEmpty) = true := by
  unfold iL
  rw [List.reverse_cons, List.map_append]
  cases List.map (fun (w : Nat) => V.int (w : Int)) q.reverse <;> rfl
theorem trL {xs : List V} (h : SqL K H p xs) : TruV K (.ref p) H (!xs.isEmpty) := .inl ⟨xs, h, rfl⟩
end
section
variable {K : PySem.W.Frag} {H : Hp} {p : Addr} {Q : VK} {l : List Nat} {v : Nat}
theorem inV_N : ∀ {l : List Nat}, inV (.int (v : Int)) (iL l) = decide (v ∈ l)
  | [] => rfl
  | a :: l => by
    show (eqV (.int (a : Int)) (.int (v : Int)) || inV (.int (v : Int)) (iL l)) = _
    rw [inV_N]
    show (((a : Int) == (v : Int)) || _) = _
    by_cases h : a = v
    · subst h; simp
    · rw [show ((a : Int) == (v : Int)) = false from by rw [beq_eq_false_iff_ne]; omega, Bool.false_or]
      congr 1
      exact propext ⟨fun z => List.mem_cons_of_mem _ z, fun z => by
        rcases List.mem_cons.mp z with z | z
        · exact absurd z.symm h
        · exact z⟩
theorem flat_N : ∀ (l : List Nat), (iL l).all flatV = true
  | [] => rfl
  | a :: l => flat_N l
theorem inNL (h : SqL K H p (iL l)) (q : Q (.bl (decide (v ∈ l))) H) : rIn K false (.int (v : Int)) (.ref p) H Q := ⟨p, _, rfl, .inl h, rfl, flat_N l, by rw [inV_N]; exact q⟩
theorem inNT (h : SqT K H p (iL l)) (q : Q (.bl (decide (v ∈ l))) H) : rIn K false (.int (v : Int)) (.ref p) H Q := ⟨p, _, rfl, .inr h, rfl, flat_N l, by rw [inV_N]; exact q⟩
theorem notInNL (h : SqL K H p (iL l)) (q : Q (.bl (!decide (v ∈ l))) H) : rIn K true (.int (v : Int)) (.ref p) H Q := ⟨p, _, rfl, .inl h, rfl, flat_N l, by rw [inV_N]; exact q⟩
theorem notInNT (h : SqT K H p (iL l)) (q : Q (.bl (!decide (v ∈ l))) H) : rIn K true (.int (v : Int)) (.ref p) H Q := ⟨p, _, rfl, .inr h, rfl, flat_N l, by rw [inV_N]; exact q⟩
/-- sorted(a list of counts) -/
theorem sortedN (h : SqL K H p (iL l)) (hz : l.length < 64) (q : ∀ (l' : List Nat) (a : Addr), l'.Perm l → H a = none → Q (.ref a) (upd H a (.lst (iL l')))) : rSorted K [.ref p] H Q := by
  refine ⟨p, l.map fun (w : Nat) => (w : Int), rfl, by rw [List.map_map]; exact h, by rw [List.length_map]; exact hz, fun ns' a hp _ ha => ?_⟩
  have e2 : ns'.map V.int = iL (ns'.map Int.toNat) := by
    unfold iL
    rw [List.map_map]
    refine List.map_congr_left fun x hx => ?_
    obtain ⟨w, _, rfl⟩ := List.mem_map.mp ((hp.mem_iff).mp hx)
    rfl
  rw [e2]
  refine q _ a ?_ ha
  have := hp.map Int.toNat
  rw [List.map_map] at this
  rw [show l.map (Int.toNat ∘ fun (w : Nat) => (w : Int)) = l from by simp [Function.comp_def]] at this
  exact this
end
section
variable {σ : L2.St} {H : Hp} {D : Ends} {Q : VK} {td ty tv : TE} {d : Addr} {kvs : List (Key × V)} {i : Int} {v : V}
theorem dnewK (q : ∀ p, H p = none → Q (.ref p) (upd H p (.dK []))) : tDNewK σ H Q := q
theorem din (h : ty σ H fun y H1 => td σ H1 fun x H2 => ∃ a o, x = .ref a ∧ DGet H2 a y o ∧ Q (.bl o.isSome) H2) : tDIn ty td σ H Q := h
theorem dnotin (h : ty σ H fun y H1 => td σ H1 fun x H2 => ∃ a o, x = .ref a ∧ DGet H2 a y o ∧ Q (.bl (!o.isSome)) H2) : tDNotIn ty td σ H Q := h
theorem dput (h : tv σ H fun v H1 => td σ H1 fun x H2 => ty σ H2 fun y H3 => ∃ a H4, x = .ref a ∧ DPut H3 a y v H4 ∧ D.nx σ H4) : sDPut td ty tv D σ H := h
theorem inK (hd : H d = some (.dK kvs)) (q : Q (.bl (valV kvs (Sum.inl i)).isSome) H) : ∃ a o, V.ref d = .ref a ∧ DGet H a (.int i) o ∧ Q (.bl o.isSome) H := ⟨d, _, rfl, DGet.k (k := Sum.inl i) hd, q⟩
theorem notInK (hd : H d = some (.dK kvs)) (q : Q (.bl (!(valV kvs (Sum.inl i)).isSome)) H) : ∃ a o, V.ref d = .ref a ∧ DGet H a (.int i) o ∧ Q (.bl (!o.isSome)) H := ⟨d, _, rfl, DGet.k (k := Sum.inl i) hd, q⟩
theorem getK (hd : H d = some (.dK kvs)) (e : valV kvs (Sum.inl i) = some v) (q : Q v H) : ∃ a v, V.ref d = .ref a ∧ DGet H a (.int i) (some v) ∧ Q v H := ⟨d, v, rfl, e ▸ DGet.k (k := Sum.inl i) hd, q⟩
theorem gotK (hd : H d = some (.dK kvs)) (e : valV kvs (Sum.inl i) = some v) : DGet H d (.int i) (some v) := e ▸ DGet.k (k := Sum.inl i) hd
theorem putKI {R : Hp → Prop} (hd : H d = some (.dK kvs)) (hl : kvs.length < sizeLine) (q : R (upd H d (.dK (putK kvs (Sum.inl i) v)))) : ∃ a H4, V.ref d = .ref a ∧ DPut H a (.int i) v H4 ∧ R H4 := ⟨d, _, rfl, DPut.k (k := Sum.inl i) hd hl, q⟩
end
theorem ix_tupK {X : Cx} {K : PySem.W.Frag} (h : X.K = K) : IxR X (rIxT K) := by subst h; exact ix_tup
theorem ix_listK {X : Cx} {K : PySem.W.Frag} (h : X.K = K) : IxR X (rIxL K) := by subst h; exact ix_list
theorem tupRev {K : PySem.W.Frag} {te : TE} {σ : L2.St} {H : Hp} {Q : VK} (h : te σ H fun v H1 => ∃ (a : Addr) (xs : List V), v = .ref a ∧ SqL K H1 a xs ∧ ∀ q, H1 q = none → Q (.ref q) (upd H1 q (.tup xs.reverse))) : RT.tTupRev K te σ H Q := h
theorem rev {K : PySem.W.Frag} {ta : TA} {σ : L2.St} {H : Hp} {R : It → Hp → Prop} (h : ta σ H fun vs H1 => ∃ (a : Addr) (xs : List V), vs = [.ref a] ∧ SqL K H1 a xs ∧ R (Itv K a xs.length) H1) : iRev K ta σ H R := h
end WP

namespace WP
open PySem PySem.Spec PyProof.Rows L2
/-! ### own classes -/
structure ClsOk (K : PySem.W.Frag) (mg : MG) (nm : Str) (at' : List Str) : Prop where
  m : mg nm = some (.ref (ca mg nm))
  c : Cls K (ca mg nm)
  n : ∀ f ∈ at', NoAttr K (ca mg nm) f
theorem ClsOk.mk' {K : PySem.W.Frag} {mg : MG} {nm : Str} {at' : List Str} {C : Addr} (h : mg nm = some (.ref C)) (c : Cls K C) (n : ∀ f ∈ at', NoAttr K C f) : ClsOk K mg nm at' := by
  have e := ca_of h
  exact ⟨by rw [e]; exact h, by rw [e]; exact c, by rw [e]; exact n⟩
/-- a method that may be called -/
structure CalleeM (P : Program) (w : World) (K : PySem.W.Frag) (mg : MG) (base : Heap) (CX : CXT) (lv : Nat) (nm m : Str) (ps : List Str) (sp : Sp) : Prop where
  ex : ∃ (f : Addr) (fd : FuncData), FnOk P w K mg base CX lv f fd ps sp ∧ Meth K (ca mg nm) m f ∧ Binds K fd ps []
theorem CalleeM.mk' {P : Program} {w : World} {K : PySem.W.Frag} {mg : MG} {base : Heap} {CX : CXT} {lv : Nat} {nm m : Str} {ps : List Str} {sp : Sp} {C f : Addr} {fd : FuncData}
    (h : FnOk P w K mg base CX lv f fd ps sp) (hc : mg nm = some (.ref C)) (hm : Meth K C m f) (b : Binds K fd ps []) : CalleeM P w K mg base CX lv nm m ps sp := ⟨⟨f, fd, h, by rw [ca_of hc]; exact hm, b⟩⟩
/-- a class that may be made -/
structure CalleeI (P : Program) (w : World) (K : PySem.W.Frag) (mg : MG) (base : Heap) (CX : CXT) (lv : Nat) (nm : Str) (ps : List Str) (sp : Sp) : Prop where
  ex : ∃ (f : Addr) (fd : FuncData), FnOk P w K mg base CX lv f fd ps sp ∧ Mk K (ca mg nm) f ∧ Binds K fd ps []
theorem CalleeI.mk' {P : Program} {w : World} {K : PySem.W.Frag} {mg : MG} {base : Heap} {CX : CXT} {lv : Nat} {nm : Str} {ps : List Str} {sp : Sp} {C f : Addr} {fd : FuncData}
    (h : FnOk P w K mg base CX lv f fd ps sp) (hc : mg nm = some (.ref C)) (hm : Mk K C f) (b : Binds K fd ps []) : CalleeI P w K mg base CX lv nm ps sp := ⟨⟨f, fd, h, by rw [ca_of hc]; exact hm, b⟩⟩
section
variable {K : PySem.W.Frag} {σ : L2.St} {H : Hp} {Q : VK} {ta tv : TE} {t : TA} {f m : Str} {p C dx : Addr} {fs : List (Str × V)} {v : V} {D : Ends} {sp : Sp} {dvs : List V} {E : XK} {mg : MG} {nm : Str} {at' : List Str}
/-- steps -/
theorem fld (h : ta σ H fun x H1 => ∃ a C dx fs v, x = .ref a ∧ H1 a = some (.ins C dx fs) ∧ Cls K C ∧ NoAttr K C f ∧ fs.lookup f = some v ∧ Q v H1) : tFld K ta f σ H Q := h
theorem fldA (k : ClsOk K mg nm at') (hp : H p = some (.ins (ca mg nm) dx fs)) (hl : fs.lookup f = some v) (q : Q v H) (hm : f ∈ at' := by decide +kernel) :
    ∃ a C dx fs v, V.ref p = .ref a ∧ H a = some (.ins C dx fs) ∧ Cls K C ∧ NoAttr K C f ∧ fs.lookup f = some v ∧ Q v H := ⟨p, _, dx, fs, v, rfl, hp, k.c, k.n f hm, hl, q⟩
theorem sfld (h : tv σ H fun y H1 => ta σ H1 fun x H2 => ∃ a C dx fs, x = .ref a ∧ H2 a = some (.ins C dx fs) ∧ Cls K C ∧ NoAttr K C f ∧ fs.length < 1000 ∧ D.nx σ (upd H2 a (.ins C dx (putF f y fs)))) : sFld K ta tv f D σ H := h
theorem sfldA {R : Hp → Prop} (k : ClsOk K mg nm at') (hp : H p = some (.ins (ca mg nm) dx fs)) (hl : fs.length < 1000) (q : R (upd H p (.ins (ca mg nm) dx (putF f v fs)))) (hm : f ∈ at' := by decide +kernel) :
    ∃ a C dx fs, V.ref p = .ref a ∧ H a = some (.ins C dx fs) ∧ Cls K C ∧ NoAttr K C f ∧ fs.length < 1000 ∧ R (upd H a (.ins C dx (putF f v fs))) := ⟨p, _, dx, fs, rfl, hp, k.c, k.n f hm, hl, q⟩
theorem meth (h : ta σ H fun x H1 => ∃ a dx fs, x = .ref a ∧ H1 a = some (.ins C dx fs) ∧ fs.lookup m = none ∧ t σ H1 fun vs H2 => sp (x :: (vs ++ dvs)) H2 Q E) : tMeth C m sp dvs E ta t σ H Q := h
theorem methA {R : Hp → Prop} (hp : H p = some (.ins C dx fs)) (hl : fs.lookup m = none) (q : R H) : ∃ a dx fs, V.ref p = .ref a ∧ H a = some (.ins C dx fs) ∧ fs.lookup m = none ∧ R H := ⟨p, dx, fs, rfl, hp, hl, q⟩
theorem make (h : t σ H fun vs H1 => ∀ x dx, H1 x = none → H1 dx = none → dx ≠ x → sp (.ref x :: (vs ++ dvs)) (upd (upd H1 dx (.own x)) x (.ins C dx [])) (fun v H2 => v = .non ∧ Q (.ref x) H2) E) : tMake C sp dvs E t σ H Q := h
end
theorem same_made {H : Hp} {x dx C : Addr} (nx : H x = none) (nd : H dx = none) : Same H (upd (upd H dx (.own x)) x (.ins C dx [])) := fun b o e => by
  rw [upd_ne (ne_of_none e nx), upd_ne (ne_of_none e nd)]
  exact e
/-! ### list of a text -/
def rListS : List V → Hp → VK → Prop := fun xs H Q => ∃ l : List Nat, xs = [.str (SX.S l)] ∧ l.length ≤ sizeLine ∧ ∀ p, H p = none → Q (.ref p) (upd H p (.lst ((l.map fun c => SX.S [c]).map V.str)))
theorem signs_vals {l : List Nat} {acc : Array Value} (h : ItemsOf (SignAt (SX.S l)) acc (SX.S l).cps.size) : Vals ((l.map fun c => SX.S [c]).map V.str) acc.toList := by
  obtain ⟨h1, h2⟩ := h
  have hs : (SX.S l).cps.size = l.length := by simp [SX.S]
  rw [hs] at h1
  have g : ∀ (xs : List Nat) (us : List Value), xs.length = us.length → (∀ (j : Nat) (u : Value), us[j]? = some u → ∃ (c : Nat) (t : Tok), xs[j]? = some c ∧ u = .str ⟨#[c]⟩ t) → Vals ((xs.map fun c => SX.S [c]).map V.str) us := by
    intro xs
    induction xs with
    | nil =>
      intro us hl _
      have : us = [] := List.length_eq_zero_iff.mp hl.symm
      subst this
      exact .nil
    | cons x xs ih =>
      intro us hl hu
      match us, hl, hu with
      | u :: us, hl, hu =>
        obtain ⟨c, t, hc, rfl⟩ := hu 0 u rfl
        cases hc
        exact .cons ⟨t, rfl⟩ (ih us (by simpa using hl) fun j u' hj => hu (j + 1) u' hj)
  refine g l acc.toList (h1.symm.trans Array.length_toList.symm) fun j u hj => ?_
  rw [Array.getElem?_toList] at hj
  obtain ⟨c, t, hc, e⟩ := h2 j u hj
  refine ⟨c, t, ?_, e⟩
  rw [← hc]; simp [SX.S]
theorem c_listS {X : Cx} (hc : X.calm = true) : CallR X (.type "list") rListS := by
  intro pins s σ H xs us Q I r h
  obtain ⟨l, rfl, hl, q⟩ := h
  obtain ⟨u, rfl, rx⟩ := vals1 r
  obtain ⟨t, rfl⟩ := rx
  have hz : (SX.S l).cps.size ≤ sizeLine := by
    have : (SX.S l).cps.size = l.length := by simp [SX.S]
    omega
  refine call_list_str (I.ok.hd hc) (SX.S l) t (fun h' tk acc' c' kp e hit => ?_) hz
  refine ⟨.ref s.heap.objs.size, _, I.laid (t' := tk) kp (Nat.le_refl _) (show ObjOk X.prog X.w _ h' _ (.lst ((l.map fun c => SX.S [c]).map V.str)) from ⟨?_, acc'.toList, c', signs_vals hit, ?_⟩), rfl, q _ (I.hok.fresh (Nat.le_refl _))⟩
  · rw [List.length_map, List.length_map]; exact hl
  · exact e
theorem listS {l : List Nat} {H : Hp} {Q : VK} (hl : l.length ≤ sizeLine) (q : ∀ p, H p = none → Q (.ref p) (upd H p (.lst ((l.map fun c => SX.S [c]).map V.str)))) : rListS [.str (SX.S l)] H Q := ⟨l, rfl, hl, q⟩
/-! ### xs[a:b] = ys -/
def gSl (to : TE) (tl th : TO) : TG := fun v σ H QS => to σ H fun o H1 => tl σ H1 fun a H2 => th σ H2 fun c H3 => ∃ (p b : Addr) (xs ys : List V) (i j : Int), o = .ref p ∧ a = some i ∧ c = some j ∧ v = .ref b ∧ H3 p = some (.lst xs) ∧ H3 b = some (.lst ys) ∧ p ≠ b ∧ 0 ≤ i ∧ i ≤ j ∧ j ≤ xs.length ∧ xs.length + ys.length ≤ sizeLine ∧
  QS σ (upd H3 p (.lst (xs.take i.toNat ++ ys ++ xs.drop j.toNat)))
theorem pg_sl {X : Cx} {o : Expr} {lo hi : Option Expr} {p2 pos : Pos} {to : TE} {tl th : TO} (ho : PE X o to) (hl : PO X lo tl) (hu : PO X hi th)
    (ha : ∀ v, assign (.Subscript o (.Slice lo hi none p2) pos) X.env v = (do
      let q ← holding [v] (eval o X.env)
      let z ← holding [v, q] (eval (.Slice lo hi none p2) X.env)
      standAt pos
      holding [v, q, z] (setItem q z v)
      release [z, v, q] []) := by intro _; rfl) : PG X (.Subscript o (.Slice lo hi none p2) pos) (gSl to tl th) := by
  refine ⟨fun pins s σ H v u Q I r h => ?_⟩
  rw [ha]
  refine wpAny_bind (wpAny_holding (thn (ho.run pins s σ H _ I h) fun ov s1 ⟨x, H1, I1, r1, q1⟩ => ?_))
  refine wpAny_bind (wpAny_holding (wpAny_Slice (thn (hl.run pins s1 σ H1 _ I1 q1) fun vl s2 ⟨l, H2, I2, pl, q2⟩ => thn (hu.run pins s2 σ H2 _ I2 q2) fun vu s3 ⟨w, H3, I3, pu, q3⟩ => ?_)))
  rw [evalPart_none]
  refine wpAny_pure ?_
  obtain ⟨p, b, xs, ys, i, j, e1, e2, e3, e4, h1, h2, n, b0, b1, b2, hz, q⟩ := q3
  subst e1 e2 e3 e4
  have I4 : Inv X pins σ H3 { s3 with heap := s3.heap.push { cls := .type "slice", data := .fields #[vl, vu, .none] } } := I3.kept (t' := s3.toks) fun _ _ e => Heap.get?_push_of_some _ e
  cases r1
  cases r
  have ri : RelV (.int i) vl := by cases pl; exact ⟨_, rfl⟩
  have rj : RelV (.int j) vu := by cases pu; exact ⟨_, rfl⟩
  refine wpAny_bind (wpAny_standAt (wpAny_bind (wpAny_holding (set_slice I4 h1 h2 n (Heap.IsSliceOf.new ..) ri rj b0 b1 b2 hz fun s' I5 => ?_))))
  exact wpAny_release ⟨σ, _, I5, q⟩
theorem gsl {to : TE} {tl th : TO} {v : V} {σ : L2.St} {H : Hp} {QS : L2.St → Hp → Prop} (h : to σ H fun o H1 => tl σ H1 fun a H2 => th σ H2 fun c H3 => ∃ (p b : Addr) (xs ys : List V) (i j : Int), o = .ref p ∧ a = some i ∧ c = some j ∧ v = .ref b ∧ H3 p = some (.lst xs) ∧ H3 b = some (.lst ys) ∧ p ≠ b ∧ 0 ≤ i ∧ i ≤ j ∧ j ≤ xs.length ∧ xs.length + ys.length ≤ sizeLine ∧
  QS σ (upd H3 p (.lst (xs.take i.toNat ++ ys ++ xs.drop j.toNat)))) : gSl to tl th v σ H QS := h
/-- a list's slice -/
theorem slL {K : PySem.W.Frag} {p : Addr} {xs : List V} {lo hi : Option Int} {H : Hp} {Q : VK} (h : SqL K H p xs) (q : ∀ a, H a = none → Q (.ref a) (upd H a (.lst (cutV xs lo hi)))) : rSlL K (.ref p) lo hi H Q := ⟨p, xs, rfl, h, q⟩
theorem cut_nat {xs : List V} {i j : Nat} (h : i ≤ j) (hj : j ≤ xs.length) : cutV xs (some (i : Int)) (some (j : Int)) = (xs.drop i).take (j - i) := by
  have e1 : HT.sIx xs.length 0 (some (i : Int)) = i := by
    show (if (i : Int) < 0 then ((i : Int) + (xs.length : Int)).toNat else min (i : Int).toNat xs.length) = i
    rw [if_neg (by omega)]; omega
  have e2 : HT.sIx xs.length xs.length (some (j : Int)) = j := by
    show (if (j : Int) < 0 then ((j : Int) + (xs.length : Int)).toNat else min (j : Int).toNat xs.length) = j
    rw [if_neg (by omega)]; omega
  unfold cutV
  rw [e1, e2]
/-- all(xs) -/
theorem allL {K : PySem.W.Frag} {p : Addr} {bs : List Bool} {H : Hp} {Q : VK} (h : SqL K H p (bs.map V.bl)) (q : Q (.bl (bs.all _root_.id)) H) : rAll K [.ref p] H Q := ⟨p, bs, rfl, h, q⟩
theorem lookS {f : Str} {v : V} : List.lookup f [(f, v)] = some v := by
  show (match f == f with | true => some v | false => _) = some v
  rw [beq_self_eq_true]
section
variable {K : PySem.W.Frag} {σ : L2.St} {H : Hp} {Q : VK} {ta : TE} {f m : Str} {p dx C : Addr} {fs : List (Str × V)} {v : V} {mg : MG} {nm : Str} {at' : List Str} {i : Nat} {sp : Sp} {dvs : List V} {E : XK} {t : TA}
theorem fldV (k : ClsOk K mg nm at') (hv : σ[i]? = some (some (.ref p))) (hp : H p = some (.ins (ca mg nm) dx fs)) (hl : fs.lookup f = some v) (hm : f ∈ at') (q : Q v H) : tFld K (tVar i) f σ H Q := ⟨.ref p, hv, p, _, dx, fs, v, rfl, hp, k.c, k.n f hm, hl, q⟩
theorem fldG (k : ClsOk K mg nm at') (hm : f ∈ at') (q : ta σ H fun x H1 => ∃ p dx fs v, x = .ref p ∧ H1 p = some (.ins (ca mg nm) dx fs) ∧ fs.lookup f = some v ∧ Q v H1) (mono : ∀ (R R' : VK), (∀ x H, R x H → R' x H) → ta σ H R → ta σ H R') : tFld K ta f σ H Q :=
  mono _ _ (fun x H1 ⟨p, dx, fs, v, e, hp, hl, q⟩ => ⟨p, _, dx, fs, v, e, hp, k.c, k.n f hm, hl, q⟩) q
theorem methV (hv : σ[i]? = some (some (.ref p))) (hp : H p = some (.ins C dx fs)) (hl : fs.lookup m = none) (q : t σ H fun vs H2 => sp (.ref p :: (vs ++ dvs)) H2 Q E) : tMeth C m sp dvs E (tVar i) t σ H Q := ⟨.ref p, hv, p, dx, fs, rfl, hp, hl, q⟩
end
end WP

namespace WP
open PySem PySem.Spec PyProof.Rows L2
theorem at_M {α : Type} {l : List α} (f : α → V) {i : Int} (h0 : 0 ≤ i) (h1 : i < (l.length : Int)) : ∃ c, c ∈ l ∧ atI (l.map f) i = some (f c) := by
  have hl : i.toNat < l.length := by omega
  refine ⟨l[i.toNat], List.getElem_mem hl, ?_⟩
  have := atI_nat (xs := l.map f) (j := i.toNat) (by rw [List.getElem?_map, List.getElem?_eq_getElem hl]; rfl)
  rw [Int.toNat_of_nonneg h0] at this
  exact this
theorem flat_one {α : Type} (x : α) : ∀ k : Nat, (List.replicate k [x]).flatten = List.replicate k x
  | 0 => rfl
  | k + 1 => by rw [List.replicate_succ, List.flatten_cons, flat_one x k, List.replicate_succ]; rfl
theorem rep1 {H : Hp} {Q : VK} {p : Addr} {x : V} {k : Int} (h : H p = some (.lst [x])) (k0 : 0 ≤ k) (k1 : k ≤ 1000) (q : ∀ a, H a = none → Q (.ref a) (upd H a (.lst (List.replicate k.toNat x)))) : rRep (.ref p) (.int k) H Q :=
  ⟨p, k, [x], rfl, rfl, h, by omega, by omega, by rw [sizeLine_eq]; simp; omega, fun a ha => by rw [flat_one]; exact q a ha⟩
theorem catLL {H : Hp} {Q : VK} {p b : Addr} {xs ys : List V} (h : H p = some (.lst xs)) (h2 : H b = some (.lst ys)) (hz : xs.length + ys.length ≤ 1000000) (q : ∀ a, H a = none → Q (.ref a) (upd H a (.lst (xs ++ ys)))) : rCat (.ref p) (.ref b) H Q :=
  ⟨p, b, xs, ys, rfl, rfl, h, h2, by rw [sizeLine_eq]; omega, q⟩
/-- all but what stands at d stays, tables stay tables -/
structure Sn (d : Addr) (H H' : Hp) : Prop where
  k : ∀ b u, b ≠ d → H b = some u → NT u → H' b = some u
  t : ∀ P, GxR.TabG H P → GxR.TabG H' P
theorem Sn.refl {d : Addr} {H : Hp} : Sn d H H := ⟨fun _ _ _ e _ => e, fun _ h => h⟩
theorem Sn.trans {d : Addr} {H H' H2 : Hp} (a : Sn d H H') (b : Sn d H' H2) : Sn d H H2 := ⟨fun x u m e n => b.k x u m (a.k x u m e n) n, fun P h => b.t P (a.t P h)⟩
theorem Sn.of {d : Addr} {H H' : Hp} (e : Sm H H') : Sn d H H' := ⟨fun b u _ h n => e.k b u h n, e.t⟩
theorem Sn.sx {d : Addr} {H H' : Hp} {ys : List V} (e : Sx d H H') (hd : H d = some (.lst ys)) : Sn d H H' := ⟨fun b u m h _ => e b u m h, fun P ⟨ps, h, t⟩ => ⟨ps, e P _ (fun z => by rw [z, hd] at h; cases h) h, t⟩⟩
theorem Sn.tup {K : PySem.W.Frag} {d : Addr} {H H' : Hp} {p : Addr} {xs ys : List V} (e : Sn d H H') (hd : H d = some (.lst ys)) (h : SqT K H p xs) : SqT K H' p xs := by
  rcases h with (h | ⟨o, h⟩) | h
  · exact .inl (.inl (e.k _ _ (fun z => by rw [z, hd] at h; cases h) h nt_tup))
  · exact .inl (.inr ⟨o, e.k _ _ (fun z => by rw [z, hd] at h; cases h) h nt_frz⟩)
  · exact .inr h
end WP
namespace WP
open PySem PySem.Spec PyProof.Rows L2
theorem bt8 {m : Int} (h : m.natAbs ≤ 10 ^ 18) : Bt m 8000 := Nat.lt_of_le_of_lt h (Nat.lt_of_lt_of_le (show 10 ^ 18 < 2 ^ 60 by decide) (Nat.pow_le_pow_right (by decide) (by decide)))
end WP
namespace WP
open PySem PySem.Spec PyProof.Rows L2
theorem par {i j : Nat} {ta : TA} {D : Ends} {σ : L2.St} {H : Hp} (h : ta σ H fun vs H1 => ∃ v w, vs = [v, w] ∧ D.nx ((σ.set i (some v)).set j (some w)) H1) : tPar i j ta D σ H := h
end WP
namespace WP
open PySem PySem.Spec PyProof.Rows L2
theorem ifSv {c : Prop} [Decidable c] {a b : List Nat} {i : Nat} {σ : L2.St} {H : Hp} {Q : VK} (hv : σ[i]? = some (some (.str (SX.S b)))) (q : Q (.str (SX.S (if c then a else b))) H) : if decide c = true then tC (.str (SX.S a)) σ H Q else tVar i σ H Q := by
  by_cases h : c
  · rw [if_pos (decide_eq_true h)]; rw [if_pos h] at q; exact WP.con q
  · rw [if_neg (by rw [decide_eq_false h]; exact Bool.false_ne_true)]; rw [if_neg h] at q; exact WP.var hv q
end WP
namespace WP
open PySem PySem.Spec PyProof.Rows L2
theorem notBl {a b : Bool} {H : Hp} {Q : VK} (q : Q (.bl (!decide (a = b))) H) : rNotB (.bl a) (.bl b) H Q := ⟨a, b, rfl, rfl, q⟩
end WP

namespace MG
/-! ### graphs -/
abbrev Gr := List (List Nat)
/-- the edges of v -/
def ed (g : Gr) (v : Nat) : List Nat := g.getD v []
/-- every edge leads to a vertex -/
def Ok (g : Gr) : Prop := ∀ v w, w ∈ ed g v → w < g.length
inductive R (g : Gr) : Nat → Nat → Prop
  | refl (v) : R g v v
  | step {u v w} : v ∈ ed g u → R g v w → R g u w
theorem R.one {g : Gr} {u v : Nat} (h : v ∈ ed g u) : R g u v := .step h (.refl v)
theorem R.trans {g : Gr} {u v w : Nat} (h : R g u v) (k : R g v w) : R g u w := by
  induction h with
  | refl => exact k
  | step e _ ih => exact .step e (ih k)
theorem R.snoc {g : Gr} {u v w : Nat} (h : R g u v) (k : w ∈ ed g v) : R g u w := h.trans (.one k)
/-- a way from u to v, along one edge or more, whose vertices but the last are in F -/
inductive Via (g : Gr) (F : List Nat) : Nat → Nat → Prop
  | one {u v} : u ∈ F → v ∈ ed g u → Via g F u v
  | step {u v w} : u ∈ F → v ∈ ed g u → Via g F v w → Via g F u w
theorem Via.r {g : Gr} {F : List Nat} {u v : Nat} (h : Via g F u v) : R g u v := by
  induction h with
  | one _ e => exact .one e
  | step _ e _ ih => exact .step e ih
theorem Via.last {g : Gr} {F : List Nat} {u v : Nat} (h : Via g F u v) : ∃ x, x ∈ F ∧ v ∈ ed g x := by
  induction h with
  | one m e => exact ⟨_, m, e⟩
  | step _ _ _ ih => exact ih
theorem Via.split {g : Gr} {F : List Nat} {x u v : Nat} (h : Via g (F ++ [x]) u v) : Via g F u v ∨ u = x ∨ Via g F u x := by
  induction h with
  | one m e =>
    rcases List.mem_append.mp m with m | m
    · exact .inl (.one m e)
    · exact .inr (.inl (List.mem_singleton.mp m))
  | @step a b c m e _ ih =>
    rcases List.mem_append.mp m with m1 | m1
    · rcases ih with h | h | h
      · exact .inl (.step m1 e h)
      · rw [h] at e; exact .inr (.inr (.one m1 e))
      · exact .inr (.inr (.step m1 e h))
    · exact .inr (.inl (List.mem_singleton.mp m1))
theorem Via.mono {g : Gr} {F F' : List Nat} {u v : Nat} (k : ∀ x ∈ F, x ∈ F') (h : Via g F u v) : Via g F' u v := by
  induction h with
  | one m e => exact .one (k _ m) e
  | step m e _ ih => exact .step (k _ m) e ih
/-- a finishing order -/
structure Fo (g : Gr) (o : List Nat) : Prop where
  nd : o.Nodup
  all : ∀ v, v ∈ o ↔ v < g.length
  d : ∀ i s, o[i]? = some s → ∀ u, Via g (o.take i) u s → R g s u
/-- the state of the search: finished, on the way (the last one first), how many edges were followed -/
structure Dfs (g : Gr) (o p : List Nat) (seen : List Bool) (fl : List Nat) : Prop where
  sl : seen.length = g.length
  fll : fl.length = g.length
  nd : (o ++ p).Nodup
  lt : ∀ v ∈ o ++ p, v < g.length
  sn : ∀ v, seen.getD v false = true ↔ v ∈ o ++ p
  fle : ∀ v, fl.getD v 0 ≤ (ed g v).length
  fs : ∀ v, ∀ w ∈ (ed g v).take (fl.getD v 0), w ∈ o ++ p
  fo : ∀ v ∈ o, fl.getD v 0 = (ed g v).length
  ch : ∀ i a b : Nat, p[i + 1]? = some a → p[i]? = some b → R g a b
  j3 : ∀ i s, o[i]? = some s → ∀ u, Via g (o.take i) u s → R g s u
  j4 : ∀ x ∈ p, ∀ u, Via g o u x → R g x u
theorem ed_lt {g : Gr} {v w : Nat} (h : w ∈ ed g v) : v < g.length := by
  unfold ed at h
  rw [List.getD_eq_getElem?_getD] at h
  rcases Nat.lt_or_ge v g.length with k | k
  · exact k
  · rw [List.getElem?_eq_none k] at h; cases h
theorem getD_set {α : Type} (l : List α) (i j : Nat) (a d : α) (h : i < l.length) : (l.set i a).getD j d = if i = j then a else l.getD j d := by
  rw [List.getD_eq_getElem?_getD, List.getElem?_set, List.getD_eq_getElem?_getD]
  by_cases e : i = j
  · subst e; rw [if_pos rfl, if_pos rfl, if_pos h]; rfl
  · rw [if_neg e, if_neg e]
theorem rep_getD {α : Type} (n i : Nat) (a : α) : (List.replicate n a).getD i a = a := by
  rw [List.getD_eq_getElem?_getD, List.getElem?_replicate]
  split <;> rfl
theorem Dfs.init (g : Gr) : Dfs g [] [] (List.replicate g.length false) (List.replicate g.length 0) where
  sl := List.length_replicate
  fll := List.length_replicate
  nd := List.nodup_nil
  lt := fun v h => by cases h
  sn := fun v => by rw [rep_getD]; exact ⟨fun z => (by cases z), fun z => (by cases z)⟩
  fle := fun v => by rw [rep_getD]; exact Nat.zero_le _
  fs := fun v w h => by rw [rep_getD] at h; cases h
  fo := fun v h => by cases h
  ch := fun i a b h => by simp at h
  j3 := fun i s h => by simp at h
  j4 := fun x h => by cases h
/-- a vertex is met for the first time -/
theorem Dfs.push {g : Gr} {o p : List Nat} {seen : List Bool} {fl : List Nat} (D : Dfs g o p seen fl) {v : Nat} (hv : v < g.length) (hs : seen.getD v false = false) (hp : ∀ b, p[0]? = some b → R g b v) :
    Dfs g o (v :: p) (seen.set v true) fl where
  sl := by rw [List.length_set]; exact D.sl
  fll := D.fll
  nd := by
    have nv : v ∉ o ++ p := fun z => by rw [(D.sn v).mpr z] at hs; cases hs
    have := D.nd
    rw [List.nodup_append] at this ⊢
    obtain ⟨n1, n2, n3⟩ := this
    rw [List.mem_append] at nv
    refine ⟨n1, List.nodup_cons.mpr ⟨fun z => nv (.inr z), n2⟩, fun a ha b hb => ?_⟩
    rcases List.mem_cons.mp hb with e | e
    · subst e; exact fun z => nv (.inl (z ▸ ha))
    · exact n3 a ha b e
  lt := fun x hx => by
    rcases List.mem_append.mp hx with e | e
    · exact D.lt x (List.mem_append.mpr (.inl e))
    · rcases List.mem_cons.mp e with e | e
      · subst e; exact hv
      · exact D.lt x (List.mem_append.mpr (.inr e))
  sn := fun x => by
    rw [getD_set _ _ _ _ _ (by rw [D.sl]; exact hv)]
    by_cases e : v = x
    · subst e; simp
    · rw [if_neg e, D.sn x, List.mem_append, List.mem_append, List.mem_cons]
      exact ⟨fun h => h.imp id .inr, fun h => h.imp id fun h => h.resolve_left fun z => e z.symm⟩
  fle := D.fle
  fs := fun x w h => by
    rcases List.mem_append.mp (D.fs x w h) with e | e
    · exact List.mem_append.mpr (.inl e)
    · exact List.mem_append.mpr (.inr (.tail _ e))
  fo := D.fo
  ch := fun i a b h1 h2 => by
    cases i with
    | zero =>
      have h2 : v = b := Option.some.inj h2
      subst h2
      exact hp a (by simpa using h1)
    | succ i => exact D.ch i a b (by simpa using h1) (by simpa using h2)
  j3 := D.j3
  j4 := fun x hx u hu => by
    rcases List.mem_cons.mp hx with e | e
    · subst e
      obtain ⟨y, hy, he⟩ := hu.last
      have : x ∈ o ++ p := D.fs y x (by rw [D.fo y hy, List.take_length]; exact he)
      rw [(D.sn x).mpr this] at hs
      cases hs
    · exact D.j4 x e u hu
/-- one more edge is followed -/
theorem Dfs.follow {g : Gr} {o p : List Nat} {seen : List Bool} {fl : List Nat} {v w : Nat} (D : Dfs g o p seen fl) (hv : v ∈ p) (hw : (ed g v)[fl.getD v 0]? = some w) (hs : w ∈ o ++ p) :
    Dfs g o p seen (fl.set v (fl.getD v 0 + 1)) where
  sl := D.sl
  fll := by rw [List.length_set]; exact D.fll
  nd := D.nd
  lt := D.lt
  sn := D.sn
  fle := fun x => by
    have hv' := D.lt v (List.mem_append.mpr (.inr hv))
    rw [getD_set _ _ _ _ _ (by rw [D.fll]; exact hv')]
    split
    · rename_i e; subst e; exact (List.getElem?_eq_some_iff.mp hw).1
    · exact D.fle x
  fs := fun x y h => by
    have hv' := D.lt v (List.mem_append.mpr (.inr hv))
    rw [getD_set _ _ _ _ _ (by rw [D.fll]; exact hv')] at h
    by_cases e : v = x
    · subst e
      rw [if_pos rfl, List.take_succ, hw] at h
      rcases List.mem_append.mp h with h | h
      · exact D.fs v y h
      · have : y = w := by simpa using h
        subst this; exact hs
    · rw [if_neg e] at h; exact D.fs x y h
  fo := fun x hx => by
    have hv' := D.lt v (List.mem_append.mpr (.inr hv))
    rw [getD_set _ _ _ _ _ (by rw [D.fll]; exact hv')]
    have ne : v ≠ x := fun z => by
      subst z
      exact (List.nodup_append.mp D.nd).2.2 v hx v hv rfl
    rw [if_neg ne]; exact D.fo x hx
  ch := D.ch
  j3 := D.j3
  j4 := D.j4
theorem Dfs.chain {g : Gr} {o p : List Nat} {seen : List Bool} {fl : List Nat} (D : Dfs g o p seen fl) : ∀ i a b : Nat, p[i]? = some a → p[0]? = some b → R g a b
  | 0, a, b, h1, h2 => by rw [h1] at h2; cases h2; exact .refl _
  | i + 1, a, b, h1, h2 => by
    obtain ⟨c, hc⟩ : ∃ c, p[i]? = some c := by
      have := (List.getElem?_eq_some_iff.mp h1).1
      exact ⟨p[i], List.getElem?_eq_getElem (by omega)⟩
    exact (D.ch i a c h1 hc).trans (D.chain i c b hc h2)
/-- the last vertex of the way is finished -/
theorem Dfs.finish {g : Gr} {o p : List Nat} {seen : List Bool} {fl : List Nat} {v : Nat} (D : Dfs g o (v :: p) seen fl) (hf : fl.getD v 0 = (ed g v).length) : Dfs g (o ++ [v]) p seen fl where
  sl := D.sl
  fll := D.fll
  nd := by rw [List.append_assoc]; exact D.nd
  lt := fun x h => D.lt x (by rw [List.append_assoc] at h; exact h)
  sn := fun x => by rw [List.append_assoc]; exact D.sn x
  fle := D.fle
  fs := fun x w h => by rw [List.append_assoc]; exact D.fs x w h
  fo := fun x h => by
    rcases List.mem_append.mp h with e | e
    · exact D.fo x e
    · rw [List.mem_singleton.mp e]; exact hf
  ch := fun i a b h1 h2 => D.ch (i + 1) a b (by simpa using h1) (by simpa using h2)
  j3 := fun i s h u k => by
    rcases Nat.lt_or_ge i o.length with hi | hi
    · rw [List.getElem?_append_left hi] at h
      rw [List.take_append_of_le_length (by omega)] at k
      exact D.j3 i s h u k
    · rw [List.getElem?_append_right hi] at h
      have hi0 : i - o.length = 0 := by
        have := (List.getElem?_eq_some_iff.mp h).1
        simp at this
        omega
      rw [hi0] at h
      have e : v = s := Option.some.inj h
      subst e
      have hi' : i = o.length := by omega
      subst hi'
      rw [List.take_left'  rfl] at k
      exact D.j4 v List.mem_cons_self u k
  j4 := fun x hx u hu => by
    have hxv : R g x v := by
      obtain ⟨i, hi, he⟩ := List.getElem_of_mem hx
      exact D.chain (i + 1) x v (by rw [List.getElem?_cons_succ, List.getElem?_eq_getElem hi, he]) rfl
    rcases hu.split with h | h | h
    · exact D.j4 x (.tail _ hx) u h
    · subst h; exact hxv
    · exact hxv.trans (D.j4 v List.mem_cons_self u h)
theorem Dfs.fo' {g : Gr} {o : List Nat} {seen : List Bool} {fl : List Nat} (D : Dfs g o [] seen fl) (h : ∀ v < g.length, seen.getD v false = true) : Fo g o where
  nd := by have := D.nd; rw [List.append_nil] at this; exact this
  all := fun v => by
    have := D.sn v
    rw [List.append_nil] at this
    exact ⟨fun z => D.lt v (by rw [List.append_nil]; exact z), fun z => this.mp (h v z)⟩
  d := D.j3
/-- no way back -/
def Acyc (g : Gr) : Prop := ∀ v w, w ∈ ed g v → ¬ R g w v
theorem Fo.before {g : Gr} {o : List Nat} (F : Fo g o) (ok : Ok g) (ac : Acyc g) {i v w : Nat} (h : o[i]? = some v) (hw : w ∈ ed g v) : w ∈ o.take i := by
  have hwl := ok v w hw
  obtain ⟨j, hj, he⟩ := List.getElem_of_mem ((F.all w).mpr hwl)
  have hj' : o[j]? = some w := by rw [List.getElem?_eq_getElem hj, he]
  rcases Nat.lt_or_ge j i with k | k
  · exact List.mem_of_getElem? (i := j) (by rw [List.getElem?_take, if_pos k]; exact hj')
  · rcases Nat.lt_or_eq_of_le k with k | k
    · have hv : v ∈ o.take j := List.mem_of_getElem? (i := i) (by rw [List.getElem?_take, if_pos k]; exact h)
      exact absurd (F.d j w hj' v (.one hv hw)) (ac v w hw)
    · subst k
      rw [h] at hj'
      cases hj'
      exact absurd (.refl v) (ac v v hw)
theorem nodup_sub : ∀ {l m : List Nat}, l.Nodup → (∀ x ∈ l, x ∈ m) → l.length ≤ m.length
  | [], m, _, _ => Nat.zero_le _
  | a :: l, m, h, k => by
    have hn := List.nodup_cons.mp h
    have ha := k a List.mem_cons_self
    have := nodup_sub (l := l) (m := m.erase a) hn.2 fun x hx => (List.mem_erase_of_ne (fun z : x = a => hn.1 (by rw [← z]; exact hx))).mpr (k x (.tail _ hx))
    rw [List.length_erase_of_mem ha] at this
    have := List.length_pos_of_mem ha
    rw [List.length_cons]
    omega
theorem nodup_len : ∀ {n : Nat} {l : List Nat}, l.Nodup → (∀ v ∈ l, v < n) → l.length ≤ n
  | 0, l, h, k => by
    cases l with
    | nil => exact Nat.le_refl _
    | cons a r => exact absurd (k a List.mem_cons_self) (Nat.not_lt_zero _)
  | n + 1, l, h, k => by
    by_cases m : n ∈ l
    · have := nodup_len (n := n) (h.erase n) fun v hv => by
        have := (List.Nodup.mem_erase_iff h).mp hv
        have := k v this.2
        omega
      rw [List.length_erase_of_mem m] at this
      omega
    · have := nodup_len (n := n) h fun v hv => by
        have := k v hv
        have : v ≠ n := fun z => m (z ▸ hv)
        omega
      omega
/-- m is the greatest of ns, or 0 if there is none -/
def IsMx (ns : List Int) (m : Int) : Prop := (ns = [] ∧ m = 0) ∨ (m ∈ ns ∧ ∀ y ∈ ns, y ≤ m)
/-- ranks of the vertices in S -/
def Rk (g : Gr) (S : List Nat) (f : Nat → Int) : Prop := ∀ v ∈ S, 0 ≤ f v ∧ (∀ w ∈ ed g v, w ∈ S) ∧ IsMx ((ed g v).map fun w => f w + 1) (f v)
theorem Rk.nil {g : Gr} {f : Nat → Int} : Rk g [] f := fun v h => by cases h
theorem Rk.snoc {g : Gr} {S : List Nat} {f : Nat → Int} {v : Nat} {m : Int} (k : Rk g S f) (nv : v ∉ S) (hs : ∀ w ∈ ed g v, w ∈ S) (hm : IsMx ((ed g v).map fun w => f w + 1) m) :
    Rk g (S ++ [v]) (fun x => if x = v then m else f x) := by
  have e : ∀ w ∈ S, (if w = v then m else f w) = f w := fun w hw => if_neg fun z : w = v => nv (by rw [← z]; exact hw)
  intro x hx
  rcases List.mem_append.mp hx with h | h
  · obtain ⟨k0, k1, k2⟩ := k x h
    dsimp only
    rw [e x h]
    refine ⟨k0, fun w hw => List.mem_append.mpr (.inl (k1 w hw)), ?_⟩
    rw [show ((ed g x).map fun w => (if w = v then m else f w) + 1) = (ed g x).map fun w => f w + 1 from List.map_congr_left fun w hw => by rw [e w (k1 w hw)]]
    exact k2
  · have h := List.mem_singleton.mp h
    subst h
    dsimp only
    rw [if_pos rfl]
    refine ⟨?_, fun w hw => List.mem_append.mpr (.inl (hs w hw)), ?_⟩
    · rcases hm with ⟨_, h⟩ | ⟨h, _⟩
      · omega
      · obtain ⟨w, hw, h⟩ := List.mem_map.mp h
        have := (k w (hs w hw)).1
        omega
    · rw [show ((ed g x).map fun w => (if w = x then m else f w) + 1) = (ed g x).map fun w => f w + 1 from List.map_congr_left fun w hw => by rw [e w (hs w hw)]]
      exact hm
theorem Rk.lt {g : Gr} {S : List Nat} {f : Nat → Int} (k : Rk g S f) {v w : Nat} (hv : v ∈ S) (hw : w ∈ ed g v) : f w < f v := by
  obtain ⟨_, _, h⟩ := k v hv
  rcases h with ⟨h, _⟩ | ⟨_, h⟩
  · have : f w + 1 ∈ (ed g v).map fun w => f w + 1 := List.mem_map.mpr ⟨w, hw, rfl⟩
    rw [h] at this; cases this
  · have := h (f w + 1) (List.mem_map.mpr ⟨w, hw, rfl⟩)
    omega
/-- the law's own greatest number -/
theorem Rk.law {g : Gr} {S : List Nat} {f : Nat → Int} (k : Rk g S f) {v : Nat} (hv : v ∈ S) {m : Int} (h1 : m ∈ 0 :: (ed g v).map fun w => 1 + f w) (h2 : ∀ y ∈ 0 :: (ed g v).map fun w => 1 + f w, y ≤ m) : f v = m := by
  obtain ⟨k0, k1, h⟩ := k v hv
  rw [show ((ed g v).map fun w => f w + 1) = (ed g v).map fun w => 1 + f w from List.map_congr_left fun w _ => Int.add_comm _ _] at h
  rcases h with ⟨h, e⟩ | ⟨h, e⟩
  · rw [h] at h1
    have := List.mem_singleton.mp h1
    omega
  · have a := h2 _ (.tail _ h)
    rcases List.mem_cons.mp h1 with z | z
    · omega
    · have := e m z
      omega
/-- what goes away: each vertex behind those that its edges lead to -/
structure Topo (g : Gr) (o : List Nat) : Prop where
  nd : o.Nodup
  lt : ∀ v ∈ o, v < g.length
  b : ∀ i v, o[i]? = some v → ∀ w ∈ ed g v, w ∈ o.take i
theorem Topo.nil {g : Gr} : Topo g [] := ⟨List.nodup_nil, fun v h => (by cases h), fun i v h => (by simp at h)⟩
theorem Topo.snoc {g : Gr} {o : List Nat} {v : Nat} (T : Topo g o) (hv : v < g.length) (nv : v ∉ o) (h : ∀ w ∈ ed g v, w ∈ o) : Topo g (o ++ [v]) := by
  refine ⟨?_, fun x hx => ?_, fun i x hx w hw => ?_⟩
  · rw [List.nodup_append]
    exact ⟨T.nd, by simp, fun a ha b hb => by rw [List.mem_singleton.mp hb]; exact fun z => nv (z ▸ ha)⟩
  · rcases List.mem_append.mp hx with e | e
    · exact T.lt x e
    · rw [List.mem_singleton.mp e]; exact hv
  · rcases Nat.lt_or_ge i o.length with hi | hi
    · rw [List.getElem?_append_left hi] at hx
      rw [List.take_append_of_le_length (by omega)]
      exact T.b i x hx w hw
    · rw [List.getElem?_append_right hi] at hx
      have hi0 : i - o.length = 0 := by
        have := (List.getElem?_eq_some_iff.mp hx).1
        simp at this
        omega
      rw [hi0] at hx
      have e : v = x := Option.some.inj hx
      subst e
      rw [show i = o.length by omega, List.take_left' rfl]
      exact h w hw
theorem Topo.len {g : Gr} {o : List Nat} (T : Topo g o) : o.length ≤ g.length := nodup_len T.nd T.lt
theorem nodup_all : ∀ {n : Nat} {l : List Nat}, l.Nodup → (∀ v ∈ l, v < n) → n ≤ l.length → ∀ v < n, v ∈ l := by
  intro n l h k le v hv
  by_cases m : v ∈ l
  · exact m
  · have : (v :: l).length ≤ n := nodup_len (List.nodup_cons.mpr ⟨m, h⟩) fun x hx => by
      rcases List.mem_cons.mp hx with e | e
      · rw [e]; exact hv
      · exact k x e
    rw [List.length_cons] at this
    omega
theorem Topo.acyc {g : Gr} {o : List Nat} (T : Topo g o) (h : g.length ≤ o.length) : Acyc g := by
  have all := nodup_all T.nd T.lt h
  have pos : ∀ u v : Nat, R g u v → ∀ i : Nat, o[i]? = some u → ∃ j : Nat, j ≤ i ∧ o[j]? = some v := by
    intro u v r
    induction r with
    | refl => exact fun i h => ⟨i, Nat.le_refl _, h⟩
    | step e _ ih =>
      intro i hi
      obtain ⟨j, hj, hje⟩ := List.getElem_of_mem (T.b i _ hi _ e)
      rw [List.length_take] at hj
      obtain ⟨q, h1, h2⟩ := ih j (by rw [List.getElem_take] at hje; rw [List.getElem?_eq_getElem (by omega), hje])
      exact ⟨q, by omega, h2⟩
  intro v w hw r
  obtain ⟨i, hi, he⟩ := List.getElem_of_mem (all v (ed_lt hw))
  have hie : o[i]? = some v := by rw [List.getElem?_eq_getElem hi, he]
  obtain ⟨j, hj, hje⟩ := List.getElem_of_mem (T.b i v hie w hw)
  rw [List.length_take] at hj
  rw [List.getElem_take] at hje
  obtain ⟨q, h1, h2⟩ := pos w v r j (by rw [List.getElem?_eq_getElem (by omega), hje])
  obtain ⟨hq, hqe⟩ := List.getElem?_eq_some_iff.mp h2
  have := (List.getElem_inj (h₀ := hi) (h₁ := hq) T.nd).mp (he.trans hqe.symm)
  omega
theorem mn : ∀ (n : Nat) (P : Nat → Prop) (f : Nat → Int), (∃ v, v < n ∧ P v) → ∃ v, v < n ∧ P v ∧ ∀ w, w < n → P w → f v ≤ f w
  | 0, P, f, ⟨v, h, _⟩ => absurd h (Nat.not_lt_zero _)
  | n + 1, P, f, h => by
    by_cases e : ∃ v, v < n ∧ P v
    · obtain ⟨v, h1, h2, h3⟩ := mn n P f e
      by_cases q : P n ∧ f n < f v
      · refine ⟨n, Nat.lt_succ_self _, q.1, fun w hw hp => ?_⟩
        rcases Nat.lt_succ_iff_lt_or_eq.mp hw with z | z
        · have := h3 w z hp; omega
        · rw [z]; exact Int.le_refl _
      · refine ⟨v, by omega, h2, fun w hw hp => ?_⟩
        rcases Nat.lt_succ_iff_lt_or_eq.mp hw with z | z
        · exact h3 w z hp
        · subst z
          by_cases z : f w < f v
          · exact absurd ⟨hp, z⟩ q
          · omega
    · obtain ⟨v, h1, h2⟩ := h
      have hv : v = n := by
        rcases Nat.lt_succ_iff_lt_or_eq.mp h1 with z | z
        · exact absurd ⟨v, z, h2⟩ e
        · exact z
      subst hv
      refine ⟨v, h1, h2, fun w hw hp => ?_⟩
      rcases Nat.lt_succ_iff_lt_or_eq.mp hw with z | z
      · exact absurd ⟨w, z, hp⟩ e
      · rw [z]; exact Int.le_refl _
/-- where nothing more goes away, all is gone if there are ranks -/
theorem Topo.done {g : Gr} {o : List Nat} (T : Topo g o) {f : Nat → Int} (k : Rk g (List.range g.length) f) (h : ∀ v < g.length, v ∉ o → ∃ w ∈ ed g v, w ∉ o) : g.length ≤ o.length := by
  by_cases e : ∃ v, v < g.length ∧ v ∉ o
  · obtain ⟨v, h1, h2, h3⟩ := mn g.length (· ∉ o) f e
    obtain ⟨w, hw, hwo⟩ := h v h1 h2
    have hwl := List.mem_range.mp ((k v (List.mem_range.mpr h1)).2.1 w hw)
    have := h3 w hwl hwo
    have := k.lt (List.mem_range.mpr h1) hw
    omega
  · have : (List.range g.length).length ≤ o.length := by
      have sub : ∀ x ∈ List.range g.length, x ∈ o := fun x hx => by
        by_cases m : x ∈ o
        · exact m
        · exact absurd ⟨x, List.mem_range.mp hx, m⟩ e
      exact nodup_sub List.nodup_range sub
    rw [List.length_range] at this
    exact this
def tot (g : Gr) : Nat := (g.map List.length).sum
theorem sum_le : ∀ (g : Gr) (fl : List Nat), fl.length = g.length → (∀ v, fl.getD v 0 ≤ (ed g v).length) → fl.sum ≤ tot g
  | [], [], _, _ => Nat.le_refl _
  | r :: g, a :: fl, h, k => by
    have h0 := k 0
    have ih := sum_le g fl (by simpa using h) fun v => by have := k (v + 1); simpa [ed] using this
    have h0 : a ≤ r.length := by simpa [ed] using h0
    unfold tot at *
    rw [List.sum_cons, List.map_cons, List.sum_cons]
    omega
theorem sum_set : ∀ (fl : List Nat) (v : Nat), v < fl.length → (fl.set v (fl.getD v 0 + 1)).sum = fl.sum + 1
  | [], v, h => absurd h (Nat.not_lt_zero _)
  | a :: fl, 0, _ => by show (a + 1) + fl.sum = a + fl.sum + 1; omega
  | a :: fl, v + 1, h => by
    have ih := sum_set fl v (by simpa using h)
    show a + (fl.set v (fl.getD v 0 + 1)).sum = a + fl.sum + 1
    omega
theorem Dfs.sumle {g : Gr} {o p : List Nat} {seen : List Bool} {fl : List Nat} (D : Dfs g o p seen fl) : fl.sum ≤ tot g := sum_le g fl D.fll D.fle
theorem Dfs.len {g : Gr} {o p : List Nat} {seen : List Bool} {fl : List Nat} (D : Dfs g o p seen fl) : o.length + p.length ≤ g.length := by
  rw [← List.length_append]; exact nodup_len D.nd D.lt
theorem set_self {l : List Bool} {i : Nat} (h : l.getD i false = true) : l.set i true = l := by
  refine List.ext_getElem? fun j => ?_
  rw [List.getElem?_set]
  by_cases e : i = j
  · subst e
    rw [if_pos rfl]
    rw [List.getD_eq_getElem?_getD] at h
    cases q : l[i]? with
    | none => rw [q] at h; cases h
    | some b =>
      rw [q] at h
      have hb : b = true := h
      rw [if_pos (List.getElem?_eq_some_iff.mp q).1, hb]
  · rw [if_neg e]
theorem getD_some {l : List Nat} {i : Nat} (h : i < l.length) : l[i]? = some (l.getD i 0) := by rw [List.getD_eq_getElem?_getD, List.getElem?_eq_getElem h]; rfl
end MG

namespace WP
open PySem PySem.Spec PyProof.Rows L2
/-! ### list.extend with a list or a tuple -/
def rExtA (K : PySem.W.Frag) : V → List V → Hp → VK → Prop := fun x vs H Q => ∃ l b xs zs, x = .ref l ∧ vs = [.ref b] ∧ H l = some (.lst xs) ∧ (H b = some (.lst zs) ∨ SqT K H b zs) ∧ xs.length + zs.length ≤ 1000000 ∧ Q .non (upd H l (.lst (xs ++ zs)))
end WP
namespace PySem
open Sem (wp)
open AutoSeq1
theorem wp_list_extend_tup (l : Addr) (items : Array Value) (n : Nat) (b : Addr) (items2 : Array Value) (n2 : Nat) (od : Option Addr) (osl : Array (Option Value)) (hs0 : ¬(!items.isEmpty && Builtin.List.listTooLong (items.size + items2.size)) = true) (hs1 : items.size ≤ sizeLine) (hs2 : items.size + items2.size ≤ sizeLine + 1 := by seq_fits) :
    Meets (Builtin.«list.extend» ⟨[.ref l, .ref b], []⟩) (fun _ R s => s.heap.get? l = some { cls := .type "list", dict := none, data := .seq items n, slots := #[] } ∧ s.heap.get? b = some { cls := .type "tuple", dict := od, data := .seq items2 n2, slots := osl } ∧ R (.ok (.ret Value.none)) { s with heap := s.heap.update l (Obj.mapSeq fun x => x ++ items2), toks := s.toks }) :=
  .of_wp fun prog w A R s h => by
    obtain ⟨hp, g, d, tk, os⟩ := s; obtain ⟨hl, hb, h⟩ := h; have f2 := sub_tuple_tuple; have f3 := sub_list_list; have f4 := sub_tuple_list; have f5 := sub_list_tuple;
    have hz' : (items ++ items2).size ≤ sizeLine + 1 := by rw [Array.size_append]; exact hs2
    wp_walk using (wpAny_updateSeq hl rfl (hz := hs1) (_hz' := hz')), wpAny_loadPart' hl, wpAny_loadPart' hb; exact ⟨_, rfl, h⟩
end PySem
namespace WP
open PySem PySem.Spec PyProof.Rows L2
theorem mt_extendT {X : Cx} : MtM X "list.extend" (fun x vs H Q => ∃ l b xs zs, x = .ref l ∧ vs = [.ref b] ∧ H l = some (.lst xs) ∧ SqT X.K H b zs ∧ xs.length + zs.length ≤ 1000000 ∧ Q .non (upd H l (.lst (xs ++ zs)))) := by
  intro pins s σ H x vs v us Q I rx rv h
  obtain ⟨l, b, xs, zs, rfl, rfl, hH, hB, hz, q⟩ := h
  cases rx
  obtain ⟨u, rfl, ru⟩ := rv.one
  cases ru
  obtain ⟨z, its, n, r, hl, e⟩ := I.lstM hH
  obtain ⟨its2, r2, ht, hz2⟩ := I.tuple hB
  have hl2 := r2.length
  have hsz : its.toArray.size + its2.toArray.size ≤ sizeLine := by rw [List.size_toArray, List.size_toArray, sizeLine_eq]; omega
  have hlong : ¬ (!its.toArray.isEmpty && Builtin.List.listTooLong (its.toArray.size + its2.toArray.size)) = true := by
    rw [notLongL hsz, Bool.and_false]
    exact Bool.false_ne_true
  obtain ⟨⟨oc, od, oda, osl⟩, ho, hc, n2, hd⟩ := ht
  dsimp only at hc hd
  subst hc hd
  refine call_meets F.slot_list_extend ⟨_, e, rfl⟩ F.entry_list_extend (F.args_list_extend_2 _ _)
    (PySem.wp_list_extend_tup l its.toArray n b its2.toArray n2 od osl hlong (by rw [List.size_toArray, sizeLine_eq]; omega) (by omega)) ⟨e, ho, ?_⟩
  refine ⟨.non, _, I.lset (its' := its ++ its2) hH e (by simp) (r.append r2) ?_, rfl, q⟩
  rw [List.length_append, sizeLine_eq]
  omega
theorem mt_extendA {X : Cx} : MtM X "list.extend" (rExtA X.K) := by
  intro pins s σ H x vs v us Q I rx rv h
  obtain ⟨l, b, xs, zs, e1, e2, hH, hB, hz, q⟩ := h
  rcases hB with hB | hB
  · exact mt_extend pins s σ H x vs v us Q I rx rv ⟨l, b, xs, zs, e1, e2, hH, hB, by rw [sizeLine_eq]; omega, q⟩
  · exact mt_extendT pins s σ H x vs v us Q I rx rv ⟨l, b, xs, zs, e1, e2, hH, hB, hz, q⟩
/-! ### sorted(d), d a dict whose keys are ints -/
def rSortD : List V → Hp → VK → Prop := fun vs H Q => ∃ (a : Addr) (kvs : List (Key × V)) (ns : List Int), vs = [.ref a] ∧ H a = some (.dK kvs) ∧ kvs.map (·.1) = ns.map Sum.inl ∧
  ∀ (ns' : List Int) (p : Addr), ns'.Perm ns → ns'.Pairwise (· ≤ ·) → H p = none → Q (.ref p) (upd H p (.lst (ns'.map V.int)))
theorem paired_back {α β : Type} {F : α → β → Prop} : ∀ {l₁ : List α} {l₂ : List β}, Paired F l₁ l₂ → ∀ {j : Nat} {b : β}, l₂[j]? = some b → ∃ a, l₁[j]? = some a ∧ F a b
  | _, _, .nil, j, b, h => by cases h
  | _, _, .cons (l₁ := l₁) (l₂ := l₂) hf t, 0, b, h => by cases h; exact ⟨_, rfl, hf⟩
  | _, _, .cons (l₁ := l₁) (l₂ := l₂) hf t, j + 1, b, h => by
    obtain ⟨a, h1, h2⟩ := paired_back t (j := j) (by simpa using h)
    exact ⟨a, by simpa using h1, h2⟩
theorem ints_at : ∀ (us : List Value) (ns : List Int), us.length = ns.length → (∀ (j : Nat) (u : Value), us[j]? = some u → ∃ (n : Int) (t : Tok), ns[j]? = some n ∧ u = .int n t) → IntsAre us ns
  | [], [], _, _ => .nil
  | [], _ :: _, h, _ => by cases h
  | _ :: _, [], h, _ => by cases h
  | u :: us, n :: ns, h, hu => by
    obtain ⟨m, t, e1, rfl⟩ := hu 0 u rfl
    cases e1
    exact .cons _ t (ints_at us ns (by simpa using h) fun j u' hj => hu (j + 1) u' hj)
theorem cr_sortD {X : Cx} (hc : X.calm = true) : CallR X (.builtin "sorted") rSortD := by
  intro pins s σ H vs us Q I r h
  obtain ⟨a, kvs, ns, rfl, ha, hk, q⟩ := h
  rw [Vals.ref1 r]
  obtain ⟨hz, ns0, vv, kv, dof⟩ := dk_of I.hok ha
  obtain ⟨ep, hat⟩ := dof.dictAt
  have hlen : vv.length = ns.length := by
    have := congrArg List.length hk
    rw [List.length_map, List.length_map] at this
    rw [← this]; exact kv.length.symm
  have hzz : vv.length ≤ sizeLine := by rw [show vv.length = kvs.length from kv.length.symm]; exact hz
  refine Calls.call_function_entry kind_sorted plain_sorted entry_sorted (args_sorted1 _) ?_
  unfold Builtin.«sorted»
  refine wpAny_bind (m := checkCount "sorted" 1 1 _) (wpAny_pure ?_)
  refine wpAny_bind (PySem.W.kdu_collect (PySem.W.kdl_dict (knd := mixKind X.prog X.w) (kvs := vv) (ep := ep) ns0) (I.ok.hd hc) hat hzz fun h' tk acc keep hacc => ?_)
  have hl : acc.toList.length = vv.length := by rw [Array.length_toList]; exact hacc.1
  have hkeys : ∀ (j : Nat) k x, vv[j]? = some (k, x) → ∃ n, ns[j]? = some n ∧ k = Sum.inl n := fun j k x hj => by
    obtain ⟨p, hp, e, _⟩ := paired_back kv hj
    have h2 : (kvs.map (·.1))[j]? = some k := by rw [List.getElem?_map, hp]; exact congrArg some e
    rw [hk, List.getElem?_map] at h2
    cases h3 : ns[j]? with
    | none => rw [h3] at h2; cases h2
    | some n => rw [h3] at h2; cases h2; exact ⟨n, rfl, rfl⟩
  have hi : IntsAre acc.toList ns := ints_at _ _ (by rw [hl, hlen]) fun j u hu => by
    obtain ⟨k, x, h1, h2⟩ := hacc.2 j u (by rw [← Array.getElem?_toList]; exact hu)
    obtain ⟨n, h3, rfl⟩ := hkeys j k x h1
    obtain ⟨t, rfl⟩ := Value.isInt_shape h2
    exact ⟨n, t, h3, rfl⟩
  have hza : acc.toList.length ≤ sizeLine := by rw [hl]; exact hzz
  refine wpAny_bind (wpAny_newList ?_ hza)
  have hoL : (h'.push (seqObj "list" acc.toList.toArray 0)).get? h'.objs.size = some (seqObj "list" acc.toList.toArray 0) := Heap.get?_push_size _ rfl
  refine wpAny_bind (wpAny_holding (wpAny_call_entry slot_list_sort ⟨_, hoL, rfl⟩ entry_list_sort (SrtO.list_sort_ord SrtO.swo_int hoL hza (fun h2 => SrtO.ints_sortable hi h2) fun out h1 h2 => ⟨_, rfl, ?_⟩) (args_list_sort _)))
  obtain ⟨k1, k2, k3⟩ := SrtO.ints_out hi h1 h2
  obtain ⟨ep2, he'⟩ := PyProof.Rows.sortedHeap_at (vs := acc.toList) (out := out.toArray) hoL
  have hlo : ((out.map SrtO.iv).map V.int).length ≤ sizeLine := by
    rw [List.length_map, k2.length_eq, ← hlen]
    exact hzz
  have hnone : s.heap.get? h'.objs.size = none := by
    cases e : s.heap.get? h'.objs.size with
    | none => rfl
    | some o => exact absurd (Heap.lt_size (keep _ _ e)) (Nat.lt_irrefl _)
  have hn := I.hok.gone hnone
  refine wpAny_pure ⟨_, rfl, ?_⟩
  exact ⟨.ref _, upd H h'.objs.size (.lst ((out.map SrtO.iv).map V.int)), I.laidN (t' := tk) (fun b o e => by
    have e2 := keep b o e
    have hlt := Heap.lt_size e2
    rw [PyProof.Rows.sortedHeap_old (Nat.ne_of_lt hlt) (by rw [size_push']; exact Nat.lt_succ_of_lt hlt)]
    exact Heap.get?_push_of_some _ e2) hnone hn ⟨hlo, out, ep2, vals_of_ints k1, he'⟩, rfl, q _ _ k2 k3 hn⟩
/-! ### a dict's comprehension over a list -/
theorem dc_list {K : PySem.W.Frag} {a : Addr} {xs : List V} {g : TG} {tt : TT} {tk tv : TE} {vs : List Nat} {σ : L2.St} {H1 : Hp} {D : Addr} {Qd : Hp → Prop} (Pv : Nat → Hp → Prop) (h0 : Pv 0 (upd H1 D (.dK []))) (hl : ∀ i H, i ≤ xs.length → Pv i H → SqL K H a xs)
    (hs : ∀ i x H, xs[i]? = some x → Pv i H → g x (wipe σ vs) H fun σ2 H2 => wipe σ2 vs = wipe σ vs ∧ tt σ2 H2 fun b H3 =>
      if b = true then tk σ2 H3 fun y H4 => tv σ2 H4 fun z H5 => ∃ kvs k, y = kV k ∧ H5 D = some (.dK kvs) ∧ kvs.length < sizeLine ∧ Pv (i + 1) (upd H5 D (.dK (putK kvs k z))) else Pv (i + 1) H3) (hd : ∀ H, Pv xs.length H → Qd H) :
    ∃ W : Nat → Nat → Hp → Prop, (∃ m, W 0 m (upd H1 D (.dK []))) ∧ ∀ i m H, W i m H →
      ((Itl K a).stop i H ∧ Qd H) ∨ ((Itl K a).go i H ∧ ∃ Nx : Hp → Prop, (∀ H', Nx H' → ∃ m', m' < m ∧ W (i + 1) m' H') ∧ ∀ x H', (Itl K a).yld i H x H' → g x (wipe σ vs) H' fun σ2 H2 => wipe σ2 vs = wipe σ vs ∧ tt σ2 H2 fun b H3 =>
        if b = true then tk σ2 H3 fun y H4 => tv σ2 H4 fun z H5 => ∃ kvs k, y = kV k ∧ H5 D = some (.dK kvs) ∧ kvs.length < sizeLine ∧ Nx (upd H5 D (.dK (putK kvs k z))) else Nx H3) := by
  refine ⟨fun i m H => m = xs.length - i ∧ i ≤ xs.length ∧ Pv i H, ⟨xs.length, by simp, Nat.zero_le _, h0⟩, ?_⟩
  rintro i m H ⟨rfl, hi, p⟩
  have q := hl i H hi p
  by_cases hlt : i < xs.length
  · refine .inr ⟨⟨xs, xs[i], q, by simp [hlt]⟩, Pv (i + 1), fun H' p' => ⟨xs.length - (i + 1), by omega, rfl, hlt, p'⟩, fun x H' y => ?_⟩
    obtain ⟨e, y⟩ := y
    subst e
    exact hs i x _ (y xs q) p
  · have e : i = xs.length := by omega
    subst e
    exact .inl ⟨⟨xs, q, Nat.le_refl _⟩, hd H p⟩
/-- the reading of a list or a tuple that is cut -/
abbrev rSlAny (K : PySem.W.Frag) : V → Option Int → Option Int → Hp → VK → Prop := fun x lo hi H Q => rSlL K x lo hi H Q ∨ L2.rSlA K x lo hi H Q
theorem sl_any {X : Cx} : SlR X (rSlAny X.K) := SlR.or sl_list sl_tupA
theorem cutA {K : PySem.W.Frag} {H : Hp} {q : Addr} {xs : List V} {Q : VK} {lo hi : Option Int} (h : SqL K H q xs ∨ SqT K H q xs) (k : ∀ (p : Addr) (H' : Hp), Same H H' → (H' p = some (.lst (cutV xs lo hi)) ∨ SqT K H' p (cutV xs lo hi)) → Q (.ref p) H') : rSlAny K (.ref q) lo hi H Q := by
  rcases h with h | h
  · exact .inl ⟨q, xs, rfl, h, fun a ha => k a _ (fun b o e => by rw [upd_ne (ne_of_none e ha)]; exact e) (.inl upd_same)⟩
  · refine .inr ⟨q, xs, rfl, h, fun w => k q H (Same.refl H) (.inr ?_), fun _ p hp => k p _ (fun b o e => by rw [upd_ne (ne_of_none e hp)]; exact e) (.inr (SqT.of upd_same))⟩
    have e : cutV xs lo hi = xs := by
      unfold cutV
      rw [w.1, w.2, List.drop_zero, Nat.sub_zero, List.take_length]
    rw [e]; exact h
abbrev rIxA (K : PySem.W.Frag) : R2 := fun x y H Q => rIxL K x y H Q ∨ rIxT K x y H Q
theorem ix_any {X : Cx} : IxR X (rIxA X.K) := IxR.or ix_list ix_tup
theorem dcomp {wi : TI} {g : TG} {tt : TT} {tk tv : TE} {vs : List Nat} {σ : L2.St} {H : Hp} {Q : VK} (h : wi σ H fun J H1 => ∀ D, H1 D = none → ∃ W : Nat → Nat → Hp → Prop, (∃ m, W 0 m (upd H1 D (.dK []))) ∧ ∀ i m H, W i m H →
  (J.stop i H ∧ Q (.ref D) H) ∨ (J.go i H ∧ ∃ Nx : Hp → Prop, (∀ H', Nx H' → ∃ m', m' < m ∧ W (i + 1) m' H') ∧ ∀ x H', J.yld i H x H' → g x (wipe σ vs) H' fun σ2 H2 => wipe σ2 vs = wipe σ vs ∧ tt σ2 H2 fun b H3 =>
    if b = true then tk σ2 H3 fun y H4 => tv σ2 H4 fun z H5 => ∃ kvs k, y = kV k ∧ H5 D = some (.dK kvs) ∧ kvs.length < sizeLine ∧ Nx (upd H5 D (.dK (putK kvs k z))) else Nx H3)) : tDc wi g tt tk tv vs σ H Q := h
theorem star {K : PySem.W.Frag} {te : TE} {t : TA} {σ : L2.St} {H : Hp} {Q : List V → Hp → Prop} (h : te σ H fun x H1 => ∃ p xs, x = V.ref p ∧ (SqT K H1 p xs ∨ SqL K H1 p xs) ∧ t σ H1 fun ys H2 => Q (xs ++ ys) H2) : StX.tStar K te t σ H Q := h
end WP

namespace MFw
open PySem PySem.Spec PyProof.Rows L2
/-! ### the places that runs come by: a worklist's maths -/
inductive Rch (S : Nat → List Nat) (s : Nat) : Nat → Prop
  | st : Rch S s s
  | go {x y : Nat} : Rch S s x → y ∈ S x → Rch S s y
structure WI (S : Nat → List Nat) (n s : Nat) (seen wait : List Nat) : Prop where
  nd : seen.Nodup
  lt : ∀ x, x ∈ seen ∨ x ∈ wait → x < n
  rc : ∀ x, x ∈ seen ∨ x ∈ wait → Rch S s x
  st : s ∈ seen ∨ s ∈ wait
  cl : ∀ x ∈ seen, ∀ y ∈ S x, y ∈ seen ∨ y ∈ wait
theorem WI.init {S : Nat → List Nat} {n s : Nat} (h : s < n) : WI S n s [] [s] := by
  refine ⟨List.nodup_nil, fun x h => ?_, fun x h => ?_, .inr (by simp), fun x h => by cases h⟩
  · rcases h with h | h
    · cases h
    · rw [List.mem_singleton.mp h]; assumption
  · rcases h with h | h
    · cases h
    · rw [List.mem_singleton.mp h]; exact .st
theorem WI.skip {S : Nat → List Nat} {n s x : Nat} {seen w : List Nat} (h : WI S n s seen (w ++ [x])) (hx : x ∈ seen) : WI S n s seen w := by
  refine ⟨h.nd, fun y hy => h.lt y (hy.imp (fun z => z) fun z => List.mem_append_left _ z), fun y hy => h.rc y (hy.imp (fun z => z) fun z => List.mem_append_left _ z), ?_, fun y hy z hz => ?_⟩
  · rcases h.st with q | q
    · exact .inl q
    · rcases List.mem_append.mp q with q | q
      · exact .inr q
      · rw [List.mem_singleton.mp q]; exact .inl hx
  · rcases h.cl y hy z hz with q | q
    · exact .inl q
    · rcases List.mem_append.mp q with q | q
      · exact .inr q
      · rw [List.mem_singleton.mp q]; exact .inl hx
theorem WI.take {S : Nat → List Nat} {n s x : Nat} {seen w L : List Nat} (h : WI S n s seen (w ++ [x])) (hx : x ∉ seen) (hL : ∀ y, y ∈ L ↔ y ∈ S x) (hn : ∀ y ∈ S x, y < n) : WI S n s (seen ++ [x]) (w ++ L) := by
  have xin : x ∈ w ++ [x] := by simp
  refine ⟨?_, fun y hy => ?_, fun y hy => ?_, ?_, fun y hy z hz => ?_⟩
  · refine List.nodup_append.mpr ⟨h.nd, by simp, ?_⟩
    intro a ha b hb e
    rw [List.mem_singleton.mp hb] at e
    exact hx (e ▸ ha)
  · rcases hy with hy | hy
    · rcases List.mem_append.mp hy with q | q
      · exact h.lt y (.inl q)
      · rw [List.mem_singleton.mp q]; exact h.lt x (.inr xin)
    · rcases List.mem_append.mp hy with q | q
      · exact h.lt y (.inr (List.mem_append_left _ q))
      · exact hn y ((hL y).mp q)
  · rcases hy with hy | hy
    · rcases List.mem_append.mp hy with q | q
      · exact h.rc y (.inl q)
      · rw [List.mem_singleton.mp q]; exact h.rc x (.inr xin)
    · rcases List.mem_append.mp hy with q | q
      · exact h.rc y (.inr (List.mem_append_left _ q))
      · exact .go (h.rc x (.inr xin)) ((hL y).mp q)
  · rcases h.st with q | q
    · exact .inl (List.mem_append_left _ q)
    · rcases List.mem_append.mp q with q | q
      · exact .inr (List.mem_append_left _ q)
      · rw [List.mem_singleton.mp q]; exact .inl (by simp)
  · rcases List.mem_append.mp hy with q | q
    · rcases h.cl y q z hz with r | r
      · exact .inl (List.mem_append_left _ r)
      · rcases List.mem_append.mp r with r | r
        · exact .inr (List.mem_append_left _ r)
        · rw [List.mem_singleton.mp r]; exact .inl (by simp)
    · rw [List.mem_singleton.mp q] at hz
      exact .inr (List.mem_append_right _ ((hL z).mpr hz))
theorem WI.done {S : Nat → List Nat} {n s : Nat} {seen : List Nat} (h : WI S n s seen []) (x : Nat) : x ∈ seen ↔ Rch S s x := by
  refine ⟨fun q => h.rc x (.inl q), fun q => ?_⟩
  induction q with
  | st => rcases h.st with q | q
          · exact q
          · cases q
  | go _ hy ih => rcases h.cl _ ih _ hy with q | q
                  · exact q
                  · cases q
theorem WI.size {S : Nat → List Nat} {n s : Nat} {seen w : List Nat} (h : WI S n s seen w) : seen.length ≤ n := by
  exact MG.nodup_len h.nd fun x hx => h.lt x (.inl hx)
theorem rch_congr {S T : Nat → List Nat} {s : Nat} (h : ∀ x, Rch S s x → ∀ y, y ∈ S x ↔ y ∈ T x) {x : Nat} (q : Rch S s x) : Rch T s x := by
  induction q with
  | st => exact .st
  | go r hy ih => exact .go ih ((h _ r _).mp hy)
theorem WI.perm {S : Nat → List Nat} {n s : Nat} {a b : List Nat} (h1 : WI S n s a []) (h2 : WI S n s b []) : a.Perm b :=
  (List.perm_ext_iff_of_nodup h1.nd h2.nd).mpr fun x => (h1.done x).trans (h2.done x).symm
/-- two sorted lists of the same numbers -/
theorem sorted_eq {a b : List Int} (p : a.Perm b) (ha : a.Pairwise (· ≤ ·)) (hb : b.Pairwise (· ≤ ·)) : a = b :=
  p.eq_of_pairwise (fun x y _ _ h1 h2 => Int.le_antisymm h1 h2) ha hb
theorem sx {x y : Str} : decide (x.1.toList = y.1.toList) = decide (x = y) := by
  have : (x.1.toList = y.1.toList) ↔ x = y := by
    constructor
    · intro h
      cases x with | mk a => cases y with | mk b => rw [show a = b from Array.toList_inj.mp h]
    · rintro rfl; rfl
  by_cases h : x = y
  · rw [decide_eq_true h, decide_eq_true (this.mpr h)]
  · rw [decide_eq_false h, decide_eq_false fun z => h (this.mp z)]
theorem sIx_nat (n d i : Nat) : HT.sIx n d (some (i : Int)) = min i n := by
  show (if (i : Int) < 0 then ((i : Int) + (n : Int)).toNat else min (i : Int).toNat n) = min i n
  rw [if_neg (by omega), Int.toNat_natCast]
theorem cut_from (st : List Nat) : cutV (WP.iL st) (some 1) none = WP.iL st.tail := by
  unfold WP.iL
  cases st with
  | nil => rfl
  | cons x t =>
    unfold cutV
    rw [show HT.sIx (List.map (fun (w : Nat) => V.int (w : Int)) (x :: t)).length 0 (some 1) = 1 from by
      rw [show (some (1 : Int)) = some ((1 : Nat) : Int) from rfl, sIx_nat, List.length_map, List.length_cons]; omega]
    rw [List.map_cons, List.drop_succ_cons, List.drop_zero, List.tail_cons]
    refine List.take_of_length_le ?_
    show _ ≤ (V.int (x : Int) :: t.map fun (w : Nat) => V.int (w : Int)).length - 1
    rw [List.length_cons]; omega
theorem cut_one (x : Nat) (t : List Nat) : cutV (WP.iL (x :: t)) none (some 1) = WP.iL [x] := by
  unfold WP.iL cutV
  rw [show HT.sIx (List.map (fun (w : Nat) => V.int (w : Int)) (x :: t)).length (List.map (fun (w : Nat) => V.int (w : Int)) (x :: t)).length (some 1) = 1 from by
      rw [show (some (1 : Int)) = some ((1 : Nat) : Int) from rfl, sIx_nat, List.length_map, List.length_cons]; omega]
  rfl
theorem cut_mid {st : List Nat} {a b : Nat} (h : a ≤ b) (hb : b ≤ st.length) : cutV (WP.iL st) (some (a : Int)) (some (b : Int)) = WP.iL ((st.drop a).take (b - a)) := by
  rw [WP.cut_nat h (by unfold WP.iL; rw [List.length_map]; exact hb)]
  unfold WP.iL
  rw [← List.map_drop, ← List.map_take]
theorem lenA {K : PySem.W.Frag} {H : Hp} {p : Addr} {xs : List V} {Q : VK} (h : SqL K H p xs ∨ SqT K H p xs) (q : Q (.int (xs.length : Int)) H) : WP.rLen K [.ref p] H Q := by
  rcases h with h | h
  · exact WP.lenL h q
  · exact WP.lenT h q
theorem listA {K : PySem.W.Frag} {H : Hp} {p : Addr} {xs : List V} {Q : VK} (h : SqL K H p xs ∨ SqT K H p xs) (q : ∀ l, H l = none → Q (.ref l) (upd H l (.lst xs))) : WP.rListOf K [.ref p] H Q := ⟨p, xs, rfl, h, q⟩
theorem ixA {K : PySem.W.Frag} {H : Hp} {p : Addr} {xs : List V} {Q : VK} {i : Int} {v : V} (h : SqL K H p xs ∨ SqT K H p xs) (a : atI xs i = some v) (q : Q v H) : WP.rIxA K (.ref p) (.int i) H Q := by
  rcases h with h | h
  · exact .inl ⟨p, xs, i, v, rfl, rfl, h, a, q⟩
  · exact .inr ⟨p, xs, i, v, rfl, rfl, h, a, q⟩
theorem key_in {kvs : List (Key × V)} {seen : List Nat} (hk : kvs.map (·.1) = seen.map (fun (i : Nat) => (Sum.inl (i : Int) : Key))) (v : Nat) : (valV kvs (Sum.inl (v : Int))).isSome = decide (v ∈ seen) := by
  rw [← valV_any]
  have e : (kvs.any fun kv => decide (kv.1 = Sum.inl (v : Int))) = ((kvs.map (·.1)).any fun x => decide (x = Sum.inl (v : Int))) := by rw [List.any_map]; rfl
  rw [e, hk, List.any_map]
  refine Bool.eq_iff_iff.mpr ?_
  rw [List.any_eq_true, decide_eq_true_eq]
  constructor
  · rintro ⟨x, hx, h⟩
    have h := Sum.inl.inj (of_decide_eq_true h)
    rw [show v = x by omega]; exact hx
  · intro h
    exact ⟨v, h, decide_eq_true rfl⟩
theorem key_put {kvs : List (Key × V)} {seen : List Nat} (hk : kvs.map (·.1) = seen.map (fun (i : Nat) => (Sum.inl (i : Int) : Key))) {v : Nat} (h : v ∉ seen) (x : V) : (putK kvs (Sum.inl (v : Int)) x).map (·.1) = (seen ++ [v]).map (fun (i : Nat) => (Sum.inl (i : Int) : Key)) := by
  have hn : valV kvs (Sum.inl (v : Int)) = none := by
    have := key_in hk v
    rw [decide_eq_false h] at this
    cases e : valV kvs (Sum.inl (v : Int)) with
    | none => rfl
    | some y => rw [e] at this; cases this
  rw [putK_new x hn, List.map_append, List.map_append, hk]
  rfl
theorem inV2 {k a b : Str} : inV (.str k) [.str a, .str b] = decide (k = a ∨ k = b) := by
  show ((a == k) || ((b == k) || false)) = _
  rw [Bool.or_false]
  by_cases h1 : k = a
  · subst h1; simp
  · by_cases h2 : k = b
    · subst h2; simp
    · rw [decide_eq_false (by rintro (z | z); exact h1 z; exact h2 z), show (a == k) = false from by simpa using fun z => h1 z.symm, show (b == k) = false from by simpa using fun z => h2 z.symm]; rfl
theorem notInS2 {K : PySem.W.Frag} {H : Hp} {p : Addr} {k a b : Str} {Q : VK} (h : SqL K H p [.str a, .str b]) (q : Q (.bl (!decide (k = a ∨ k = b))) H) : rIn K true (.str k) (.ref p) H Q := by
  refine ⟨p, _, rfl, .inl h, rfl, rfl, ?_⟩
  rw [if_pos rfl, inV2]; exact q
theorem inS2 {K : PySem.W.Frag} {H : Hp} {p : Addr} {k a b : Str} {Q : VK} (h : SqL K H p [.str a, .str b]) (q : Q (.bl (decide (k = a ∨ k = b))) H) : rIn K false (.str k) (.ref p) H Q := by
  refine ⟨p, _, rfl, .inl h, rfl, rfl, ?_⟩
  rw [if_neg Bool.false_ne_true]
  have e : inV (.str k) [.str a, .str b] = decide (k = a ∨ k = b) := by
    show ((a == k) || ((b == k) || false)) = _
    rw [Bool.or_false]
    by_cases h1 : k = a
    · subst h1; simp
    · by_cases h2 : k = b
      · subst h2; simp
      · rw [decide_eq_false (by rintro (z | z); exact h1 z; exact h2 z), show (a == k) = false from by simpa using fun z => h1 z.symm, show (b == k) = false from by simpa using fun z => h2 z.symm]; rfl
  rw [e]; exact q
theorem WI.sorted {S : Nat → List Nat} {n s : Nat} {a b : List Nat} {x y : List Int} (h1 : WI S n s a []) (h2 : WI S n s b []) (p1 : x.Perm (a.map fun (i : Nat) => (i : Int))) (p2 : y.Perm (b.map fun (i : Nat) => (i : Int))) (s1 : x.Pairwise (· ≤ ·)) (s2 : y.Pairwise (· ≤ ·)) : x = y :=
  sorted_eq ((p1.trans ((h1.perm h2).map _)).trans p2.symm) s1 s2
/-! ### rows of code -/
structure R where
  k : Str
  a : Nat
  b : Nat
  vs : List V
def R.row (r : R) : List V := .str r.k :: r.vs
structure R.Ok (r : R) : Prop where
  j : r.k = "jump" → r.vs = [.int (r.a : Int)]
  z : r.k = "zero" → r.vs = [.int (r.a : Int)]
  c : r.k = "call" → r.vs = [.int (r.a : Int), .int (r.b : Int)]
/-- next_places -/
def nxt (r : R) (last : Bool) (i : Nat) : List Nat :=
  if r.k = "halt" then [] else if r.k = "leave" ∧ last = true then [] else if r.k = "jump" then [r.a] else if r.k = "zero" then [i + 1, r.a] else [i + 1]
def cal (st : List Nat) (r : R) : List Nat := if r.k = "call" then (st.drop r.a).take (r.b + 1 - r.a) else []
def lastAt (st : List Nat) (n i : Nat) : Bool := decide (i + 1 = n ∨ i + 1 ∈ st.tail)
def suc (st : List Nat) (rs : List R) (i : Nat) : List Nat :=
  match rs[i]? with
  | some r => nxt r (lastAt st rs.length i) i ++ cal st r
  | none => []
structure Prog (st : List Nat) (rs : List R) : Prop where
  pos : 0 < rs.length
  z0 : ∃ t, st = 0 :: t
  lt : ∀ e ∈ st, e < rs.length
  ok : ∀ r ∈ rs, r.Ok
  tj : ∀ r ∈ rs, r.k = "jump" → r.a < rs.length
  tz : ∀ r ∈ rs, r.k = "zero" → r.a < rs.length
  cl : ∀ r ∈ rs, r.k = "call" → r.a ≤ r.b ∧ r.b < st.length
  ls : ∀ r, rs[rs.length - 1]? = some r → r.k = "leave"
/-- what the law's own search puts on its list -/
def suc2 (st : List Nat) (n : Nat) (r : R) (i : Nat) : List Nat :=
  (if r.k = "jump" ∨ r.k = "zero" then [r.a] else []) ++ cal st r ++ (if (r.k ≠ "jump" ∧ r.k ≠ "halt") ∧ ¬ (r.k = "leave" ∧ lastAt st n i = true) then [i + 1] else [])
theorem nj : (("jump" : Str) = "halt") = False := by decide +kernel
theorem suc2_mem {st : List Nat} {n i : Nat} {r : R} (y : Nat) : y ∈ suc2 st n r i ↔ y ∈ nxt r (lastAt st n i) i ++ cal st r := by
  unfold suc2 nxt
  by_cases h1 : r.k = "halt"
  · have a1 : ¬ (r.k = "jump") := by rw [h1]; decide +kernel
    have a2 : ¬ (r.k = "zero") := by rw [h1]; decide +kernel
    simp [h1, a1, a2]
    intro z
    rw [h1] at a1 a2
    simp_all
  · by_cases h2 : r.k = "leave" ∧ lastAt st n i = true
    · have a1 : ¬ (r.k = "jump") := by rw [h2.1]; decide +kernel
      have a2 : ¬ (r.k = "zero") := by rw [h2.1]; decide +kernel
      rw [if_neg h1, if_pos h2, if_neg (by rintro (h | h); exact a1 h; exact a2 h), if_neg (fun h => h.2 h2)]
      simp
    · rw [if_neg h1, if_neg h2]
      by_cases h3 : r.k = "jump"
      · rw [if_pos h3, if_pos (.inl h3), if_neg (fun h => h.1.1 h3)]
        simp
      · rw [if_neg h3]
        by_cases h4 : r.k = "zero"
        · rw [if_pos h4, if_pos (.inr h4), if_pos ⟨⟨h3, h1⟩, h2⟩]
          simp only [List.mem_append, List.mem_cons, List.not_mem_nil, or_false]
          constructor
          · rintro ((h | h) | h)
            · exact .inl (.inr h)
            · exact .inr h
            · exact .inl (.inl h)
          · rintro ((h | h) | h)
            · exact .inr h
            · exact .inl (.inl h)
            · exact .inl (.inr h)
        · rw [if_neg h4, if_neg (by rintro (h | h); exact h3 h; exact h4 h), if_pos ⟨⟨h3, h1⟩, h2⟩]
          simp only [List.mem_append, List.mem_cons, List.not_mem_nil, or_false, false_or]
          exact Or.comm
theorem suc_at {st : List Nat} {rs : List R} {i : Nat} {r : R} (h : rs[i]? = some r) : suc st rs i = nxt r (lastAt st rs.length i) i ++ cal st r := by
  unfold suc; rw [h]
theorem suc_lt {st : List Nat} {rs : List R} (P : Prog st rs) {i y : Nat} (h : y ∈ suc st rs i) : y < rs.length := by
  unfold suc at h
  cases hr : rs[i]? with
  | none => rw [hr] at h; cases h
  | some r =>
    rw [hr] at h
    have hm := List.mem_of_getElem? hr
    have hi : i < rs.length := by
      rcases Nat.lt_or_ge i rs.length with q | q
      · exact q
      · rw [List.getElem?_eq_none q] at hr; cases hr
    have nx : ¬ (r.k = "leave" ∧ lastAt st rs.length i = true) → i + 1 < rs.length := fun q => by
      rcases Nat.lt_or_ge (i + 1) rs.length with z | z
      · exact z
      · have e : i = rs.length - 1 := by omega
        refine absurd ⟨P.ls r (e ▸ hr), ?_⟩ q
        unfold lastAt
        exact decide_eq_true (.inl (by omega))
    rcases List.mem_append.mp h with h | h
    · unfold nxt at h
      by_cases h1 : r.k = "halt"
      · rw [if_pos h1] at h; cases h
      · rw [if_neg h1] at h
        by_cases h2 : r.k = "leave" ∧ lastAt st rs.length i = true
        · rw [if_pos h2] at h; cases h
        · rw [if_neg h2] at h
          by_cases h3 : r.k = "jump"
          · rw [if_pos h3] at h
            rw [List.mem_singleton.mp h]; exact P.tj r hm h3
          · rw [if_neg h3] at h
            by_cases h4 : r.k = "zero"
            · rw [if_pos h4] at h
              rcases List.mem_cons.mp h with e | h
              · rw [e]; exact nx h2
              · rw [List.mem_singleton.mp h]; exact P.tz r hm h4
            · rw [if_neg h4] at h
              rw [List.mem_singleton.mp h]; exact nx h2
    · unfold cal at h
      by_cases h1 : r.k = "call"
      · rw [if_pos h1] at h
        exact P.lt y (List.mem_of_mem_drop (List.mem_of_mem_take h))
      · rw [if_neg h1] at h; cases h
theorem cal_len {st : List Nat} {r : R} (h : ∀ _ : r.k = "call", r.a ≤ r.b ∧ r.b < st.length) : (cal st r).length ≤ st.length := by
  unfold cal
  by_cases h1 : r.k = "call"
  · rw [if_pos h1, List.length_take, List.length_drop]; omega
  · rw [if_neg h1]; exact Nat.zero_le _
theorem nxt_len {r : R} {b : Bool} {i : Nat} : (nxt r b i).length ≤ 2 := by
  unfold nxt
  split
  · exact Nat.zero_le _
  · split
    · exact Nat.zero_le _
    · split
      · exact Nat.le_succ _
      · split
        · exact Nat.le_refl _
        · exact Nat.le_succ _
theorem suc2_len {st : List Nat} {n i : Nat} {r : R} (h : r.k = "call" → r.a ≤ r.b ∧ r.b < st.length) (h0 : 0 < st.length) : (suc2 st n r i).length ≤ st.length + 1 := by
  unfold suc2
  have h1 : (if (r.k ≠ "jump" ∧ r.k ≠ "halt") ∧ ¬ (r.k = "leave" ∧ lastAt st n i = true) then [i + 1] else []).length ≤ 1 := by split <;> simp
  rw [List.length_append, List.length_append]
  by_cases c : r.k = "call"
  · have h2 := cal_len h
    rw [if_neg (by rw [c]; intro z; rcases z with z | z <;> exact absurd z (by decide +kernel))]
    rw [List.length_nil]
    omega
  · have h2 : (cal st r).length = 0 := by unfold cal; rw [if_neg c]; rfl
    have h3 : (if r.k = "jump" ∨ r.k = "zero" then [r.a] else []).length ≤ 1 := by split <;> simp
    omega
/-! ### programs that are put together -/
def offs : Nat → List (List R) → List Nat
  | _, [] => []
  | n, b :: bs => n :: offs (n + b.length) bs
theorem offs_len : ∀ (n : Nat) (bs : List (List R)), (offs n bs).length = bs.length
  | _, [] => rfl
  | n, b :: bs => by show (offs _ bs).length + 1 = _; rw [offs_len]; rfl
theorem offs_app : ∀ (n : Nat) (bs : List (List R)) (c : List R), offs n (bs ++ [c]) = offs n bs ++ [n + bs.flatten.length]
  | n, [], c => by show [n] = [n + 0]; rw [Nat.add_zero]
  | n, b :: bs, c => by
    show n :: offs (n + b.length) (bs ++ [c]) = n :: offs (n + b.length) bs ++ _
    rw [offs_app, List.flatten_cons, List.length_append, Nat.add_assoc]; rfl
theorem offs_le : ∀ (n : Nat) (bs : List (List R)), ∀ e ∈ offs n bs, e ≤ n + bs.flatten.length
  | _, [], e, h => by cases h
  | n, b :: bs, e, h => by
    rw [List.flatten_cons, List.length_append]
    rcases List.mem_cons.mp h with h | h
    · omega
    · have := offs_le _ bs e h; omega
theorem offs_take {n i : Nat} {bs : List (List R)} {b : List R} (h : bs[i]? = some b) : (offs n bs)[i]? = some (n + (bs.take i).flatten.length) := by
  induction bs generalizing n i with
  | nil => cases h
  | cons c bs ih =>
    cases i with
    | zero => rfl
    | succ i =>
      show (offs (n + c.length) bs)[i]? = _
      rw [ih (by simpa using h), List.take_succ_cons, List.flatten_cons, List.length_append, Nat.add_assoc]
def fixR (pl : List Nat) (r : R) : R := if r.k = "jump" ∨ r.k = "zero" then ⟨r.k, pl.getD r.a 0, 0, [.int ((pl.getD r.a 0 : Nat) : Int)]⟩ else r
theorem fixR_k (pl : List Nat) (r : R) : (fixR pl r).k = r.k := by unfold fixR; split <;> rfl
structure BkOk (many count : Nat) (r : R) : Prop where
  o : r.Ok
  j : r.k = "jump" ∨ r.k = "zero" → r.a ≤ many
  c : r.k = "call" → r.a ≤ r.b ∧ r.b < count
theorem jc : ¬ (("jump" : Str) = "call") := by decide +kernel
theorem zc : ¬ (("zero" : Str) = "call") := by decide +kernel
theorem lj : ¬ (("leave" : Str) = "jump") := by decide +kernel
theorem lz : ¬ (("leave" : Str) = "zero") := by decide +kernel
theorem lc : ¬ (("leave" : Str) = "call") := by decide +kernel
theorem fix_ok {pl : List Nat} {r : R} (h : r.Ok) : (fixR pl r).Ok := by
  unfold fixR
  by_cases c : r.k = "jump" ∨ r.k = "zero"
  · rw [if_pos c]
    refine ⟨fun _ => rfl, fun _ => rfl, fun z => ?_⟩
    exfalso
    have z : r.k = "call" := z
    rcases c with c | c
    · exact jc (c.symm.trans z)
    · exact zc (c.symm.trans z)
  · rw [if_neg c]; exact h
structure PInv (count w : Nat) (st : List Nat) (rs : List R) : Prop where
  sl : st.length = w
  z0 : 0 < w → ∃ t, st = 0 :: t
  lt : ∀ e ∈ st, e < rs.length
  ok : ∀ r ∈ rs, r.Ok
  tg : ∀ r ∈ rs, r.k = "jump" ∨ r.k = "zero" → r.a < rs.length
  cl : ∀ r ∈ rs, r.k = "call" → r.a ≤ r.b ∧ r.b < count
  ls : ∀ r, rs[rs.length - 1]? = some r → r.k = "leave"
  rl : rs.length ≤ 55 * w
theorem PInv.nil (count : Nat) : PInv count 0 [] [] := ⟨rfl, fun h => absurd h (Nat.lt_irrefl 0), fun _ h => by (cases h), fun _ h => by (cases h), fun _ h => by (cases h), fun _ h => by (cases h), fun _ h => by (cases h), Nat.le_refl _⟩
theorem flat_len : ∀ {bs : List (List R)} {m : Nat}, (∀ b ∈ bs, b.length ≤ m) → bs.flatten.length ≤ m * bs.length
  | [], m, _ => Nat.zero_le _
  | b :: bs, m, h => by
    have h1 := flat_len fun c hc => h c (List.mem_cons_of_mem _ hc)
    have h2 := h b List.mem_cons_self
    rw [List.flatten_cons, List.length_append, List.length_cons, Nat.mul_succ]; omega
def lv (x : V) : R := ⟨"leave", 0, 0, [x]⟩
theorem PInv.step {count w : Nat} {st : List Nat} {rs : List R} (I : PInv count w st rs) {bs : List (List R)} {x : V} (hm : bs.length ≤ 9) (h6 : ∀ b ∈ bs, b.length ≤ 6) (hb : ∀ b ∈ bs, ∀ r ∈ b, BkOk bs.length count r) :
    PInv count (w + 1) (st ++ [rs.length]) (rs ++ (bs ++ [[lv x]]).flatten.map (fixR (offs rs.length (bs ++ [[lv x]])))) := by
  have fl : (bs ++ [[lv x]]).flatten = bs.flatten ++ [lv x] := by rw [List.flatten_append]; rfl
  have nl : (rs ++ (bs ++ [[lv x]]).flatten.map (fixR (offs rs.length (bs ++ [[lv x]])))).length = rs.length + bs.flatten.length + 1 := by
    rw [List.length_append, List.length_map, fl, List.length_append, List.length_singleton, Nat.add_assoc]
  have lx : fixR (offs rs.length (bs ++ [[lv x]])) (lv x) = lv x := if_neg (by rintro (z | z); exact lj z; exact lz z)
  have hmem : ∀ r ∈ rs ++ (bs ++ [[lv x]]).flatten.map (fixR (offs rs.length (bs ++ [[lv x]]))), r ∈ rs ∨ (∃ q, BkOk bs.length count q ∧ r = fixR (offs rs.length (bs ++ [[lv x]])) q) ∨ r = lv x := by
    intro r hr
    rcases List.mem_append.mp hr with hr | hr
    · exact .inl hr
    · obtain ⟨q, hq, rfl⟩ := List.mem_map.mp hr
      rw [fl] at hq
      rcases List.mem_append.mp hq with hq | hq
      · obtain ⟨b, hbm, hqb⟩ := List.mem_flatten.mp hq
        exact .inr (.inl ⟨q, hb b hbm q hqb, rfl⟩)
      · rw [List.mem_singleton.mp hq]; exact .inr (.inr lx)
  have hpl : ∀ a, a ≤ bs.length → (offs rs.length (bs ++ [[lv x]])).getD a 0 < rs.length + bs.flatten.length + 1 := by
    intro a ha
    have hl : a < (offs rs.length (bs ++ [[lv x]])).length := by rw [offs_len, List.length_append, List.length_singleton]; omega
    rw [List.getD_eq_getElem?_getD, List.getElem?_eq_getElem hl]
    show (offs rs.length (bs ++ [[lv x]]))[a] < _
    have hin := List.getElem_mem hl
    generalize (offs rs.length (bs ++ [[lv x]]))[a] = e at hin
    rw [offs_app] at hin
    rcases List.mem_append.mp hin with hin | hin
    · have := offs_le _ _ e hin; omega
    · rw [List.mem_singleton.mp hin]; omega
  refine ⟨by rw [List.length_append, I.sl]; rfl, fun _ => ?_, fun e he => ?_, fun r hr => ?_, fun r hr hk => ?_, fun r hr hk => ?_, fun r hr => ?_, ?_⟩
  · rcases Nat.eq_zero_or_pos w with h | h
    · have h1 := I.sl
      have h2 := I.rl
      rw [h] at h1 h2
      rw [List.length_eq_zero_iff.mp h1, List.length_eq_zero_iff.mp (by omega : rs.length = 0)]
      exact ⟨[], rfl⟩
    · obtain ⟨t, ht⟩ := I.z0 h
      exact ⟨t ++ [rs.length], by rw [ht]; rfl⟩
  · rw [nl]
    rcases List.mem_append.mp he with he | he
    · have := I.lt e he; omega
    · rw [List.mem_singleton.mp he]; omega
  · rcases hmem r hr with h | ⟨q, hq, rfl⟩ | rfl
    · exact I.ok r h
    · exact fix_ok hq.o
    · exact ⟨fun z => absurd z lj, fun z => absurd z lz, fun z => absurd z lc⟩
  · rw [nl]
    rcases hmem r hr with h | ⟨q, hq, rfl⟩ | rfl
    · have := I.tg r h hk; omega
    · have hk2 := hk
      rw [fixR_k] at hk2
      unfold fixR
      rw [if_pos hk2]
      exact hpl _ (hq.j hk2)
    · exact absurd hk (by rintro (z | z); exact lj z; exact lz z)
  · rcases hmem r hr with h | ⟨q, hq, rfl⟩ | rfl
    · exact I.cl r h hk
    · have hk2 := hk
      rw [fixR_k] at hk2
      have hn : ¬ (q.k = "jump" ∨ q.k = "zero") := by rintro (z | z); exact jc (z.symm.trans hk2); exact zc (z.symm.trans hk2)
      unfold fixR
      rw [if_neg hn]
      exact hq.c hk2
    · exact absurd hk lc
  · rw [nl] at hr
    rw [List.getElem?_append_right (by omega), List.getElem?_map, fl, List.getElem?_append_right (by omega)] at hr
    rw [show rs.length + bs.flatten.length + 1 - 1 - rs.length - bs.flatten.length = 0 by omega] at hr
    have hr := Option.some.inj hr
    rw [← hr, fixR_k]; rfl
  · rw [nl]
    have h1 := flat_len h6
    have h2 := I.rl
    omega
theorem PInv.prog {count w : Nat} {st : List Nat} {rs : List R} (I : PInv count w st rs) (hw : 0 < w) (hc : count = w) : Prog st rs := by
  obtain ⟨t, ht⟩ := I.z0 hw
  refine ⟨?_, ⟨t, ht⟩, I.lt, I.ok, fun r hr h => I.tg r hr (.inl h), fun r hr h => I.tg r hr (.inr h), fun r hr h => ?_, I.ls⟩
  · have := I.lt 0 (by rw [ht]; exact List.mem_cons_self); omega
  · rw [I.sl, ← hc]; exact I.cl r hr h
end MFw

namespace D
open PySem PySem.Spec PyProof.Rows L2
local macro_rules | `(tactic| k_memK) => `(tactic| first
  | (with_reducible refine WP.eqTS ?_) | (with_reducible refine WP.neTS ?_) | (with_reducible refine WP.bm ?_) | (with_reducible refine WP.tyS ?_) | (with_reducible refine WP.gsub ?_) | (with_reducible refine WP.rng3 ?_) | (with_reducible refine WP.sfld ?_) | (with_reducible refine WP.make ?_) | (with_reducible refine WP.gsl ?_) | (with_reducible refine WP.wstr ?_) | (with_reducible refine WP.bm0 ?_) | (with_reducible refine WP.lc ?_) | (with_reducible refine WP.jr ?_) | (with_reducible refine WP.zipS ?_) | (with_reducible refine WP.par ?_) | (with_reducible refine WP.tupRev ?_) | (with_reducible refine WP.rev ?_) | (with_reducible refine WP.dnewK ?_) | (with_reducible refine WP.din ?_) | (with_reducible refine WP.dnotin ?_) | (with_reducible refine WP.dput ?_) | (with_reducible refine WP.dget ?_) | (with_reducible refine WP.dcomp ?_) | (with_reducible refine WP.star ?_)
  | (with_reducible refine WP.seq ?_) | (with_reducible refine WP.asg ?_) | (with_reducible refine WP.name ?_)
  | ((with_reducible show tVar _ _ _ _); refine WP.var rfl ?_) | (with_reducible refine WP.con ?_) | (with_reducible refine WP.op ?_) | (with_reducible refine WP.i0 ?_)
  | (with_reducible refine WP.un ?_) | (with_reducible refine WP.rU_ ?_)
  | (with_reducible refine WP.ifS ?_) | (with_reducible refine WP.ifE ?_) | (with_reducible refine WP.test ?_) | (with_reducible refine WP.bt ?_) | (with_reducible refine WP.isbV ?_)
  | (with_reducible refine WP.ret ?_) | (with_reducible refine WP.retN ?_) | (with_reducible refine WP.drop ?_) | (with_reducible refine WP.next ?_) | (with_reducible refine WP.brk ?_) | (with_reducible refine WP.cont ?_)
  | (with_reducible refine WP.cb ?_) | (with_reducible refine WP.call ?_) | (with_reducible refine WP.cons ?_) | (with_reducible refine WP.nil ?_) | (with_reducible refine WP.tup ?_) | (with_reducible refine WP.lst ?_)
  | (with_reducible refine WP.eqI ?_) | (with_reducible refine WP.neI ?_) | (with_reducible refine WP.eqT ?_) | (with_reducible refine WP.neT ?_) | (with_reducible refine WP.eqB ?_) | (with_reducible refine WP.neB ?_)
  | (with_reducible refine WP.notT ?_) | (with_reducible refine WP.andT ?_) | (with_reducible refine WP.orT ?_) | (with_reducible refine WP.andV ?_) | (with_reducible refine WP.orV ?_) | (with_reducible refine WP.notV ?_)
  | (with_reducible refine WP.sl ?_) | (with_reducible refine WP.noPart ?_) | (with_reducible refine WP.part ?_) | (with_reducible refine WP.isi ?_) | (with_reducible refine WP.isbV ?_) | (with_reducible refine WP.gsCons ?_) | (with_reducible refine WP.gsNil ?_) | (with_reducible refine WP.forl ?_) | (with_reducible refine WP.rng1 ?_) | (with_reducible refine WP.rng2 ?_) | (with_reducible refine WP.walkL ?_) | (with_reducible refine WP.walkT ?_))
local macro_rules | `(tactic| k_updF) => `(tactic| repeat k_memK)

def top (i : Nat) : Stmt := PySem.Challenge.pw_cardwright_k71_places_that_runs_come_by.main.body.getD i (.Pass ⟨0, 0, 0, 0⟩)
structure Blt (w : World) (K : PySem.W.Frag) (mg : Str → Option Value) : Prop where
  b_bool : mg "bool" = none
  b_dict : mg "dict" = none
  b_int : mg "int" = none
  b_isinstance : mg "isinstance" = none
  b_len : mg "len" = none
  b_list : mg "list" = none
  b_range : mg "range" = none
  b_sorted : mg "sorted" = none
  b_str : mg "str" = none
  b_tuple : mg "tuple" = none
abbrev s__law_draws : Stmt := top 5
abbrev N__law_draws : List Str := ["script"]
theorem sc__law_draws : FnScope N__law_draws ["script"] (defScope s__law_draws) := ⟨rfl, rfl, rfl, by decide +kernel, rfl, by decide +kernel, by decide +kernel⟩
/-- the drawing state at d: z is its list and the list's numbers -/
abbrev DZ := Addr × List Int
def DS (K : PySem.W.Frag) (H : Hp) (d : Addr) (z : DZ) : Prop := ∃ (pos cur mix : Int), H d = some (.lst [.ref z.1, .int pos, .int cur, .int mix]) ∧ z.1 ≠ d ∧ H z.1 = some (.lst (z.2.map V.int)) ∧ 0 ≤ pos
theorem DS.same {K : PySem.W.Frag} {H H' : Hp} {d : Addr} {z : DZ} (e : Same H H') (h : DS K H d z) : DS K H' d z := by
  obtain ⟨pos, cur, mix, h1, h2, h3, h4⟩ := h
  exact ⟨pos, cur, mix, e _ _ h1, h2, e _ _ h3, h4⟩
theorem DS.lst {K : PySem.W.Frag} {H : Hp} {d : Addr} {z : DZ} (h : DS K H d z) : ∃ xs, H d = some (.lst xs) := by
  obtain ⟨pos, cur, mix, h1, _⟩ := h
  exact ⟨_, h1⟩
theorem DS.tup {K : PySem.W.Frag} {H H' : Hp} {d p : Addr} {z : DZ} {xs : List V} (h : DS K H d z) (s : WP.Sx d H H') (hp : SqT K H p xs) : SqT K H' p xs := by
  obtain ⟨ys, hx⟩ := h.lst
  exact WP.sqtX s hx hp
theorem DS.new {K : PySem.W.Frag} {H : Hp} {d p : Addr} {z : DZ} (h : DS K H d z) (hp : H p = none) : p ≠ d ∧ p ≠ z.1 := by
  obtain ⟨pos, cur, mix, h1, h2, h3, h4⟩ := h
  exact ⟨fun e => (by rw [e, h1] at hp; cases hp), fun e => (by rw [e, h3] at hp; cases hp)⟩
theorem DS.mut {K : PySem.W.Frag} {H : Hp} {d p : Addr} {z : DZ} {o : HO} (h : DS K H d z) (n : p ≠ d ∧ p ≠ z.1) : DS K (upd H p o) d z := by
  obtain ⟨pos, cur, mix, h1, h2, h3, h4⟩ := h
  exact ⟨pos, cur, mix, by rw [upd_ne (Ne.symm n.1)]; exact h1, h2, by rw [upd_ne (Ne.symm n.2)]; exact h3, h4⟩
theorem DS.alloc {K : PySem.W.Frag} {H : Hp} {d T : Addr} {z : DZ} {o : HO} (h : DS K H d z) (hT : H T = none) : DS K (upd H T o) d z ∧ T ≠ d ∧ WP.Sx d H (upd H T o) ∧ (upd H T o) T = some o :=
  ⟨h.same (WP.same_new hT), (h.new hT).1, WP.Sx.of (WP.same_new hT), upd_same⟩
/-- what was new may be stored to -/
theorem sx_mut {d p : Addr} {H H' : Hp} {o : HO} (e : WP.Sx d H H') (h : H p = none) : WP.Sx d H (upd H' p o) := fun a u n ha => by
  rw [upd_ne (ne_of_none ha h)]; exact e a u n ha
theorem sx_free {d p : Addr} {H H' : Hp} (e : WP.Sx d H H') (n : p ≠ d) (h : H' p = none) : H p = none := by
  cases q : H p with
  | none => rfl
  | some o => have := e p o n q; rw [h] at this; cases this
def sp__law_draws (K : PySem.W.Frag) (mg : WP.MG) : Sp := fun vs H Q _ => ∃ (a : Addr) (ns : List Int), vs = [.ref a] ∧ SqL K H a (ns.map V.int) ∧ ∀ d z H', z.2 = ns → H z.1 = none → H d = none → Same H H' → DS K H' d z → Q (.ref d) H'
section
variable {P : Program} {w : World} {K : PySem.W.Frag} {mg : Str → Option Value} {base : Heap}
theorem ok__law_draws {f : Addr} {fd : FuncData} (F : Fun K "_law_draws" "_law_draws" s__law_draws f fd) (B : Blt w K mg)  : FnOk P w K mg base CX0 1 f fd ["script"] (sp__law_draws K mg) := by
  refine F.ok sc__law_draws (fun vs H Q E h => ?_) (fun cdv A outer s H vs Q E hr h => ?_)
  · first | (obtain ⟨_, rfl, _⟩ := h; rfl) | (obtain ⟨_, _, rfl, _⟩ := h; rfl) | (obtain ⟨_, _, _, rfl, _⟩ := h; rfl) | (obtain ⟨_, _, _, _, rfl, _⟩ := h; rfl) | (obtain ⟨_, _, _, _, _, rfl, _⟩ := h; rfl) | (obtain ⟨_, _, _, _, _, _, rfl, _⟩ := h; rfl) | (obtain ⟨_, _, _, _, _, _, _, rfl, _⟩ := h; rfl) | (obtain ⟨_, _, _, _, _, _, _, _, rfl, _⟩ := h; rfl) | (obtain ⟨rfl, _⟩ := h; rfl)
  · obtain ⟨a, ns, rfl, ha, k⟩ := h
    refine ⟨_, (pss_one (ps_ret (pe_lst (WP.pa_consN (pe_callTy WP.c_listOf (by rfl) B.b_list (by decide +kernel) (WP.pa_consN (pv 0) pa_nil)) (WP.pa_consN pe_int (WP.pa_consN pe_int (WP.pa_consN pe_int pa_nil))))))), ?_⟩
    k_updF
    refine WP.listL ha (fun l hl => ?_)
    k_updF
    refine ⟨WP.sz (show 4 ≤ 1000000 by decide), fun d hd => ?_⟩
    have ne : l ≠ d := fun z => by subst z; rw [upd_same] at hd; cases hd
    exact k d (l, ns) _ rfl hl ((WP.same_new hl).free hd) ((WP.same_new hl).trans (WP.same_new hd)) ⟨0, 0, 1, upd_same, ne, by rw [upd_ne ne, upd_same], by decide⟩
end
abbrev s__law_draw : Stmt := top 6
abbrev N__law_draw : List Str := ["draws", "limit", "cell", "value"]
theorem sc__law_draw : FnScope N__law_draw ["draws", "limit"] (defScope s__law_draw) := ⟨rfl, rfl, rfl, by decide +kernel, rfl, by decide +kernel, by decide +kernel⟩
def sp__law_draw (K : PySem.W.Frag) (mg : WP.MG) : Sp := fun vs H Q _ => ∃ (d : Addr) (ns : DZ) (m : Int), vs = [.ref d, .int m] ∧ 0 < m ∧ WP.Bt m 8000 ∧ DS K H d ns ∧ ∀ v H', 0 ≤ v → v < m → WP.Sx d H H' → DS K H' d ns → Q (.int v) H'
section
variable {P : Program} {w : World} {K : PySem.W.Frag} {mg : Str → Option Value} {base : Heap}
theorem ok__law_draw {f : Addr} {fd : FuncData} (F : Fun K "_law_draw" "_law_draw" s__law_draw f fd) (B : Blt w K mg)  : FnOk P w K mg base CX0 1 f fd ["draws", "limit"] (sp__law_draw K mg) := by
  refine F.ok sc__law_draw (fun vs H Q E h => ?_) (fun cdv A outer s H vs Q E hr h => ?_)
  · first | (obtain ⟨_, rfl, _⟩ := h; rfl) | (obtain ⟨_, _, rfl, _⟩ := h; rfl) | (obtain ⟨_, _, _, rfl, _⟩ := h; rfl) | (obtain ⟨_, _, _, _, rfl, _⟩ := h; rfl) | (obtain ⟨_, _, _, _, _, rfl, _⟩ := h; rfl) | (obtain ⟨_, _, _, _, _, _, rfl, _⟩ := h; rfl) | (obtain ⟨_, _, _, _, _, _, _, rfl, _⟩ := h; rfl) | (obtain ⟨_, _, _, _, _, _, _, _, rfl, _⟩ := h; rfl) | (obtain ⟨rfl, _⟩ := h; rfl)
  · obtain ⟨d, ns, m, rfl, hm, bm, hd, k⟩ := h
    refine ⟨_, (Evl.pss_cut (ps_if (PW.pt (pw_and (pt_cmpR op_eq (pe_ix ix_list (pv 0) pe_int (fun _ _ => rfl)) pe_int (nomark _)) (pw_and1 (pt_cmpR op_lt (pe_ix ix_list (pv 0) pe_int (fun _ _ => rfl)) (pe_callB WP.c_len (by rfl) B.b_len (by decide +kernel) (WP.pa_consN (pe_ix ix_list (pv 0) pe_int (fun _ _ => rfl)) pa_nil)) (nomark _))))) (pss_cons (ps_set (i := 2) sc__law_draw.nd rfl (Or.inl rfl) (pe_ix ix_list (pe_ix ix_list (pv 0) pe_int (fun _ _ => rfl)) (pe_ix ix_list (pv 0) pe_int (fun _ _ => rfl)) (fun _ _ => rfl)))
      (pss_cons (ps_asg (pe_op op_add (pe_ix ix_list (pv 0) pe_int (fun _ _ => rfl)) pe_int) (pg_sub (pv 0) pe_int set_list))
      (Evl.pss_cut (ps_if (pt_cmpR op_ge (pv 2) (pe_op op_pow pe_int pe_int) (nomark _)) (pss_one (ps_asg (pv 2) (pg_sub (pv 0) pe_int set_list))) pss_nil)
      (pss_one (ps_asg (pe_op op_mod (pe_callTy WP.c_int1 (by rfl) B.b_int (by decide +kernel) (WP.pa_consN (pe_op op_add (pe_op op_add (pe_op op_mul (pe_ix ix_list (pv 0) pe_int (fun _ _ => rfl)) pe_int) (pv 2)) pe_int) pa_nil)) pe_int) (pg_sub (pv 0) pe_int set_list)))))) pss_nil)
      (pss_cons (ps_if (pt_cmpR op_gt (pe_ix ix_list (pv 0) pe_int (fun _ _ => rfl)) pe_int (nomark _)) (pss_cons (ps_set (i := 3) sc__law_draw.nd rfl (Or.inl rfl) (pe_op op_mod (pe_callTy WP.c_int1 (by rfl) B.b_int (by decide +kernel) (WP.pa_consN (pe_ix ix_list (pv 0) pe_int (fun _ _ => rfl)) pa_nil)) (pv 1)))
      (pss_cons (ps_asg (pe_op op_fdivW (pe_ix ix_list (pv 0) pe_int (fun _ _ => rfl)) (pv 1)) (pg_sub (pv 0) pe_int set_list))
      (pss_one (ps_ret (pv 3))))) pss_nil)
      (pss_cons (ps_asg (pe_op op_mod (pe_callTy WP.c_int1 (by rfl) B.b_int (by decide +kernel) (WP.pa_consN (pe_op op_add (pe_op op_mul (pe_ix ix_list (pv 0) pe_int (fun _ _ => rfl)) pe_int) pe_int) pa_nil)) pe_int) (pg_sub (pv 0) pe_int set_list))
      (pss_one (ps_ret (pe_op op_mod (pe_callTy WP.c_int1 (by rfl) B.b_int (by decide +kernel) (WP.pa_consN (pe_op op_fdiv (pe_ix ix_list (pv 0) pe_int (fun _ _ => rfl)) pe_int) pa_nil)) (pv 1))))))), ?_⟩
    obtain ⟨l, ns⟩ := ns
    obtain ⟨pos, cur, mix, h1, h2, h3, h4⟩ := hd
    have h3 : SqL K H l (ns.map V.int) := SqL.of h3
    have h3' : H l = some (.lst (ns.map V.int)) := by assumption
    refine WP.cut (fun σ' H' => (∃ z z2, σ' = [some (.ref d), some (.int m), z, z2]) ∧ WP.Sx d H H' ∧ DS K H' d (l, ns)) ?_ ?_
    · k_updF
      refine WP.ixL (SqL.of h1) WP.at2 ?_
      k_updF
      have hD : DS K H d (l, ns) := ⟨pos, cur, mix, h1, h2, h3', h4⟩
      refine WP.br (fun c => ?_) (fun c => ?_)
      · k_updF
        refine WP.ixL (SqL.of h1) WP.at1 ?_
        k_updF
        refine WP.ixL (SqL.of h1) WP.at0 ?_
        k_updF
        refine WP.lenL h3 ?_
        k_updF
        refine WP.br (fun c2 => ?_) (fun c2 => ?_)
        · k_updF
          rw [List.length_map] at c2
          refine WP.ixL (SqL.of h1) WP.at0 ?_
          k_updF
          refine WP.ixL (SqL.of h1) WP.at1 ?_
          refine WP.ixL h3 (WP.at_ints h4 c2) ?_
          k_updF
          generalize ns.getD pos.toNat 0 = cell
          refine WP.ixL (SqL.of h1) WP.at1 ?_
          k_updF
          refine WP.setL h1 rfl ?_
          generalize hH1 : upd H d _ = H1
          have g1 : H1 d = some (.lst [.ref l, .int (pos + 1), .int cur, .int mix]) := by rw [← hH1, upd_same]; rfl
          have s1 : WP.Sx d H H1 := by rw [← hH1]; exact WP.Sx.upd
          have l1 := WP.sqlX (K := K) s1 h2 h3
          clear hH1
          refine WP.cut (fun σ' H' => σ' = [some (.ref d), some (.int m), some (.int cell), none] ∧ WP.Sx d H H' ∧ ∃ cur, H' d = some (.lst [.ref l, .int (pos + 1), .int cur, .int mix])) ?_ ?_
          · k_updF
            refine WP.iC ⟨by decide, by decide, by decide⟩ ?_
            k_updF
            refine WP.br (fun c => ?_) (fun c => ?_)
            · k_updF
              refine WP.setL g1 rfl ?_
              exact ⟨rfl, s1.trans WP.Sx.upd, cell, by rw [upd_same]; rfl⟩
            · k_updF
              exact ⟨rfl, s1, cur, g1⟩
          · rintro σ' H2 ⟨rfl, s2, cur2, g2⟩
            have l2 := WP.sqlX (K := K) s2 h2 h3
            k_updF
            refine WP.ixL (SqL.of g2) WP.at3 ?_
            k_updF
            refine WP.iC (.inr (by decide)) ?_
            k_updF
            refine WP.intI ?_
            k_updF
            refine WP.iC (by decide) ?_
            k_updF
            refine WP.setL g2 rfl ?_
            refine ⟨⟨_, _, rfl⟩, s2.trans WP.Sx.upd, pos + 1, cur2, _, by rw [upd_same]; rfl, h2, (s2.trans WP.Sx.upd) l _ h2 h3', by omega⟩
        · k_updF
          exact ⟨⟨_, _, rfl⟩, WP.Sx.refl, hD⟩
      · k_updF
        refine WP.brF rfl ?_
        k_updF
        exact ⟨⟨_, _, rfl⟩, WP.Sx.refl, hD⟩
    clear h1 h2 h3 h3' h4 pos cur mix
    rintro σ' H1 ⟨⟨z, z2, rfl⟩, s1, pos, cur, mix, h1, h2, h3', h4⟩
    have h3 : SqL K H1 l (ns.map V.int) := SqL.of h3'
    k_updF
    refine WP.ixL (SqL.of h1) WP.at2 ?_
    k_updF
    refine WP.br (fun c => ?_) (fun c => ?_)
    · k_updF
      refine WP.ixL (SqL.of h1) WP.at2 ?_
      k_updF
      refine WP.intI ?_
      k_updF
      refine WP.iC hm ?_
      k_updF
      refine WP.ixL (SqL.of h1) WP.at2 ?_
      k_updF
      refine WP.iC (WP.Bt.d' hm bm) ?_
      k_updF
      refine WP.setL h1 rfl ?_
      k_updF
      exact k _ _ (Int.emod_nonneg _ (by omega)) (Int.emod_lt_of_pos _ hm) (s1.trans WP.Sx.upd) ⟨pos, _, mix, by rw [upd_same]; rfl, h2, WP.Sx.upd l _ h2 h3', h4⟩
    · k_updF
      refine WP.ixL (SqL.of h1) WP.at3 ?_
      k_updF
      refine WP.iC (.inr (by decide)) ?_
      k_updF
      refine WP.intI ?_
      k_updF
      refine WP.iC (by decide) ?_
      k_updF
      refine WP.setL h1 rfl ?_
      k_updF
      refine WP.ixL (SqL.of upd_same) WP.at3 ?_
      k_updF
      refine WP.iC ⟨by decide, by decide⟩ ?_
      k_updF
      refine WP.intI ?_
      k_updF
      refine WP.iC hm ?_
      exact k _ _ (Int.emod_nonneg _ (by omega)) (Int.emod_lt_of_pos _ hm) (s1.trans WP.Sx.upd) ⟨pos, cur, _, by rw [upd_same]; rfl, h2, WP.Sx.upd l _ h2 h3', h4⟩
end
abbrev s__law_block : Stmt := top 8
abbrev N__law_block : List Str := ["draws", "many", "at", "count", "kind", "target", "number", "more", "low", "rows"]
theorem sc__law_block : FnScope N__law_block ["draws", "many", "at", "count"] (defScope s__law_block) := ⟨rfl, rfl, rfl, by decide +kernel, rfl, by decide +kernel, by decide +kernel⟩
/-- a list's items are these rows -/
inductive RL (K : PySem.W.Frag) (H : Hp) : List V → List MFw.R → Prop
  | nil : RL K H [] []
  | cons {a : Addr} {xs : List V} {r : MFw.R} {rs : List MFw.R} : SqT K H a r.row → RL K H xs rs → RL K H (.ref a :: xs) (r :: rs)
theorem RL.map {K : PySem.W.Frag} {H H' : Hp} (e : ∀ a xs, SqT K H a xs → SqT K H' a xs) {xs : List V} {rs : List MFw.R} (h : RL K H xs rs) : RL K H' xs rs := by
  induction h with
  | nil => exact .nil
  | cons h _ ih => exact .cons (e _ _ h) ih
theorem RL.same {K : PySem.W.Frag} {H H' : Hp} (e : Same H H') {xs : List V} {rs : List MFw.R} (h : RL K H xs rs) : RL K H' xs rs := h.map fun _ _ z => WP.sqt e z
theorem RL.len {K : PySem.W.Frag} {H : Hp} {xs : List V} {rs : List MFw.R} (h : RL K H xs rs) : xs.length = rs.length := by
  induction h with
  | nil => rfl
  | cons _ _ ih => rw [List.length_cons, List.length_cons, ih]
theorem RL.app {K : PySem.W.Frag} {H : Hp} {xs ys : List V} {rs ss : List MFw.R} (h : RL K H xs rs) (h2 : RL K H ys ss) : RL K H (xs ++ ys) (rs ++ ss) := by
  induction h with
  | nil => exact h2
  | cons z _ ih => exact .cons z ih
theorem RL.at {K : PySem.W.Frag} {H : Hp} {xs : List V} {rs : List MFw.R} (h : RL K H xs rs) : ∀ (i : Nat) (r : MFw.R), rs[i]? = some r → ∃ a, xs[i]? = some (.ref a) ∧ SqT K H a r.row := by
  induction h with
  | nil => intro i r h; cases h
  | cons z _ ih =>
    intro i r h
    cases i with
    | zero => cases h; exact ⟨_, rfl, z⟩
    | succ i => exact ih i r (by simpa using h)
/-- a row's data -/
def Fl (r : MFw.R) : Prop := ∃ ds : List PyData, (∀ (K : PySem.W.Frag) (H : Hp), DpAll K H r.row ds) ∧ PyData.canLayAll0 ds = true ∧ PyData.depthAll ds = 0
/-- a row of a block -/
structure BOk (many count : Nat) (r : MFw.R) : Prop where
  f : Fl r
  o : r.Ok
  j : r.k = "jump" → r.a ≤ many
  z : r.k = "zero" → r.a ≤ many
  c : r.k = "call" → r.a ≤ r.b ∧ r.b < count
theorem BOk.oth {many count : Nat} {k : Str} {vs : List V} (f : Fl ⟨k, 0, 0, vs⟩) (h : k ≠ "jump" ∧ k ≠ "zero" ∧ k ≠ "call" := by decide +kernel) : BOk many count ⟨k, 0, 0, vs⟩ :=
  ⟨f, ⟨fun z => absurd z h.1, fun z => absurd z h.2.1, fun z => absurd z h.2.2⟩, fun z => absurd z h.1, fun z => absurd z h.2.1, fun z => absurd z h.2.2⟩
theorem fl0 {k : Str} {a b : Nat} (h : PyData.strOk k = true := by decide +kernel) : Fl ⟨k, a, b, []⟩ := ⟨[.str k], fun _ _ => .cons (.str _) .nil, by simp [PyData.canLayAll0, PyData.canLay0, h], rfl⟩
theorem fl1 {k : Str} {a b : Nat} {i : Int} (h : PyData.strOk k = true := by decide +kernel) : Fl ⟨k, a, b, [.int i]⟩ := ⟨[.str k, .int i], fun _ _ => .cons (.str _) (.cons (.int _) .nil), by simp [PyData.canLayAll0, PyData.canLay0, h], rfl⟩
theorem fl2 {k : Str} {a b : Nat} {i j : Int} (h : PyData.strOk k = true := by decide +kernel) : Fl ⟨k, a, b, [.int i, .int j]⟩ := ⟨[.str k, .int i, .int j], fun _ _ => .cons (.str _) (.cons (.int _) (.cons (.int _) .nil)), by simp [PyData.canLayAll0, PyData.canLay0, h], rfl⟩
theorem flS {k z : Str} {a b : Nat} (h : PyData.strOk k = true := by decide +kernel) (h2 : PyData.strOk z = true := by decide +kernel) : Fl ⟨k, a, b, [.str z]⟩ := ⟨[.str k, .str z], fun _ _ => .cons (.str _) (.cons (.str _) .nil), by simp [PyData.canLayAll0, PyData.canLay0, h, h2], rfl⟩
theorem nJC : ¬ (("jump" : Str) = "call") := by decide +kernel
theorem nZC : ¬ (("zero" : Str) = "call") := by decide +kernel
theorem BOk.ju {many count t : Nat} (h : t ≤ many) : BOk many count ⟨"jump", t, 0, [.int (t : Int)]⟩ :=
  ⟨fl1, ⟨fun _ => rfl, fun _ => rfl, fun z => absurd z nJC⟩, fun _ => h, fun _ => h, fun z => absurd z nJC⟩
theorem BOk.ze {many count t : Nat} (h : t ≤ many) : BOk many count ⟨"zero", t, 0, [.int (t : Int)]⟩ :=
  ⟨fl1, ⟨fun _ => rfl, fun _ => rfl, fun z => absurd z nZC⟩, fun _ => h, fun _ => h, fun z => absurd z nZC⟩
theorem BOk.ca {many count a b : Nat} (h : a ≤ b) (h2 : b < count) : BOk many count ⟨"call", a, b, [.int (a : Int), .int (b : Int)]⟩ :=
  ⟨fl2, ⟨fun z => absurd z.symm nJC, fun z => absurd z.symm nZC, fun _ => rfl⟩, fun z => absurd z.symm nJC, fun z => absurd z.symm nZC, fun _ => ⟨h, h2⟩⟩
open MFw in
def sp__law_block (K : PySem.W.Frag) (mg : WP.MG) : Sp := fun vs H Q _ => ∃ (d : Addr) (ns : DZ) (many at' count : Nat), vs = [.ref d, .int (many : Int), .int (at' : Int), .int (count : Int)] ∧ many ≤ 9 ∧ 1 ≤ count ∧ count ≤ 4 ∧ DS K H d ns ∧
  ∀ (l : Addr) (H' : Hp) (xs : List V) (bs : List R), H l = none → l ≠ d → WP.Sx d H H' → DS K H' d ns → H' l = some (.lst xs) → RL K H' xs bs → bs.length ≤ 6 → (∀ r ∈ bs, BOk many count r) → Q (.ref l) H'
section
variable {P : Program} {w : World} {K : PySem.W.Frag} {mg : Str → Option Value} {base : Heap}
theorem ok__law_block {f : Addr} {fd : FuncData} (F : Fun K "_law_block" "_law_block" s__law_block f fd) (B : Blt w K mg) (c__law_draw : WP.Callee P w K mg base CX0 1 "_law_draw" ["draws", "limit"] (sp__law_draw K mg)) : FnOk P w K mg base CX0 2 f fd ["draws", "many", "at", "count"] (sp__law_block K mg) := by
  refine F.ok sc__law_block (fun vs H Q E h => ?_) (fun cdv A outer s H vs Q E hr h => ?_)
  · first | (obtain ⟨_, rfl, _⟩ := h; rfl) | (obtain ⟨_, _, rfl, _⟩ := h; rfl) | (obtain ⟨_, _, _, rfl, _⟩ := h; rfl) | (obtain ⟨_, _, _, _, rfl, _⟩ := h; rfl) | (obtain ⟨_, _, _, _, _, rfl, _⟩ := h; rfl) | (obtain ⟨_, _, _, _, _, _, rfl, _⟩ := h; rfl) | (obtain ⟨_, _, _, _, _, _, _, rfl, _⟩ := h; rfl) | (obtain ⟨_, _, _, _, _, _, _, _, rfl, _⟩ := h; rfl) | (obtain ⟨rfl, _⟩ := h; rfl)
  · obtain ⟨d, ns, many, at', count, rfl, hm, hc1, hc4, hd, k⟩ := h
    refine ⟨_, (pss_cons (ps_set (i := 4) sc__law_block.nd rfl (Or.inl rfl) (WP.pe_callC c__law_draw hr rfl pass0 (WP.pa_consN (pv 0) (WP.pa_consN pe_int pa_nil))))
      (pss_cons (ps_set (i := 5) sc__law_block.nd rfl (Or.inl rfl) (WP.pe_callC c__law_draw hr rfl pass0 (WP.pa_consN (pv 0) (WP.pa_consN (pe_op op_add (pv 1) pe_int) pa_nil))))
      (pss_cons (ps_set (i := 6) sc__law_block.nd rfl (Or.inl rfl) (pe_op op_sub (WP.pe_callC c__law_draw hr rfl pass0 (WP.pa_consN (pv 0) (WP.pa_consN pe_int pa_nil))) pe_int))
      (pss_cons (ps_set (i := 7) sc__law_block.nd rfl (Or.inl rfl) (WP.pe_callC c__law_draw hr rfl pass0 (WP.pa_consN (pv 0) (WP.pa_consN pe_int pa_nil))))
      (pss_cons (ps_if (pt_cmpR op_eq (pv 4) pe_int (nomark _)) (pss_one (ps_ret (pe_lst (WP.pa_consN (pe_tup (WP.pa_consN pe_str (WP.pa_consN (pe_ix ix_list (pe_lst (WP.pa_consN pe_int (WP.pa_consN pe_int (WP.pa_consN pe_int (WP.pa_consN (pe_op op_pow pe_int pe_int) pa_nil))))) (pv 7) (fun _ _ => rfl)) pa_nil))) pa_nil)))) pss_nil)
      (pss_cons (ps_if (pt_cmpR op_eq (pv 4) pe_int (nomark _)) (pss_one (ps_ret (pe_lst (WP.pa_consN (pe_tup (WP.pa_consN pe_str (WP.pa_consN pe_int pa_nil))) (WP.pa_consN (pe_tup (WP.pa_consN pe_str (WP.pa_consN pe_int pa_nil))) (WP.pa_consN (pe_tup (WP.pa_consN pe_str pa_nil)) pa_nil)))))) pss_nil)
      (pss_cons (ps_if (pt_cmpR op_eq (pv 4) pe_int (nomark _)) (pss_one (ps_ret (pe_lst (WP.pa_consN (pe_tup (WP.pa_consN pe_str (WP.pa_consN (pv 6) pa_nil))) (WP.pa_consN (pe_tup (WP.pa_consN pe_str (WP.pa_consN (pv 7) pa_nil))) (WP.pa_consN (pe_tup (WP.pa_consN pe_str pa_nil)) pa_nil)))))) pss_nil)
      (pss_cons (ps_if (pt_cmpR op_eq (pv 4) pe_int (nomark _)) (pss_one (ps_ret (pe_lst (WP.pa_consN (pe_tup (WP.pa_consN pe_str (WP.pa_consN pe_int pa_nil))) (WP.pa_consN (pe_tup (WP.pa_consN pe_str (WP.pa_consN pe_int pa_nil))) (WP.pa_consN (pe_tup (WP.pa_consN pe_str (WP.pa_consN pe_int pa_nil))) (WP.pa_consN (pe_tup (WP.pa_consN pe_str (WP.pa_consN (pv 5) pa_nil))) pa_nil))))))) pss_nil)
      (pss_cons (ps_if (pt_cmpR op_eq (pv 4) pe_int (nomark _)) (pss_one (ps_ret (pe_lst (WP.pa_consN (pe_tup (WP.pa_consN pe_str (WP.pa_consN pe_int pa_nil))) (WP.pa_consN (pe_tup (WP.pa_consN pe_str (WP.pa_consN (pv 6) pa_nil))) (WP.pa_consN (pe_tup (WP.pa_consN pe_str (WP.pa_consN (pe_ix ix_list (pe_lst (WP.pa_consN pe_str (WP.pa_consN pe_str (WP.pa_consN pe_str (WP.pa_consN pe_str pa_nil))))) (pv 7) (fun _ _ => rfl)) pa_nil))) (WP.pa_consN (pe_tup (WP.pa_consN pe_str (WP.pa_consN (pv 5) pa_nil))) pa_nil))))))) pss_nil)
      (pss_cons (ps_if (pt_cmpR op_eq (pv 4) pe_int (nomark _)) (pss_one (ps_ret (pe_lst (WP.pa_consN (pe_tup (WP.pa_consN pe_str (WP.pa_consN pe_int pa_nil))) (WP.pa_consN (pe_tup (WP.pa_consN pe_str (WP.pa_consN (pv 5) pa_nil))) pa_nil))))) pss_nil)
      (pss_cons (ps_if (pt_cmpR op_eq (pv 4) pe_int (nomark _)) (pss_one (ps_ret (pe_lst (WP.pa_consN (pe_ifExp (pt_cmpR op_eq (pv 7) pe_int (nomark _)) (pe_tup (WP.pa_consN pe_str (WP.pa_consN pe_str pa_nil))) (pe_tup (WP.pa_consN pe_str (WP.pa_consN (WP.pe_callC c__law_draw hr rfl pass0 (WP.pa_consN (pv 0) (WP.pa_consN (pv 3) pa_nil))) pa_nil)))) pa_nil)))) pss_nil)
      (pss_cons (ps_if (pt_cmpR op_eq (pv 4) pe_int (nomark _)) (pss_cons (ps_set (i := 8) sc__law_block.nd rfl (Or.inl rfl) (WP.pe_callC c__law_draw hr rfl pass0 (WP.pa_consN (pv 0) (WP.pa_consN (pv 3) pa_nil))))
      (pss_one (ps_ret (pe_lst (WP.pa_consN (pe_tup (WP.pa_consN pe_str (WP.pa_consN pe_int pa_nil))) (WP.pa_consN (pe_tup (WP.pa_consN pe_str (WP.pa_consN (pv 8) (WP.pa_consN (pe_op op_add (pv 8) (WP.pe_callC c__law_draw hr rfl pass0 (WP.pa_consN (pv 0) (WP.pa_consN (pe_op op_sub (pv 3) (pv 8)) pa_nil)))) pa_nil)))) pa_nil)))))) pss_nil)
      (pss_cons (ps_if (pt_cmpR op_eq (pv 4) pe_int (nomark _)) (pss_cons (ps_set (i := 9) sc__law_block.nd rfl (Or.inl rfl) (pe_lst (WP.pa_consN (pe_tup (WP.pa_consN pe_str (WP.pa_consN (pv 6) pa_nil))) (WP.pa_consN (pe_tup (WP.pa_consN pe_str (WP.pa_consN (pv 7) pa_nil))) (WP.pa_consN (pe_tup (WP.pa_consN (pe_ix ix_list (pe_lst (WP.pa_consN pe_str (WP.pa_consN pe_str (WP.pa_consN pe_str pa_nil)))) (pe_op op_mod (pe_callTy WP.c_int1 (by rfl) B.b_int (by decide +kernel) (WP.pa_consN (pv 5) pa_nil)) pe_int) (fun _ _ => rfl)) pa_nil)) (WP.pa_consN (pe_tup (WP.pa_consN pe_str (WP.pa_consN (pv 7) pa_nil))) pa_nil))))))
      (pss_one (ps_ret (pe_op op_cat (pv 9) (pe_lst (WP.pa_consN (pe_tup (WP.pa_consN pe_str (WP.pa_consN pe_int pa_nil))) (WP.pa_consN (pe_tup (WP.pa_consN pe_str pa_nil)) pa_nil))))))) pss_nil)
      (pss_one (ps_ret (pe_ifExp (pt_cmpR op_gt (pv 5) (pv 2) (nomark _)) (pe_lst (WP.pa_consN (pe_tup (WP.pa_consN pe_str (WP.pa_consN (pv 5) pa_nil))) pa_nil)) (pe_lst (WP.pa_consN (pe_tup (WP.pa_consN pe_str (WP.pa_consN pe_int pa_nil))) (WP.pa_consN (pe_tup (WP.pa_consN pe_str pa_nil)) (WP.pa_consN (pe_tup (WP.pa_consN pe_str pa_nil)) pa_nil)))))))))))))))))))), ?_⟩
    k_updF
    refine ⟨d, ns, _, rfl, by decide, WP.bt8 (by decide), hd, fun kind H1 k0 k1 s1 hd1 => ?_⟩
    k_updF
    refine ⟨d, ns, _, rfl, by omega, WP.bt8 (by omega), hd1, fun tgt H2 t0 t1 s2 hd2 => ?_⟩
    k_updF
    refine ⟨d, ns, _, rfl, by decide, WP.bt8 (by decide), hd2, fun num H3 n0 n1 s3 hd3 => ?_⟩
    k_updF
    refine ⟨d, ns, _, rfl, by decide, WP.bt8 (by decide), hd3, fun more H4 m0 m1 s4 hd4 => ?_⟩
    have s : WP.Sx d H H4 := ((s1.trans s2).trans s3).trans s4
    obtain ⟨t, rfl⟩ : ∃ t : Nat, tgt = (t : Int) := ⟨tgt.toNat, by omega⟩
    have ht : t ≤ many := by omega
    clear s1 s2 s3 s4 hd hd1 hd2 hd3 t0 t1 n0 n1
    k_updF
    have fin : ∀ (G : Hp) (l : Addr) (xs : List V) (bs : List MFw.R), WP.Sx d H G → DS K G d ns → G l = none → RL K G xs bs → bs.length ≤ 6 → (∀ r ∈ bs, BOk many count r) → Q (.ref l) (upd G l (.lst xs)) := fun G l xs bs s D hl hr hb ho => by
      have nl := (D.new hl).1
      exact k l _ xs bs (sx_free s nl hl) nl (s.trans (.of (WP.same_new hl))) (D.same (WP.same_new hl)) upd_same (hr.same (WP.same_new hl)) hb ho
    clear k
    generalize H4 = G0 at *
    have s0 := s
    have D0 := hd4
    clear s hd4
    refine WP.br (fun c => ?_) (fun c => ?_)
    · k_updF
      refine WP.iC ⟨by decide, by decide, by decide⟩ ?_
      k_updF
      refine ⟨WP.sz (show 4 ≤ 1000000 by decide), fun q1 w1 => ?_⟩
      obtain ⟨x, hx⟩ : ∃ x : Int, atI [V.int 1, .int 1, .int 2, .int (10 ^ (9 : Int).toNat)] more = some (.int x) := by
        rcases (show more = 0 ∨ more = 1 ∨ more = 2 ∨ more = 3 by omega) with rfl | rfl | rfl | rfl <;> exact ⟨_, rfl⟩
      k_updF
      refine WP.ixL (SqL.of upd_same) hx ?_
      generalize hG : upd G0 q1 _ = G1
      have s1 : WP.Sx d H G1 := s0.trans (.of (hG ▸ WP.same_new w1))
      have D1 : DS K G1 d ns := D0.same (hG ▸ WP.same_new w1)
      clear hG
      k_updF
      refine ⟨WP.sz (show 2 ≤ 1000000 by decide), fun p2 h2 => ?_⟩
      generalize hG : upd G1 p2 _ = G2
      have f2 : Same G1 G2 := hG ▸ WP.same_new h2
      have g2 : SqT K G2 p2 [.str "step", .int x] := by rw [← hG]; exact SqT.of upd_same
      clear hG
      have s2 := s1.trans (WP.Sx.of f2)
      have D2 := D1.same f2
      k_updF
      refine ⟨WP.sz (show 1 ≤ 1000000 by decide), fun l hl => ?_⟩
      k_updF
      exact fin G2 l _ [⟨"step", 0, 0, [.int x]⟩] s2 D2 hl (.cons g2 .nil) (by show 1 ≤ 6; decide) (List.forall_mem_cons.mpr ⟨.oth fl1, (fun _ h => nomatch h)⟩)
    k_updF
    refine WP.br (fun c => ?_) (fun c => ?_)
    · k_updF
      refine ⟨WP.sz (show 2 ≤ 1000000 by decide), fun p1 h1 => ?_⟩
      generalize hG : upd G0 p1 _ = G1
      have f1 : Same G0 G1 := hG ▸ WP.same_new h1
      have g1 : SqT K G1 p1 [.str "at", .int 0] := by rw [← hG]; exact SqT.of upd_same
      clear hG
      have s1 := s0.trans (WP.Sx.of f1)
      have D1 := D0.same f1
      k_updF
      refine ⟨WP.sz (show 2 ≤ 1000000 by decide), fun p2 h2 => ?_⟩
      generalize hG : upd G1 p2 _ = G2
      have f2 : Same G1 G2 := hG ▸ WP.same_new h2
      have g2 : SqT K G2 p2 [.str "show-text", .int 2] := by rw [← hG]; exact SqT.of upd_same
      clear hG
      have s2 := s1.trans (WP.Sx.of f2)
      have D2 := D1.same f2
      have g1 := WP.sqt f2 g1
      k_updF
      refine ⟨WP.sz (show 1 ≤ 1000000 by decide), fun p3 h3 => ?_⟩
      generalize hG : upd G2 p3 _ = G3
      have f3 : Same G2 G3 := hG ▸ WP.same_new h3
      have g3 : SqT K G3 p3 [.str "show-line"] := by rw [← hG]; exact SqT.of upd_same
      clear hG
      have s3 := s2.trans (WP.Sx.of f3)
      have D3 := D2.same f3
      have g1 := WP.sqt f3 g1
      have g2 := WP.sqt f3 g2
      k_updF
      refine ⟨WP.sz (show 3 ≤ 1000000 by decide), fun l hl => ?_⟩
      k_updF
      exact fin G3 l _ [⟨"at", 0, 0, [.int 0]⟩, ⟨"show-text", 0, 0, [.int 2]⟩, ⟨"show-line", 0, 0, []⟩] s3 D3 hl (.cons g1 (.cons g2 (.cons g3 .nil))) (by show 3 ≤ 6; decide) (List.forall_mem_cons.mpr ⟨.oth fl1, (List.forall_mem_cons.mpr ⟨.oth fl1, (List.forall_mem_cons.mpr ⟨.oth fl0, (fun _ h => nomatch h)⟩)⟩)⟩)
    k_updF
    refine WP.br (fun c => ?_) (fun c => ?_)
    · k_updF
      refine ⟨WP.sz (show 2 ≤ 1000000 by decide), fun p1 h1 => ?_⟩
      generalize hG : upd G0 p1 _ = G1
      have f1 : Same G0 G1 := hG ▸ WP.same_new h1
      have g1 : SqT K G1 p1 [.str "push", .int (num - 2)] := by rw [← hG]; exact SqT.of upd_same
      clear hG
      have s1 := s0.trans (WP.Sx.of f1)
      have D1 := D0.same f1
      k_updF
      refine ⟨WP.sz (show 2 ≤ 1000000 by decide), fun p2 h2 => ?_⟩
      generalize hG : upd G1 p2 _ = G2
      have f2 : Same G1 G2 := hG ▸ WP.same_new h2
      have g2 : SqT K G2 p2 [.str "show-number", .int more] := by rw [← hG]; exact SqT.of upd_same
      clear hG
      have s2 := s1.trans (WP.Sx.of f2)
      have D2 := D1.same f2
      have g1 := WP.sqt f2 g1
      k_updF
      refine ⟨WP.sz (show 1 ≤ 1000000 by decide), fun p3 h3 => ?_⟩
      generalize hG : upd G2 p3 _ = G3
      have f3 : Same G2 G3 := hG ▸ WP.same_new h3
      have g3 : SqT K G3 p3 [.str "show-line"] := by rw [← hG]; exact SqT.of upd_same
      clear hG
      have s3 := s2.trans (WP.Sx.of f3)
      have D3 := D2.same f3
      have g1 := WP.sqt f3 g1
      have g2 := WP.sqt f3 g2
      k_updF
      refine ⟨WP.sz (show 3 ≤ 1000000 by decide), fun l hl => ?_⟩
      k_updF
      exact fin G3 l _ [⟨"push", 0, 0, [.int (num - 2)]⟩, ⟨"show-number", 0, 0, [.int more]⟩, ⟨"show-line", 0, 0, []⟩] s3 D3 hl (.cons g1 (.cons g2 (.cons g3 .nil))) (by show 3 ≤ 6; decide) (List.forall_mem_cons.mpr ⟨.oth fl1, (List.forall_mem_cons.mpr ⟨.oth fl1, (List.forall_mem_cons.mpr ⟨.oth fl0, (fun _ h => nomatch h)⟩)⟩)⟩)
    k_updF
    refine WP.br (fun c => ?_) (fun c => ?_)
    · k_updF
      refine ⟨WP.sz (show 2 ≤ 1000000 by decide), fun p1 h1 => ?_⟩
      generalize hG : upd G0 p1 _ = G1
      have f1 : Same G0 G1 := hG ▸ WP.same_new h1
      have g1 : SqT K G1 p1 [.str "step", .int 1] := by rw [← hG]; exact SqT.of upd_same
      clear hG
      have s1 := s0.trans (WP.Sx.of f1)
      have D1 := D0.same f1
      k_updF
      refine ⟨WP.sz (show 2 ≤ 1000000 by decide), fun p2 h2 => ?_⟩
      generalize hG : upd G1 p2 _ = G2
      have f2 : Same G1 G2 := hG ▸ WP.same_new h2
      have g2 : SqT K G2 p2 [.str "at", .int 0] := by rw [← hG]; exact SqT.of upd_same
      clear hG
      have s2 := s1.trans (WP.Sx.of f2)
      have D2 := D1.same f2
      have g1 := WP.sqt f2 g1
      k_updF
      refine ⟨WP.sz (show 2 ≤ 1000000 by decide), fun p3 h3 => ?_⟩
      generalize hG : upd G2 p3 _ = G3
      have f3 : Same G2 G3 := hG ▸ WP.same_new h3
      have g3 : SqT K G3 p3 [.str "digits", .int 2] := by rw [← hG]; exact SqT.of upd_same
      clear hG
      have s3 := s2.trans (WP.Sx.of f3)
      have D3 := D2.same f3
      have g1 := WP.sqt f3 g1
      have g2 := WP.sqt f3 g2
      k_updF
      refine ⟨WP.sz (show 2 ≤ 1000000 by decide), fun p4 h4 => ?_⟩
      generalize hG : upd G3 p4 _ = G4
      have f4 : Same G3 G4 := hG ▸ WP.same_new h4
      have g4 : SqT K G4 p4 [.str "zero", .int (t : Int)] := by rw [← hG]; exact SqT.of upd_same
      clear hG
      have s4 := s3.trans (WP.Sx.of f4)
      have D4 := D3.same f4
      have g1 := WP.sqt f4 g1
      have g2 := WP.sqt f4 g2
      have g3 := WP.sqt f4 g3
      k_updF
      refine ⟨WP.sz (show 4 ≤ 1000000 by decide), fun l hl => ?_⟩
      k_updF
      exact fin G4 l _ [⟨"step", 0, 0, [.int 1]⟩, ⟨"at", 0, 0, [.int 0]⟩, ⟨"digits", 0, 0, [.int 2]⟩, ⟨"zero", t, 0, [.int (t : Int)]⟩] s4 D4 hl (.cons g1 (.cons g2 (.cons g3 (.cons g4 .nil)))) (by show 4 ≤ 6; decide) (List.forall_mem_cons.mpr ⟨.oth fl1, (List.forall_mem_cons.mpr ⟨.oth fl1, (List.forall_mem_cons.mpr ⟨.oth fl1, (List.forall_mem_cons.mpr ⟨.ze ht, (fun _ h => nomatch h)⟩)⟩)⟩)⟩)
    k_updF
    refine WP.br (fun c => ?_) (fun c => ?_)
    · k_updF
      refine ⟨WP.sz (show 2 ≤ 1000000 by decide), fun p1 h1 => ?_⟩
      generalize hG : upd G0 p1 _ = G1
      have f1 : Same G0 G1 := hG ▸ WP.same_new h1
      have g1 : SqT K G1 p1 [.str "step", .int 1] := by rw [← hG]; exact SqT.of upd_same
      clear hG
      have s1 := s0.trans (WP.Sx.of f1)
      have D1 := D0.same f1
      k_updF
      refine ⟨WP.sz (show 2 ≤ 1000000 by decide), fun p2 h2 => ?_⟩
      generalize hG : upd G1 p2 _ = G2
      have f2 : Same G1 G2 := hG ▸ WP.same_new h2
      have g2 : SqT K G2 p2 [.str "push", .int (num - 2)] := by rw [← hG]; exact SqT.of upd_same
      clear hG
      have s2 := s1.trans (WP.Sx.of f2)
      have D2 := D1.same f2
      have g1 := WP.sqt f2 g1
      k_updF
      refine ⟨WP.sz (show 4 ≤ 1000000 by decide), fun q1 w1 => ?_⟩
      obtain ⟨x, hx, hxo⟩ : ∃ x : Str, atI [V.str "=", .str "<>", .str "<", .str ">="] more = some (.str x) ∧ PyData.strOk x = true := by
        rcases (show more = 0 ∨ more = 1 ∨ more = 2 ∨ more = 3 by omega) with rfl | rfl | rfl | rfl
        · exact ⟨_, rfl, by decide +kernel⟩
        · exact ⟨_, rfl, by decide +kernel⟩
        · exact ⟨_, rfl, by decide +kernel⟩
        · exact ⟨_, rfl, by decide +kernel⟩
      k_updF
      refine WP.ixL (SqL.of upd_same) hx ?_
      generalize hG : upd G2 q1 _ = G3
      have f3 : Same G2 G3 := hG ▸ WP.same_new w1
      have s3 : WP.Sx d H G3 := s2.trans (.of f3)
      have D3 : DS K G3 d ns := D2.same f3
      have g1 := WP.sqt f3 g1
      have g2 := WP.sqt f3 g2
      clear hG
      k_updF
      refine ⟨WP.sz (show 2 ≤ 1000000 by decide), fun p4 h4 => ?_⟩
      generalize hG : upd G3 p4 _ = G4
      have f4 : Same G3 G4 := hG ▸ WP.same_new h4
      have g4 : SqT K G4 p4 [.str "test", .str x] := by rw [← hG]; exact SqT.of upd_same
      clear hG
      have s4 := s3.trans (WP.Sx.of f4)
      have D4 := D3.same f4
      have g1 := WP.sqt f4 g1
      have g2 := WP.sqt f4 g2
      k_updF
      refine ⟨WP.sz (show 2 ≤ 1000000 by decide), fun p5 h5 => ?_⟩
      generalize hG : upd G4 p5 _ = G5
      have f5 : Same G4 G5 := hG ▸ WP.same_new h5
      have g5 : SqT K G5 p5 [.str "zero", .int (t : Int)] := by rw [← hG]; exact SqT.of upd_same
      clear hG
      have s5 := s4.trans (WP.Sx.of f5)
      have D5 := D4.same f5
      have g1 := WP.sqt f5 g1
      have g2 := WP.sqt f5 g2
      have g4 := WP.sqt f5 g4
      k_updF
      refine ⟨WP.sz (show 4 ≤ 1000000 by decide), fun l hl => ?_⟩
      k_updF
      exact fin G5 l _ [⟨"step", 0, 0, [.int 1]⟩, ⟨"push", 0, 0, [.int (num - 2)]⟩, ⟨"test", 0, 0, [.str x]⟩, ⟨"zero", t, 0, [.int (t : Int)]⟩] s5 D5 hl (.cons g1 (.cons g2 (.cons g4 (.cons g5 .nil)))) (by show 4 ≤ 6; decide) (List.forall_mem_cons.mpr ⟨.oth fl1, (List.forall_mem_cons.mpr ⟨.oth fl1, (List.forall_mem_cons.mpr ⟨.oth (flS (by decide +kernel) hxo), (List.forall_mem_cons.mpr ⟨.ze ht, (fun _ h => nomatch h)⟩)⟩)⟩)⟩)
    k_updF
    refine WP.br (fun c => ?_) (fun c => ?_)
    · k_updF
      refine ⟨WP.sz (show 2 ≤ 1000000 by decide), fun p1 h1 => ?_⟩
      generalize hG : upd G0 p1 _ = G1
      have f1 : Same G0 G1 := hG ▸ WP.same_new h1
      have g1 : SqT K G1 p1 [.str "step", .int 1] := by rw [← hG]; exact SqT.of upd_same
      clear hG
      have s1 := s0.trans (WP.Sx.of f1)
      have D1 := D0.same f1
      k_updF
      refine ⟨WP.sz (show 2 ≤ 1000000 by decide), fun p2 h2 => ?_⟩
      generalize hG : upd G1 p2 _ = G2
      have f2 : Same G1 G2 := hG ▸ WP.same_new h2
      have g2 : SqT K G2 p2 [.str "jump", .int (t : Int)] := by rw [← hG]; exact SqT.of upd_same
      clear hG
      have s2 := s1.trans (WP.Sx.of f2)
      have D2 := D1.same f2
      have g1 := WP.sqt f2 g1
      k_updF
      refine ⟨WP.sz (show 2 ≤ 1000000 by decide), fun l hl => ?_⟩
      k_updF
      exact fin G2 l _ [⟨"step", 0, 0, [.int 1]⟩, ⟨"jump", t, 0, [.int (t : Int)]⟩] s2 D2 hl (.cons g1 (.cons g2 .nil)) (by show 2 ≤ 6; decide) (List.forall_mem_cons.mpr ⟨.oth fl1, (List.forall_mem_cons.mpr ⟨.ju ht, (fun _ h => nomatch h)⟩)⟩)
    k_updF
    refine WP.br (fun c => ?_) (fun c => ?_)
    · k_updF
      refine WP.br (fun c6 => ?_) (fun c6 => ?_)
      · k_updF
        refine ⟨WP.sz (show 2 ≤ 1000000 by decide), fun p1 h1 => ?_⟩
        generalize hG : upd G0 p1 _ = G1
        have f1 : Same G0 G1 := hG ▸ WP.same_new h1
        have g1 : SqT K G1 p1 [.str "halt", .str "stop"] := by rw [← hG]; exact SqT.of upd_same
        clear hG
        have s1 := s0.trans (WP.Sx.of f1)
        have D1 := D0.same f1
        k_updF
        refine ⟨WP.sz (show 1 ≤ 1000000 by decide), fun l hl => ?_⟩
        k_updF
        exact fin G1 l _ [⟨"halt", 0, 0, [.str "stop"]⟩] s1 D1 hl (.cons g1 .nil) (by show 1 ≤ 6; decide) (List.forall_mem_cons.mpr ⟨.oth flS, (fun _ h => nomatch h)⟩)
      · k_updF
        refine ⟨d, ns, _, rfl, by omega, WP.bt8 (by omega), D0, fun lv G1 l0 l1 sA D1 => ?_⟩
        have s1 := s0.trans sA
        k_updF
        refine ⟨WP.sz (show 2 ≤ 1000000 by decide), fun p2 h2 => ?_⟩
        generalize hG : upd G1 p2 _ = G2
        have f2 : Same G1 G2 := hG ▸ WP.same_new h2
        have g2 : SqT K G2 p2 [.str "leave", .int lv] := by rw [← hG]; exact SqT.of upd_same
        clear hG
        have s2 := s1.trans (WP.Sx.of f2)
        have D2 := D1.same f2
        k_updF
        refine ⟨WP.sz (show 1 ≤ 1000000 by decide), fun l hl => ?_⟩
        k_updF
        exact fin G2 l _ [⟨"leave", 0, 0, [.int lv]⟩] s2 D2 hl (.cons g2 .nil) (by show 1 ≤ 6; decide) (List.forall_mem_cons.mpr ⟨.oth fl1, (fun _ h => nomatch h)⟩)
    k_updF
    refine WP.br (fun c => ?_) (fun c => ?_)
    · k_updF
      refine ⟨d, ns, _, rfl, by omega, WP.bt8 (by omega), D0, fun low G0' l0 l1 sA D0' => ?_⟩
      clear D0
      have s0' := s0.trans sA
      clear s0
      rename_i _
      obtain ⟨lo, rfl⟩ : ∃ lo : Nat, low = (lo : Int) := ⟨low.toNat, by omega⟩
      generalize G0' = G0 at *
      have s0 := s0'
      have D0 := D0'
      clear s0' D0'
      k_updF
      refine ⟨WP.sz (show 2 ≤ 1000000 by decide), fun p1 h1 => ?_⟩
      generalize hG : upd G0 p1 _ = G1
      have f1 : Same G0 G1 := hG ▸ WP.same_new h1
      have g1 : SqT K G1 p1 [.str "step", .int 1] := by rw [← hG]; exact SqT.of upd_same
      clear hG
      have s1 := s0.trans (WP.Sx.of f1)
      have D1 := D0.same f1
      k_updF
      refine ⟨d, ns, _, rfl, by omega, WP.bt8 (by omega), D1, fun hv G2 h0 h1 sB D2 => ?_⟩
      have s2 := s1.trans sB
      have g1 := D1.tup sB g1
      obtain ⟨hh, rfl⟩ : ∃ hh : Nat, hv = (hh : Int) := ⟨hv.toNat, by omega⟩
      k_updF
      refine ⟨WP.sz (show 3 ≤ 1000000 by decide), fun p3 h3 => ?_⟩
      generalize hG : upd G2 p3 _ = G3
      have f3 : Same G2 G3 := hG ▸ WP.same_new h3
      have g3 : SqT K G3 p3 [.str "call", .int (lo : Int), .int ((lo : Int) + (hh : Int))] := by rw [← hG]; exact SqT.of upd_same
      clear hG
      have s3 := s2.trans (WP.Sx.of f3)
      have D3 := D2.same f3
      have g1 := WP.sqt f3 g1
      k_updF
      refine ⟨WP.sz (show 2 ≤ 1000000 by decide), fun l hl => ?_⟩
      k_updF
      exact fin G3 l _ [⟨"step", 0, 0, [.int 1]⟩, ⟨"call", lo, lo + hh, [.int (lo : Int), .int ((lo + hh : Nat) : Int)]⟩] s3 D3 hl (.cons g1 (.cons g3 .nil)) (by show 2 ≤ 6; decide) (List.forall_mem_cons.mpr ⟨.oth fl1, (List.forall_mem_cons.mpr ⟨.ca (by omega) (by omega), (fun _ h => nomatch h)⟩)⟩)
    k_updF
    refine WP.br (fun c => ?_) (fun c => ?_)
    · k_updF
      refine ⟨WP.sz (show 2 ≤ 1000000 by decide), fun p1 h1 => ?_⟩
      generalize hG : upd G0 p1 _ = G1
      have f1 : Same G0 G1 := hG ▸ WP.same_new h1
      have g1 : SqT K G1 p1 [.str "push", .int (num - 2)] := by rw [← hG]; exact SqT.of upd_same
      clear hG
      have s1 := s0.trans (WP.Sx.of f1)
      have D1 := D0.same f1
      k_updF
      refine ⟨WP.sz (show 2 ≤ 1000000 by decide), fun p2 h2 => ?_⟩
      generalize hG : upd G1 p2 _ = G2
      have f2 : Same G1 G2 := hG ▸ WP.same_new h2
      have g2 : SqT K G2 p2 [.str "push", .int more] := by rw [← hG]; exact SqT.of upd_same
      clear hG
      have s2 := s1.trans (WP.Sx.of f2)
      have D2 := D1.same f2
      have g1 := WP.sqt f2 g1
      k_updF
      refine ⟨WP.sz (show 3 ≤ 1000000 by decide), fun q1 w1 => ?_⟩
      obtain ⟨x, hx, hxo, hxs⟩ : ∃ x : Str, atI [V.str "add", .str "subtract", .str "multiply"] ((t : Int) % 3) = some (.str x) ∧ PyData.strOk x = true ∧ (x ≠ "jump" ∧ x ≠ "zero" ∧ x ≠ "call") := by
        have h1 := Int.emod_nonneg (t : Int) (show (3 : Int) ≠ 0 by decide)
        have h2 := Int.emod_lt_of_pos (t : Int) (show (0 : Int) < 3 by decide)
        generalize (t : Int) % 3 = z at h1 h2
        rcases (show z = 0 ∨ z = 1 ∨ z = 2 by omega) with rfl | rfl | rfl
        · exact ⟨_, rfl, by decide +kernel, by decide +kernel⟩
        · exact ⟨_, rfl, by decide +kernel, by decide +kernel⟩
        · exact ⟨_, rfl, by decide +kernel, by decide +kernel⟩
      k_updF
      refine WP.intI ?_
      k_updF
      refine WP.iC (by decide) ?_
      refine WP.ixL (SqL.of upd_same) hx ?_
      generalize hG : upd G2 q1 _ = G3
      have f3 : Same G2 G3 := hG ▸ WP.same_new w1
      have s3 : WP.Sx d H G3 := s2.trans (.of f3)
      have D3 : DS K G3 d ns := D2.same f3
      have g1 := WP.sqt f3 g1
      have g2 := WP.sqt f3 g2
      clear hG
      k_updF
      refine ⟨WP.sz (show 1 ≤ 1000000 by decide), fun p4 h4 => ?_⟩
      generalize hG : upd G3 p4 _ = G4
      have f4 : Same G3 G4 := hG ▸ WP.same_new h4
      have g4 : SqT K G4 p4 [.str x] := by rw [← hG]; exact SqT.of upd_same
      clear hG
      have s4 := s3.trans (WP.Sx.of f4)
      have D4 := D3.same f4
      have g1 := WP.sqt f4 g1
      have g2 := WP.sqt f4 g2
      k_updF
      refine ⟨WP.sz (show 2 ≤ 1000000 by decide), fun p5 h5 => ?_⟩
      generalize hG : upd G4 p5 _ = G5
      have f5 : Same G4 G5 := hG ▸ WP.same_new h5
      have g5 : SqT K G5 p5 [.str "scale", .int more] := by rw [← hG]; exact SqT.of upd_same
      clear hG
      have s5 := s4.trans (WP.Sx.of f5)
      have D5 := D4.same f5
      have g1 := WP.sqt f5 g1
      have g2 := WP.sqt f5 g2
      have g4 := WP.sqt f5 g4
      k_updF
      refine ⟨WP.sz (show 4 ≤ 1000000 by decide), fun q6 w6 => ?_⟩
      generalize hG : upd G5 q6 _ = G6
      have f6 : Same G5 G6 := hG ▸ WP.same_new w6
      have s6 : WP.Sx d H G6 := s5.trans (.of f6)
      have D6 : DS K G6 d ns := D5.same f6
      have g1 := WP.sqt f6 g1
      have g2 := WP.sqt f6 g2
      have g4 := WP.sqt f6 g4
      have g5 := WP.sqt f6 g5
      have L6 : G6 q6 = some (.lst [.ref p1, .ref p2, .ref p4, .ref p5]) := by rw [← hG]; exact upd_same
      clear hG
      k_updF
      refine ⟨WP.sz (show 2 ≤ 1000000 by decide), fun p7 h7 => ?_⟩
      generalize hG : upd G6 p7 _ = G7
      have f7 : Same G6 G7 := hG ▸ WP.same_new h7
      have g7 : SqT K G7 p7 [.str "scale", .int 1] := by rw [← hG]; exact SqT.of upd_same
      clear hG
      have s7 := s6.trans (WP.Sx.of f7)
      have D7 := D6.same f7
      have g1 := WP.sqt f7 g1
      have g2 := WP.sqt f7 g2
      have g4 := WP.sqt f7 g4
      have g5 := WP.sqt f7 g5
      k_updF
      have L6 := f7 _ _ L6
      refine ⟨WP.sz (show 1 ≤ 1000000 by decide), fun p8 h8 => ?_⟩
      generalize hG : upd G7 p8 _ = G8
      have f8 : Same G7 G8 := hG ▸ WP.same_new h8
      have g8 : SqT K G8 p8 [.str "drop"] := by rw [← hG]; exact SqT.of upd_same
      clear hG
      have s8 := s7.trans (WP.Sx.of f8)
      have D8 := D7.same f8
      have g1 := WP.sqt f8 g1
      have g2 := WP.sqt f8 g2
      have g4 := WP.sqt f8 g4
      have g5 := WP.sqt f8 g5
      have g7 := WP.sqt f8 g7
      k_updF
      have L6 := f8 _ _ L6
      refine ⟨WP.sz (show 2 ≤ 1000000 by decide), fun q9 w9 => ?_⟩
      generalize hG : upd G8 q9 _ = G9
      have f9 : Same G8 G9 := hG ▸ WP.same_new w9
      have s9 : WP.Sx d H G9 := s8.trans (.of f9)
      have D9 : DS K G9 d ns := D8.same f9
      have L9 : G9 q9 = some (.lst [.ref p7, .ref p8]) := by rw [← hG]; exact upd_same
      have L6 := f9 _ _ L6
      clear hG
      have g1 := WP.sqt f9 g1
      have g2 := WP.sqt f9 g2
      have g4 := WP.sqt f9 g4
      have g5 := WP.sqt f9 g5
      have g7 := WP.sqt f9 g7
      have g8 := WP.sqt f9 g8
      refine WP.catLL L6 L9 (by show 4 + 2 ≤ _; decide) (fun l hl => ?_)
      k_updF
      exact fin G9 l [.ref p1, .ref p2, .ref p4, .ref p5, .ref p7, .ref p8] [⟨"push", 0, 0, [.int (num - 2)]⟩, ⟨"push", 0, 0, [.int more]⟩, ⟨x, 0, 0, []⟩, ⟨"scale", 0, 0, [.int more]⟩, ⟨"scale", 0, 0, [.int 1]⟩, ⟨"drop", 0, 0, []⟩] s9 D9 hl (.cons g1 (.cons g2 (.cons g4 (.cons g5 (.cons g7 (.cons g8 .nil)))))) (by show 6 ≤ 6; decide) (List.forall_mem_cons.mpr ⟨.oth fl1, (List.forall_mem_cons.mpr ⟨.oth fl1, (List.forall_mem_cons.mpr ⟨.oth (fl0 hxo) hxs, (List.forall_mem_cons.mpr ⟨.oth fl1, (List.forall_mem_cons.mpr ⟨.oth fl1, (List.forall_mem_cons.mpr ⟨.oth fl0, (fun _ h => nomatch h)⟩)⟩)⟩)⟩)⟩)⟩)
    k_updF
    refine WP.br (fun c9 => ?_) (fun c9 => ?_)
    · k_updF
      refine ⟨WP.sz (show 2 ≤ 1000000 by decide), fun p1 h1 => ?_⟩
      generalize hG : upd G0 p1 _ = G1
      have f1 : Same G0 G1 := hG ▸ WP.same_new h1
      have g1 : SqT K G1 p1 [.str "jump", .int (t : Int)] := by rw [← hG]; exact SqT.of upd_same
      clear hG
      have s1 := s0.trans (WP.Sx.of f1)
      have D1 := D0.same f1
      k_updF
      refine ⟨WP.sz (show 1 ≤ 1000000 by decide), fun l hl => ?_⟩
      k_updF
      exact fin G1 l _ [⟨"jump", t, 0, [.int (t : Int)]⟩] s1 D1 hl (.cons g1 .nil) (by show 1 ≤ 6; decide) (List.forall_mem_cons.mpr ⟨.ju ht, (fun _ h => nomatch h)⟩)
    · k_updF
      refine ⟨WP.sz (show 2 ≤ 1000000 by decide), fun p1 h1 => ?_⟩
      generalize hG : upd G0 p1 _ = G1
      have f1 : Same G0 G1 := hG ▸ WP.same_new h1
      have g1 : SqT K G1 p1 [.str "push", .int 3] := by rw [← hG]; exact SqT.of upd_same
      clear hG
      have s1 := s0.trans (WP.Sx.of f1)
      have D1 := D0.same f1
      k_updF
      refine ⟨WP.sz (show 1 ≤ 1000000 by decide), fun p2 h2 => ?_⟩
      generalize hG : upd G1 p2 _ = G2
      have f2 : Same G1 G2 := hG ▸ WP.same_new h2
      have g2 : SqT K G2 p2 [.str "negate"] := by rw [← hG]; exact SqT.of upd_same
      clear hG
      have s2 := s1.trans (WP.Sx.of f2)
      have D2 := D1.same f2
      have g1 := WP.sqt f2 g1
      k_updF
      refine ⟨WP.sz (show 1 ≤ 1000000 by decide), fun p3 h3 => ?_⟩
      generalize hG : upd G2 p3 _ = G3
      have f3 : Same G2 G3 := hG ▸ WP.same_new h3
      have g3 : SqT K G3 p3 [.str "drop"] := by rw [← hG]; exact SqT.of upd_same
      clear hG
      have s3 := s2.trans (WP.Sx.of f3)
      have D3 := D2.same f3
      have g1 := WP.sqt f3 g1
      have g2 := WP.sqt f3 g2
      k_updF
      refine ⟨WP.sz (show 3 ≤ 1000000 by decide), fun l hl => ?_⟩
      k_updF
      exact fin G3 l _ [⟨"push", 0, 0, [.int 3]⟩, ⟨"negate", 0, 0, []⟩, ⟨"drop", 0, 0, []⟩] s3 D3 hl (.cons g1 (.cons g2 (.cons g3 .nil))) (by show 3 ≤ 6; decide) (List.forall_mem_cons.mpr ⟨.oth fl1, (List.forall_mem_cons.mpr ⟨.oth fl0, (List.forall_mem_cons.mpr ⟨.oth fl0, (fun _ h => nomatch h)⟩)⟩)⟩)
end
abbrev s__law_rows : Stmt := top 9
abbrev N__law_rows : List Str := ["draws", "count", "starts", "rows", "which", "many", "blocks", "places", "at", "block", "row", "k"]
theorem sc__law_rows : FnScope N__law_rows ["draws", "count"] (defScope s__law_rows) := ⟨rfl, rfl, rfl, by decide +kernel, rfl, by decide +kernel, by decide +kernel⟩
def Blk (K : PySem.W.Frag) (H : Hp) (l : Addr) (b : List MFw.R) : Prop := ∃ xs, H l = some (.lst xs) ∧ RL K H xs b
theorem Blk.sx {K : PySem.W.Frag} {H H' : Hp} {d l : Addr} {b : List MFw.R} {ys : List V} (e : WP.Sx d H H') (hd : H d = some (.lst ys)) (n : l ≠ d) (h : Blk K H l b) : Blk K H' l b := by
  obtain ⟨xs, h1, h2⟩ := h
  exact ⟨xs, e _ _ n h1, h2.map fun a zs z => WP.sqtX e hd z⟩
theorem Blk.same {K : PySem.W.Frag} {H H' : Hp} {l : Addr} {b : List MFw.R} (e : Same H H') (h : Blk K H l b) : Blk K H' l b := by
  obtain ⟨xs, h1, h2⟩ := h
  exact ⟨xs, e _ _ h1, h2.same e⟩
/-- a list's items are blocks, at addresses of which N holds -/
inductive BLs (K : PySem.W.Frag) (H : Hp) (N : Addr → Prop) : List V → List (List MFw.R) → Prop
  | nil : BLs K H N [] []
  | cons {l : Addr} {ls : List V} {b : List MFw.R} {bs : List (List MFw.R)} : N l → Blk K H l b → BLs K H N ls bs → BLs K H N (.ref l :: ls) (b :: bs)
theorem BLs.map {K : PySem.W.Frag} {H H' : Hp} {N N' : Addr → Prop} (e : ∀ l b, N l → Blk K H l b → N' l ∧ Blk K H' l b) {ls : List V} {bs : List (List MFw.R)} (h : BLs K H N ls bs) : BLs K H' N' ls bs := by
  induction h with
  | nil => exact .nil
  | cons n z _ ih => exact .cons (e _ _ n z).1 (e _ _ n z).2 ih
theorem BLs.snoc {K : PySem.W.Frag} {H : Hp} {N : Addr → Prop} {ls : List V} {bs : List (List MFw.R)} {l : Addr} {b : List MFw.R} (h : BLs K H N ls bs) (n : N l) (z : Blk K H l b) : BLs K H N (ls ++ [.ref l]) (bs ++ [b]) := by
  induction h with
  | nil => exact .cons n z .nil
  | cons n' z' _ ih => exact .cons n' z' ih
theorem BLs.len {K : PySem.W.Frag} {H : Hp} {N : Addr → Prop} {ls : List V} {bs : List (List MFw.R)} (h : BLs K H N ls bs) : ls.length = bs.length := by
  induction h with
  | nil => rfl
  | cons _ _ _ ih => rw [List.length_cons, List.length_cons, ih]
theorem BLs.at {K : PySem.W.Frag} {H : Hp} {N : Addr → Prop} {ls : List V} {bs : List (List MFw.R)} (h : BLs K H N ls bs) : ∀ (i : Nat) (x : V), ls[i]? = some x → ∃ l b, x = .ref l ∧ bs[i]? = some b ∧ N l ∧ Blk K H l b := by
  induction h with
  | nil => intro i x h; cases h
  | cons n z _ ih =>
    intro i x h
    cases i with
    | zero => cases h; exact ⟨_, _, rfl, rfl, n, z⟩
    | succ i => exact ih i x (by simpa using h)
theorem RL.at' {K : PySem.W.Frag} {H : Hp} {xs : List V} {rs : List MFw.R} (h : RL K H xs rs) : ∀ (i : Nat) (x : V), xs[i]? = some x → ∃ a r, x = .ref a ∧ rs[i]? = some r ∧ SqT K H a r.row := by
  induction h with
  | nil => intro i x h; cases h
  | cons z _ ih =>
    intro i x h
    cases i with
    | zero => cases h; exact ⟨_, _, rfl, rfl, z⟩
    | succ i => exact ih i x (by simpa using h)
structure NE (H : Hp) (d : Addr) (ns : DZ) (S R C P : Addr) : Prop where
  sd : S ≠ d ∧ S ≠ ns.1
  rd : R ≠ d ∧ R ≠ ns.1
  pd : P ≠ d ∧ P ≠ ns.1
  sr : S ≠ R
  sc : S ≠ C
  sp : S ≠ P
  rc : R ≠ C
  rp : R ≠ P
  cp : C ≠ P
  s0 : H S = none
  r0 : H R = none
  p0 : H P = none
structure RS (K : PySem.W.Frag) (H : Hp) (d : Addr) (ns : DZ) (S R C P : Addr) (G : Hp) (st : List Nat) (ys : List V) (rs : List MFw.R) (ls : List V) (bs : List (List MFw.R)) (pl : List Nat) : Prop where
  sx : WP.Sx d H G
  ds : DS K G d ns
  gS : G S = some (.lst (WP.iL st))
  gR : G R = some (.lst ys)
  rl : RL K G ys rs
  gC : G C = some (.lst ls)
  bl : BLs K G (fun l => l ≠ d ∧ l ≠ S ∧ l ≠ R ∧ l ≠ P) ls bs
  gP : G P = some (.lst (WP.iL pl))
section
variable {K : PySem.W.Frag} {H G G' : Hp} {d S R C P : Addr} {ns : DZ} {st st' pl pl' : List Nat} {ys ys' ls : List V} {rs rs' : List MFw.R} {bs : List (List MFw.R)}
theorem RL.upd {p : Addr} {xs ys : List V} {rs : List MFw.R} {o : HO} (hp : G p = some (.lst xs)) (h : RL K G ys rs) : RL K (L2.upd G p o) ys rs := h.map fun _ _ z => WP.sqtX WP.Sx.upd hp z
theorem RS.setP (n : NE H d ns S R C P) (h : RS K H d ns S R C P G st ys rs ls bs pl) : RS K H d ns S R C P (upd G P (.lst (WP.iL pl'))) st ys rs ls bs pl' :=
  ⟨sx_mut h.sx n.p0, h.ds.mut n.pd, by rw [upd_ne n.sp]; exact h.gS, by rw [upd_ne n.rp]; exact h.gR, h.rl.upd h.gP, by rw [upd_ne n.cp]; exact h.gC, h.bl.map fun l b nl z => ⟨nl, z.sx WP.Sx.upd h.gP nl.2.2.2⟩, upd_same⟩
theorem RS.setS (n : NE H d ns S R C P) (h : RS K H d ns S R C P G st ys rs ls bs pl) : RS K H d ns S R C P (upd G S (.lst (WP.iL st'))) st' ys rs ls bs pl :=
  ⟨sx_mut h.sx n.s0, h.ds.mut n.sd, upd_same, by rw [upd_ne (Ne.symm n.sr)]; exact h.gR, h.rl.upd h.gS, by rw [upd_ne (Ne.symm n.sc)]; exact h.gC, h.bl.map fun l b nl z => ⟨nl, z.sx WP.Sx.upd h.gS nl.2.1⟩, by rw [upd_ne (Ne.symm n.sp)]; exact h.gP⟩
theorem RS.setR (n : NE H d ns S R C P) (h : RS K H d ns S R C P G st ys rs ls bs pl) (r : RL K G ys' rs') : RS K H d ns S R C P (upd G R (.lst ys')) st ys' rs' ls bs pl :=
  ⟨sx_mut h.sx n.r0, h.ds.mut n.rd, by rw [upd_ne n.sr]; exact h.gS, upd_same, r.upd h.gR, by rw [upd_ne (Ne.symm n.rc)]; exact h.gC, h.bl.map fun l b nl z => ⟨nl, z.sx WP.Sx.upd h.gR nl.2.2.1⟩, by rw [upd_ne (Ne.symm n.rp)]; exact h.gP⟩
theorem RS.same (e : Same G G') (h : RS K H d ns S R C P G st ys rs ls bs pl) : RS K H d ns S R C P G' st ys rs ls bs pl :=
  ⟨h.sx.trans (.of e), h.ds.same e, e _ _ h.gS, e _ _ h.gR, h.rl.same e, e _ _ h.gC, h.bl.map fun l b nl z => ⟨nl, z.same e⟩, e _ _ h.gP⟩
end
open MFw in
def sp__law_rows (K : PySem.W.Frag) (mg : WP.MG) : Sp := fun vs H Q _ => ∃ (d : Addr) (ns : DZ) (count : Nat), vs = [.ref d, .int (count : Int)] ∧ 1 ≤ count ∧ count ≤ 4 ∧ DS K H d ns ∧
  ∀ (t p q : Addr) (H' : Hp) (st : List Nat) (ys : List V) (rs : List R), p ≠ d → q ≠ d → WP.Sx d H H' → DS K H' d ns → SqT K H' t [.ref p, .ref q] → H' p = some (.lst (WP.iL st)) → H' q = some (.lst ys) → RL K H' ys rs → PInv count count st rs → (∀ r ∈ rs, Fl r) → Q (.ref t) H'
section
variable {P : Program} {w : World} {K : PySem.W.Frag} {mg : Str → Option Value} {base : Heap}
theorem ok__law_rows {f : Addr} {fd : FuncData} (F : Fun K "_law_rows" "_law_rows" s__law_rows f fd) (B : Blt w K mg) (c__law_draw : WP.Callee P w K mg base CX0 1 "_law_draw" ["draws", "limit"] (sp__law_draw K mg)) (c__law_block : WP.Callee P w K mg base CX0 2 "_law_block" ["draws", "many", "at", "count"] (sp__law_block K mg)) : FnOk P w K mg base CX0 3 f fd ["draws", "count"] (sp__law_rows K mg) := by
  refine F.ok sc__law_rows (fun vs H Q E h => ?_) (fun cdv A outer s H vs Q E hr h => ?_)
  · first | (obtain ⟨_, rfl, _⟩ := h; rfl) | (obtain ⟨_, _, rfl, _⟩ := h; rfl) | (obtain ⟨_, _, _, rfl, _⟩ := h; rfl) | (obtain ⟨_, _, _, _, rfl, _⟩ := h; rfl) | (obtain ⟨_, _, _, _, _, rfl, _⟩ := h; rfl) | (obtain ⟨_, _, _, _, _, _, rfl, _⟩ := h; rfl) | (obtain ⟨_, _, _, _, _, _, _, rfl, _⟩ := h; rfl) | (obtain ⟨_, _, _, _, _, _, _, _, rfl, _⟩ := h; rfl) | (obtain ⟨rfl, _⟩ := h; rfl)
  · obtain ⟨d, ns, count, rfl, hc1, hc4, hd, k⟩ := h
    refine ⟨_, (pss_cons (ps_set (i := 2) sc__law_rows.nd rfl (Or.inl rfl) (pe_lst pa_nil))
      (pss_cons (ps_set (i := 3) sc__law_rows.nd rfl (Or.inl rfl) (pe_lst pa_nil))
      (pss_cons (ps_for PassesOwn.never rfl (pi_range1 rfl B.b_range (WP.pa_consN (pv 1) pa_nil)) (pg_name (i := 4) sc__law_rows.nd rfl (Or.inl rfl)) (pss_cons (ps_set (i := 5) sc__law_rows.nd rfl (Or.inr rfl) (WP.pe_callC c__law_draw hr rfl pass0 (WP.pa_consN (pv 0) (WP.pa_consN pe_int pa_nil))))
      (pss_cons (ps_set (i := 6) sc__law_rows.nd rfl (Or.inl rfl) (pe_op op_cat (pe_lc (own := [("k", 11)]) (g := gName 11) (tt := tYes) rfl sc__law_rows.nd (pi_range1 rfl B.b_range (WP.pa_consN (pv 5) pa_nil)) (blkOk_by (own := [("k", 11)]) (N := N__law_rows) (sc := defScope s__law_rows) (by decide +kernel)) (fun _ _ _ _ _ => pg_name (i := 11) sc__law_rows.nd rfl (Or.inl rfl)) (fun _ _ _ _ _ => pts_nil) (fun _ _ _ _ _ => (WP.pe_callC c__law_block hr rfl pass0 (WP.pa_consN (pv 0) (WP.pa_consN (pv 5) (WP.pa_consN (pv 11) (WP.pa_consN (pv 1) pa_nil))))))) (pe_lst (WP.pa_consN (pe_lst (WP.pa_consN (pe_tup (WP.pa_consN pe_str (WP.pa_consN (pv 4) pa_nil))) pa_nil)) pa_nil))))
      (pss_cons (ps_set (i := 7) sc__law_rows.nd rfl (Or.inl rfl) (pe_lst pa_nil))
      (pss_cons (ps_set (i := 8) sc__law_rows.nd rfl (Or.inl rfl) (pe_callB WP.c_len (by rfl) B.b_len (by decide +kernel) (WP.pa_consN (pv 3) pa_nil)))
      (pss_cons (ps_for PassesOwn.never rfl (pi_list (pv 6)) (pg_name (i := 9) sc__law_rows.nd rfl (Or.inl rfl)) (pss_cons (ps_expr (pe_bm PySem.F.plainAttrs_list PySem.F.slot_list_append PySem.F.type_list_append mt_append (pv 7) (WP.pa_consN (pv 8) pa_nil)))
      (pss_one (ps_set (i := 8) sc__law_rows.nd rfl (Or.inl rfl) (pe_op op_add (pv 8) (pe_callB WP.c_len (by rfl) B.b_len (by decide +kernel) (WP.pa_consN (pv 9) pa_nil)))))))
      (pss_cons (ps_expr (pe_bm PySem.F.plainAttrs_list PySem.F.slot_list_append PySem.F.type_list_append mt_append (pv 2) (WP.pa_consN (pe_callB WP.c_len (by rfl) B.b_len (by decide +kernel) (WP.pa_consN (pv 3) pa_nil)) pa_nil)))
      (pss_one (ps_for PassesOwn.never rfl (pi_list (pv 6)) (pg_name (i := 9) sc__law_rows.nd rfl (Or.inl rfl)) (pss_one (ps_for PassesOwn.never rfl (pi_list (pv 9)) (pg_name (i := 10) sc__law_rows.nd rfl (Or.inl rfl)) (pss_one (ps_expr (pe_bm PySem.F.plainAttrs_list PySem.F.slot_list_append PySem.F.type_list_append mt_append (pv 3) (WP.pa_consN (pe_ifExp (pt_cmpR op_in_seq (pe_ix ix_tup (pv 10) pe_int (fun _ _ => rfl)) (pe_lst (WP.pa_consN pe_str (WP.pa_consN pe_str pa_nil))) rfl) (pe_tup (WP.pa_consN (pe_ix ix_tup (pv 10) pe_int (fun _ _ => rfl)) (WP.pa_consN (pe_ix ix_list (pv 7) (pe_ix ix_tup (pv 10) pe_int (fun _ _ => rfl)) (fun _ _ => rfl)) pa_nil))) (pv 10)) pa_nil)))))))))))))))
      (pss_one (ps_ret (pe_tup (WP.pa_consN (pv 2) (WP.pa_consN (pv 3) pa_nil)))))))), ?_⟩
    k_updF
    refine ⟨Nat.zero_le _, fun S hS => ?_⟩
    have nSd := hd.new hS
    obtain ⟨hd, _, s1, gS⟩ := hd.alloc (o := .lst []) hS
    generalize upd H S _ = H1 at hd s1 gS ⊢
    k_updF
    refine ⟨Nat.zero_le _, fun R hR => ?_⟩
    have nR := hd.new hR
    have nSR : S ≠ R := ne_of_none gS hR
    have hR0 : H R = none := sx_free s1 nR.1 hR
    have gS := WP.same_new (o := .lst []) hR _ _ gS
    obtain ⟨hd, _, s2, gR⟩ := hd.alloc (o := .lst []) hR
    have s0 := s1.trans s2
    generalize upd H1 R _ = H2 at hd s0 gS gR ⊢
    k_updF
    refine ⟨_, rfl, by omega, by omega, for_range (lo := 0) (n := _) (fun i σ' H' => ∃ (st : List Nat) (ys : List V) (rs : List MFw.R) (z4 z5 z6 z7 z8 z9 z10 : Option V), σ' = [some (.ref d), some (.int (count : Int)), some (.ref S), some (.ref R), z4, z5, z6, z7, z8, z9, z10, none] ∧ WP.Sx d H H' ∧ DS K H' d ns ∧ H' S = some (.lst (WP.iL st)) ∧ H' R = some (.lst ys) ∧ RL K H' ys rs ∧ MFw.PInv count i st rs ∧ ∀ r ∈ rs, Fl r)
      ⟨[], [], [], none, none, none, none, none, none, none, rfl, s0, hd, gS, gR, .nil, .nil count, fun _ h => nomatch h⟩ ?_ ?_⟩
    · rintro i σ' H2 hi ⟨st, ys, rs, z4, z5, z6, z7, z8, z9, z10, rfl, s0, hd, gS, gR, rl, I, fl⟩
      rw [Int.toNat_natCast] at hi
      rw [Int.zero_add]
      k_updF
      refine ⟨d, ns, _, rfl, by decide, WP.bt8 (by decide), hd, fun mv H3 m0 m1 sA hd3 => ?_⟩
      obtain ⟨m, rfl⟩ : ∃ m : Nat, mv = (m : Int) := ⟨mv.toNat, by omega⟩
      have gS := sA _ _ nSd.1 gS
      have gR := sA _ _ nR.1 gR
      have rl := rl.map fun a xs z => hd.tup sA z
      have s0 := s0.trans sA
      k_updF
      refine ⟨_, rfl, by omega, by omega, fun D hD => lc_range (lo := 0) (n := _) (fun j Hx => WP.Sx d H Hx ∧ DS K Hx d ns ∧ Hx S = some (.lst (WP.iL st)) ∧ Hx R = some (.lst ys) ∧ RL K Hx ys rs ∧ ∃ (ls : List V) (bs : List (List MFw.R)), Hx D = some (.lst ls) ∧ BLs K Hx (fun l => l ≠ d ∧ l ≠ S ∧ l ≠ R ∧ l ≠ D) ls bs ∧ bs.length = j ∧ ∀ b ∈ bs, b.length ≤ 6 ∧ ∀ r ∈ b, BOk m count r) ?_ ?_ ?_⟩
      · have e := WP.same_new (o := .lst []) hD
        exact ⟨s0.trans (.of e), hd3.same e, e _ _ gS, e _ _ gR, rl.same e, [], [], upd_same, .nil, rfl, fun _ h => nomatch h⟩
      · have nD := hd3.new hD
        have nSD : S ≠ D := ne_of_none gS hD
        have nRD : R ≠ D := ne_of_none gR hD
        have hD0 : H D = none := sx_free s0 nD.1 hD
        rintro j Hx hj ⟨s0, hd3, gS, gR, rl, ls, bs, gD, bl, lb, ob⟩
        rw [Int.toNat_natCast] at hj
        rw [Int.zero_add]
        k_updF
        refine ⟨rfl, ?_⟩
        refine WP.yes ?_
        k_updF
        refine ⟨d, ns, m, j, count, rfl, by omega, hc1, hc4, hd3, fun l H5 xs b nl0 nld sB hd5 gl rb lb6 ob6 => ?_⟩
        have gD5 := sB _ _ nD.1 gD
        obtain ⟨yd, hyd⟩ := hd3.lst
        have nlD : l ≠ D := Ne.symm (ne_of_none gD nl0)
        refine ⟨ls, gD5, by rw [bl.len, sizeLine_eq]; omega, sx_mut (s0.trans sB) hD0, hd5.mut nD, by rw [upd_ne nSD]; exact sB _ _ nSd.1 gS, by rw [upd_ne nRD]; exact sB _ _ nR.1 gR, (rl.map fun a zs z => hd3.tup sB z).upd gD5, ls ++ [.ref l], bs ++ [b], upd_same, ?_, by rw [List.length_append, lb]; rfl, fun c hc => ?_⟩
        · refine BLs.snoc (bl.map fun l b nl z => ⟨nl, (z.sx sB hyd nl.1).sx WP.Sx.upd gD5 nl.2.2.2⟩) ⟨nld, Ne.symm (ne_of_none gS nl0), Ne.symm (ne_of_none gR nl0), nlD⟩ ?_
          exact Blk.sx WP.Sx.upd gD5 nlD ⟨xs, gl, rb⟩
        · rcases List.mem_append.mp hc with hc | hc
          · exact ob c hc
          · rw [List.mem_singleton.mp hc]; exact ⟨lb6, ob6⟩
      rintro H4 ⟨s0, hd, gS, gR, rl, ls, bs, gD, bl, lb, ob⟩
      rw [Int.toNat_natCast] at lb
      k_updF
      refine ⟨WP.sz (show 2 ≤ 1000000 by decide), fun T hT => ?_⟩
      generalize hG : upd H4 T _ = G1
      have f1 : Same H4 G1 := hG ▸ WP.same_new hT
      have gT : SqT K G1 T [.str "leave", .int (i : Int)] := by rw [← hG]; exact SqT.of upd_same
      clear hG
      k_updF
      refine ⟨WP.sz (show 1 ≤ 1000000 by decide), fun L0 hL0 => ?_⟩
      have nL0 := (hd.same f1).new hL0
      have nL0S := Ne.symm (ne_of_none (f1 _ _ gS) hL0)
      have nL0R := Ne.symm (ne_of_none (f1 _ _ gR) hL0)
      generalize hG : upd G1 L0 _ = G2
      have f2 : Same G1 G2 := hG ▸ WP.same_new hL0
      have gL0 : G2 L0 = some (.lst [.ref T]) := by rw [← hG]; exact upd_same
      clear hG
      k_updF
      refine ⟨WP.sz (show 1 ≤ 1000000 by decide), fun L1 hL1 => ?_⟩
      generalize hG : upd G2 L1 _ = G3
      have f3 : Same G2 G3 := hG ▸ WP.same_new hL1
      have gL1 : G3 L1 = some (.lst [.ref L0]) := by rw [← hG]; exact upd_same
      clear hG
      have f13 := (f1.trans f2).trans f3
      refine WP.catLL (f13 _ _ gD) gL1 (by rw [bl.len, lb]; show m + 1 ≤ _; omega) (fun C hC => ?_)
      have nSC := ne_of_none (f13 _ _ gS) hC
      have nRC := ne_of_none (f13 _ _ gR) hC
      generalize hG : upd G3 C _ = G4
      have f4 : Same G3 G4 := hG ▸ WP.same_new hC
      have gC : G4 C = some (.lst (ls ++ [.ref L0])) := by rw [← hG]; exact upd_same
      clear hG
      have f14 := f13.trans f4
      have bl4 : BLs K G4 (fun l => l ≠ d ∧ l ≠ S ∧ l ≠ R) (ls ++ [.ref L0]) (bs ++ [[MFw.lv (.int (i : Int))]]) :=
        (bl.map fun l b nl z => ⟨⟨nl.1, nl.2.1, nl.2.2.1⟩, z.same f14⟩).snoc ⟨nL0.1, nL0S, nL0R⟩ ⟨[.ref T], (f3.trans f4) _ _ gL0, .cons (WP.sqt ((f2.trans f3).trans f4) gT) .nil⟩
      have hd4 := hd.same f14
      have s4 := s0.trans (.of f14)
      have gS := f14 _ _ gS
      have gR := f14 _ _ gR
      have rl4 := rl.same f14
      have ob2 : ∀ b ∈ bs ++ [[MFw.lv (.int (i : Int))]], ∀ r ∈ b, r.Ok ∧ Fl r ∧ (r.k = "jump" ∨ r.k = "zero" → r.a ≤ m) := by
        intro b hb r hr
        rcases List.mem_append.mp hb with hb | hb
        · have h := (ob b hb).2 r hr
          exact ⟨h.o, h.f, fun z => z.elim h.j h.z⟩
        · rw [List.mem_singleton.mp hb] at hr
          rw [List.mem_singleton.mp hr]
          exact ⟨⟨fun z => absurd z MFw.lj, fun z => absurd z MFw.lz, fun z => absurd z MFw.lc⟩, fl1, fun z => absurd z (by rintro (z | z); exact MFw.lj z; exact MFw.lz z)⟩
      have stp := I.step (bs := bs) (x := .int (i : Int)) (by omega) (fun b hb => (ob b hb).1) (fun b hb r hr => by
        have h := (ob b hb).2 r hr
        exact ⟨h.o, fun z => by rw [lb]; exact z.elim h.j h.z, h.c⟩)
      have lb2 : (bs ++ [[MFw.lv (.int (i : Int))]]).length = m + 1 := by rw [List.length_append, lb]; rfl
      have hrs : rs.length ≤ 220 := by have := I.rl; omega
      generalize bs ++ [[MFw.lv (.int (i : Int))]] = bs' at bl4 ob2 stp lb2
      generalize ls ++ [V.ref L0] = ls' at gC bl4
      k_updF
      refine ⟨Nat.zero_le _, fun P hP => ?_⟩
      have n : NE H d ns S R C P := ⟨nSd, nR, hd4.new hP, nSR, nSC, ne_of_none gS hP, nRC, ne_of_none gR hP, ne_of_none gC hP, hS, hR0, sx_free s4 (hd4.new hP).1 hP⟩
      generalize hG : upd G4 P _ = G5
      have f5 : Same G4 G5 := hG ▸ WP.same_new hP
      have h : RS K H d ns S R C P G5 st ys rs ls' bs' [] := ⟨s4.trans (.of f5), hd4.same f5, f5 _ _ gS, f5 _ _ gR, rl4.same f5, f5 _ _ gC, bl4.map fun l b nl z => ⟨⟨nl.1, nl.2.1, nl.2.2, by obtain ⟨xs, h1, _⟩ := z; exact ne_of_none h1 hP⟩, z.same f5⟩, by rw [← hG]; exact upd_same⟩
      clear hG f5 hP gC gR gS bl4 rl4 hd4 s4
      k_updF
      refine WP.lenL (SqL.of h.gR) ?_
      rw [h.rl.len]
      k_updF
      refine ⟨C, rfl, ⟨_, SqL.of h.gC⟩, for_list (K := K) (a := C) (xs := ls') (fun j σ' G => ∃ z9, σ' = [some (.ref d), some (.int (count : Int)), some (.ref S), some (.ref R), some (.int (i : Int)), some (.int (m : Int)), some (.ref C), some (.ref P), some (.int ((rs.length + (bs'.take j).flatten.length : Nat) : Int)), z9, z10, none] ∧ RS K H d ns S R C P G st ys rs ls' bs' ((MFw.offs rs.length bs').take j)) ⟨_, rfl, h⟩ (fun j σ G _ z => by obtain ⟨_, _, z⟩ := z; exact SqL.of z.gC) ?_ ?_⟩
      · clear h
        rintro j x σ' G hx ⟨z9, rfl, h⟩
        obtain ⟨l, b, rfl, hb, nl, ⟨xb, gl, rlb⟩⟩ := h.bl.at j x hx
        have et : (MFw.offs rs.length bs').take (j + 1) = (MFw.offs rs.length bs').take j ++ [rs.length + (bs'.take j).flatten.length] := by rw [List.take_succ, MFw.offs_take hb]; rfl
        have eb : (bs'.take (j + 1)).flatten = (bs'.take j).flatten ++ b := by rw [List.take_succ, hb, List.flatten_append]; show _ ++ (b ++ []) = _; rw [List.append_nil]
        k_updF
        refine WP.tyL (SqL.of h.gP) ?_
        k_updF
        refine WP.appL h.gP (by unfold WP.iL; rw [List.length_map, List.length_take, MFw.offs_len, sizeLine_eq]; omega) ?_
        rw [WP.app_iL, ← et]
        have h := h.setP n (pl' := (MFw.offs rs.length bs').take (j + 1))
        generalize upd G P _ = G' at h ⊢
        obtain ⟨l2, b2, e2, hb2, nl2, ⟨xb2, gl2, rlb2⟩⟩ := h.bl.at j _ hx
        cases e2
        rw [hb] at hb2; cases hb2
        k_updF
        refine WP.lenL (SqL.of gl2) ?_
        rw [rlb2.len]
        k_updF
        exact ⟨_, by rw [eb, List.length_append, ← Nat.add_assoc]; rfl, h⟩
      clear h
      rintro σ' G ⟨z9, rfl, h⟩
      rw [h.bl.len, show bs'.length = (MFw.offs rs.length bs').length from (MFw.offs_len _ _).symm, List.take_length] at h
      k_updF
      refine WP.tyL (SqL.of h.gS) ?_
      k_updF
      refine WP.lenL (SqL.of h.gR) ?_
      rw [h.rl.len]
      k_updF
      refine WP.appL h.gS (by unfold WP.iL; rw [List.length_map, I.sl, sizeLine_eq]; omega) ?_
      rw [WP.app_iL]
      have h := h.setS n (st' := st ++ [rs.length])
      generalize upd G S _ = G6 at h ⊢
      have opl : (MFw.offs rs.length bs').length = m + 1 := by rw [MFw.offs_len, lb2]
      generalize MFw.offs rs.length bs' = pl at h stp opl
      k_updF
      generalize (((rs.length + (List.take ls'.length bs').flatten.length : Nat)) : Int) = a8
      refine ⟨C, rfl, ⟨_, SqL.of h.gC⟩, for_list (K := K) (a := C) (xs := ls') (fun j σ' G => ∃ (ys' : List V) (z9 z10 : Option V), σ' = [some (.ref d), some (.int (count : Int)), some (.ref S), some (.ref R), some (.int (i : Int)), some (.int (m : Int)), some (.ref C), some (.ref P), some (.int a8), z9, z10, none] ∧ RS K H d ns S R C P G (st ++ [rs.length]) ys' (rs ++ (bs'.take j).flatten.map (MFw.fixR pl)) ls' bs' pl) ⟨ys, _, _, rfl, by rw [show (bs'.take 0).flatten.map (MFw.fixR pl) = [] from rfl, List.append_nil]; exact h⟩ (fun j σ G _ z => by obtain ⟨_, _, _, _, z⟩ := z; exact SqL.of z.gC) ?_ ?_⟩
      · clear h
        rintro j x σ' G hx ⟨ys', z9, z10, rfl, h⟩
        obtain ⟨l, b, rfl, hb, nl, ⟨xb, gl, rlb⟩⟩ := h.bl.at j x hx
        have hbm := List.mem_of_getElem? hb
        have eb : (bs'.take (j + 1)).flatten = (bs'.take j).flatten ++ b := by rw [List.take_succ, hb, List.flatten_append]; show _ ++ (b ++ []) = _; rw [List.append_nil]
        have efl : (bs'.take j).flatten.length + b.length ≤ bs'.flatten.length := by
          have h1 := congrArg (fun z => (List.flatten z).length) (List.take_append_drop (j + 1) bs')
          simp only [List.flatten_append, List.length_append] at h1
          rw [eb, List.length_append] at h1
          omega
        have erl := stp.rl
        rw [List.length_append, List.length_map] at erl
        k_updF
        refine ⟨l, rfl, ⟨_, SqL.of gl⟩, for_list (K := K) (a := l) (xs := xb) (fun q σ' G => ∃ (ys' : List V) (z10 : Option V), σ' = [some (.ref d), some (.int (count : Int)), some (.ref S), some (.ref R), some (.int (i : Int)), some (.int (m : Int)), some (.ref C), some (.ref P), some (.int a8), some (.ref l), z10, none] ∧ RS K H d ns S R C P G (st ++ [rs.length]) ys' (rs ++ ((bs'.take j).flatten ++ b.take q).map (MFw.fixR pl)) ls' bs' pl ∧ G l = some (.lst xb) ∧ RL K G xb b) ⟨ys', _, rfl, by rw [List.take_zero, List.append_nil]; exact h, gl, rlb⟩ (fun q σ G _ z => by obtain ⟨_, _, _, _, z, _⟩ := z; exact SqL.of z) ?_ ?_⟩
        · clear h gl rlb
          rintro q x σ' G hxq ⟨ys'0, z10, rfl, h, gl, rlb⟩
          obtain ⟨ra, r, rfl, hr, har⟩ := rlb.at' q x hxq
          obtain ⟨ro, rf, rj⟩ := ob2 b hbm r (List.mem_of_getElem? hr)
          have et : b.take (q + 1) = b.take q ++ [r] := by rw [List.take_succ, hr]; rfl
          have hqb : (b.take q).length ≤ b.length := by rw [List.length_take]; omega
          have hyl : ys'0.length < sizeLine := by
            have := h.rl.len
            rw [List.length_append, List.length_map, List.length_append] at this
            rw [sizeLine_eq]; omega
          have fin : ∀ (v : V) (G' : Hp) (zz : Option V), Same G G' → RL K G' [v] [MFw.fixR pl r] → ∃ (ys' : List V) (z10 : Option V), [some (.ref d), some (.int (count : Int)), some (.ref S), some (.ref R), some (.int (i : Int)), some (.int (m : Int)), some (.ref C), some (.ref P), some (.int a8), some (.ref l), zz, none] = [some (.ref d), some (.int (count : Int)), some (.ref S), some (.ref R), some (.int (i : Int)), some (.int (m : Int)), some (.ref C), some (.ref P), some (.int a8), some (.ref l), z10, none] ∧ RS K H d ns S R C P (upd G' R (.lst (ys'0 ++ [v]))) (st ++ [rs.length]) ys' (rs ++ ((bs'.take j).flatten ++ b.take (q + 1)).map (MFw.fixR pl)) ls' bs' pl ∧ (upd G' R (.lst (ys'0 ++ [v]))) l = some (.lst xb) ∧ RL K (upd G' R (.lst (ys'0 ++ [v]))) xb b := by
            intro v G' zz e hv
            have h1 := h.same e
            have h2 := h1.setR n (h1.rl.app hv)
            refine ⟨ys'0 ++ [v], zz, rfl, ?_, by rw [upd_ne nl.2.2.1]; exact e _ _ gl, (rlb.same e).upd h1.gR⟩
            rw [et, ← List.append_assoc, List.map_append, ← List.append_assoc]
            exact h2
          k_updF
          refine WP.tyL (SqL.of h.gR) ?_
          k_updF
          refine WP.ixT har WP.at0 ?_
          k_updF
          refine ⟨WP.sz (show 2 ≤ 1000000 by decide), fun p3 hp3 => ?_⟩
          generalize hG : upd G p3 _ = G7
          have e7 : Same G G7 := hG ▸ WP.same_new hp3
          have g3 : G7 p3 = some (.lst [.str "jump", .str "zero"]) := by rw [← hG]; exact upd_same
          clear hG
          refine MFw.inS2 (SqL.of g3) ?_
          k_updF
          refine WP.br (fun c2 => ?_) (fun c2 => ?_)
          · have har2 : SqT K G7 ra [.str r.k, .int (r.a : Int)] := by
              rcases c2 with c2 | c2
              · rw [← ro.j c2]; exact WP.sqt e7 har
              · rw [← ro.z c2]; exact WP.sqt e7 har
            have hra := rj c2
            have efx : MFw.fixR pl r = ⟨r.k, pl.getD r.a 0, 0, [.int ((pl.getD r.a 0 : Nat) : Int)]⟩ := if_pos c2
            k_updF
            refine WP.ixT har2 WP.at0 ?_
            k_updF
            refine WP.ixT har2 WP.at1 ?_
            k_updF
            refine WP.ixL (SqL.of (e7 _ _ h.gP)) (WP.at_iL (by rw [opl]; omega)) ?_
            k_updF
            refine ⟨WP.sz (show 2 ≤ 1000000 by decide), fun p4 hp4 => ?_⟩
            have e8 := e7.trans (WP.same_new (o := .tup [.str r.k, .int ((pl.getD r.a 0 : Nat) : Int)]) hp4)
            k_updF
            refine WP.appL (e8 _ _ h.gR) hyl ?_
            k_updF
            exact fin _ _ _ e8 (.cons (by rw [efx]; exact SqT.of upd_same) .nil)
          · have efx : MFw.fixR pl r = r := if_neg c2
            k_updF
            refine WP.appL (e7 _ _ h.gR) hyl ?_
            k_updF
            exact fin _ _ _ e7 (.cons (by rw [efx]; exact WP.sqt e7 har) .nil)
        clear h gl rlb
        rintro σ' G ⟨ys', z10, rfl, h, gl, rlb⟩
        rw [rlb.len, List.take_length, ← eb] at h
        exact ⟨ys', _, _, rfl, h⟩
      clear h
      rintro σ' G ⟨ys', z9, z10, rfl, h⟩
      rw [h.bl.len, List.take_length] at h
      refine ⟨_, ys', _, _, _, _, _, _, _, _, rfl, h.sx, h.ds, h.gS, h.gR, h.rl, stp, fun r hr => ?_⟩
      rcases List.mem_append.mp hr with hr | hr
      · exact fl r hr
      · obtain ⟨q, hq, rfl⟩ := List.mem_map.mp hr
        obtain ⟨b, hb, hqb⟩ := List.mem_flatten.mp hq
        obtain ⟨_, qf, _⟩ := ob2 b hb q hqb
        unfold MFw.fixR
        by_cases c2 : q.k = "jump" ∨ q.k = "zero"
        · rw [if_pos c2]
          exact fl1 (by rcases c2 with c2 | c2 <;> rw [c2] <;> decide +kernel)
        · rw [if_neg c2]; exact qf
    rintro σ' H' ⟨st, ys, rs, z4, z5, z6, z7, z8, z9, z10, rfl, s0, hd, gS, gR, rl, I, fl⟩
    rw [Int.toNat_natCast] at I
    k_updF
    refine ⟨WP.sz (show 2 ≤ 1000000 by decide), fun t ht => ?_⟩
    have e := WP.same_new (o := .tup [.ref S, .ref R]) ht
    exact k t S R _ st ys rs nSd.1 nR.1 (s0.trans (.of e)) (hd.same e) (SqT.of upd_same) (e _ _ gS) (e _ _ gR) (rl.same e) I fl
end
abbrev s__law_reached : Stmt := top 10
abbrev N__law_reached : List Str := ["starts", "rows", "seen", "waiting", "k", "place", "row", "last"]
theorem sc__law_reached : FnScope N__law_reached ["starts", "rows"] (defScope s__law_reached) := ⟨rfl, rfl, rfl, by decide +kernel, rfl, by decide +kernel, by decide +kernel⟩
open MFw in
def sp__law_reached (K : PySem.W.Frag) (mg : WP.MG) : Sp := fun vs H Q _ => ∃ (st : List Nat) (rs : List R) (p q : Addr), vs = [.ref p, .ref q] ∧ SqL K H p (WP.iL st) ∧ (∃ ys, SqL K H q ys ∧ ys.length = rs.length ∧ ∀ (i : Nat) (r : R), rs[i]? = some r → ∃ a, ys[i]? = some (.ref a) ∧ SqT K H a r.row) ∧ Prog st rs ∧ st.length ≤ 100 ∧ rs.length ≤ 500 ∧
  ∀ (l : Addr) (ns : List Int) (seen : List Nat) (H' : Hp), Same H H' → H' l = some (.lst (ns.map V.int)) → ns.Perm (seen.map fun (i : Nat) => (i : Int)) → ns.Pairwise (· ≤ ·) → WI (suc st rs) rs.length 0 seen [] → Q (.ref l) H'
section
variable {P : Program} {w : World} {K : PySem.W.Frag} {mg : Str → Option Value} {base : Heap}
theorem ok__law_reached {f : Addr} {fd : FuncData} (F : Fun K "_law_reached" "_law_reached" s__law_reached f fd) (B : Blt w K mg)  : FnOk P w K mg base CX0 1 f fd ["starts", "rows"] (sp__law_reached K mg) := by
  refine F.ok sc__law_reached (fun vs H Q E h => ?_) (fun cdv A outer s H vs Q E hr h => ?_)
  · first | (obtain ⟨_, rfl, _⟩ := h; rfl) | (obtain ⟨_, _, rfl, _⟩ := h; rfl) | (obtain ⟨_, _, _, rfl, _⟩ := h; rfl) | (obtain ⟨_, _, _, _, rfl, _⟩ := h; rfl) | (obtain ⟨_, _, _, _, _, rfl, _⟩ := h; rfl) | (obtain ⟨_, _, _, _, _, _, rfl, _⟩ := h; rfl) | (obtain ⟨_, _, _, _, _, _, _, rfl, _⟩ := h; rfl) | (obtain ⟨_, _, _, _, _, _, _, _, rfl, _⟩ := h; rfl) | (obtain ⟨rfl, _⟩ := h; rfl)
  · obtain ⟨st, rs, p, q, rfl, hp, ⟨ys, hy, hyl, hya⟩, P, hsl, hrl, k⟩ := h
    refine ⟨_, (pss_cons (ps_set (i := 2) sc__law_reached.nd rfl (Or.inl rfl) (pe_lst pa_nil))
      (pss_cons (ps_set (i := 3) sc__law_reached.nd rfl (Or.inl rfl) (pe_lst (WP.pa_consN (pe_ix ix_list (pv 0) pe_int (fun _ _ => rfl)) pa_nil)))
      (pss_cons (ps_for PassesOwn.never rfl (pi_range1 rfl B.b_range (WP.pa_consN (pe_op op_mulW (pe_callB WP.c_len (by rfl) B.b_len (by decide +kernel) (WP.pa_consN (pv 1) pa_nil)) (pe_op op_add (pe_callB WP.c_len (by rfl) B.b_len (by decide +kernel) (WP.pa_consN (pv 0) pa_nil)) pe_int)) pa_nil)) (pg_name (i := 4) sc__law_reached.nd rfl (Or.inl rfl)) (pss_one (ps_if (pt_cmpR op_gt (pe_callB WP.c_len (by rfl) B.b_len (by decide +kernel) (WP.pa_consN (pv 3) pa_nil)) pe_int (nomark _)) (pss_cons (ps_set (i := 5) sc__law_reached.nd rfl (Or.inl rfl) (pe_bm0 PySem.F.plainAttrs_list PySem.F.slot_list_pop PySem.F.type_list_pop mt_pop (pv 3)))
      (pss_one (ps_if (pt_cmpR op_notIn_seq (pv 5) (pv 2) rfl) (pss_cons (ps_expr (pe_bm PySem.F.plainAttrs_list PySem.F.slot_list_append PySem.F.type_list_append mt_append (pv 2) (WP.pa_consN (pv 5) pa_nil)))
      (pss_cons (ps_set (i := 6) sc__law_reached.nd rfl (Or.inl rfl) (pe_ix ix_list (pv 1) (pv 5) (fun _ _ => rfl)))
      (Evl.pss_cut (ps_set (i := 7) sc__law_reached.nd rfl (Or.inl rfl) (pe_or (pe_cmpR op_eq (pe_op op_add (pv 5) pe_int) (pe_callB WP.c_len (by rfl) B.b_len (by decide +kernel) (WP.pa_consN (pv 1) pa_nil)) (nomark _)) (pe_one (pe_cmpR op_in_seq (pe_op op_add (pv 5) pe_int) (pv 0) rfl))))
      (Evl.pss_cut (ps_if (pt_cmpR op_in_seq (pe_ix ix_tup (pv 6) pe_int (fun _ _ => rfl)) (pe_lst (WP.pa_consN pe_str (WP.pa_consN pe_str pa_nil))) rfl) (pss_one (ps_expr (pe_bm PySem.F.plainAttrs_list PySem.F.slot_list_append PySem.F.type_list_append mt_append (pv 3) (WP.pa_consN (pe_ix ix_tup (pv 6) pe_int (fun _ _ => rfl)) pa_nil)))) pss_nil)
      (Evl.pss_cut (ps_if (pt_cmpR op_eq (pe_ix ix_tup (pv 6) pe_int (fun _ _ => rfl)) pe_str (nomark _)) (pss_one (ps_expr (pe_bm PySem.F.plainAttrs_list PySem.F.slot_list_extend PySem.F.type_list_extend WP.mt_extendA (pv 3) (WP.pa_consN (pe_callTy WP.c_listOf (by rfl) B.b_list (by decide +kernel) (WP.pa_consN (pe_slice sl_list (pv 0) (po_some (pe_ix ix_tup (pv 6) pe_int (fun _ _ => rfl))) (po_some (pe_op op_add (pe_ix ix_tup (pv 6) pe_int (fun _ _ => rfl)) pe_int))) pa_nil)) pa_nil)))) pss_nil)
      (pss_one (ps_if (PW.pt (pw_and (pt_cmpR op_notIn_seq (pe_ix ix_tup (pv 6) pe_int (fun _ _ => rfl)) (pe_lst (WP.pa_consN pe_str (WP.pa_consN pe_str pa_nil))) rfl) (pw_and1 (pt_not (PW.pt (pw_and (pt_cmpR op_eq (pe_ix ix_tup (pv 6) pe_int (fun _ _ => rfl)) pe_str (nomark _)) (pw_and1 (pt_val (pv 7))))))))) (pss_one (ps_expr (pe_bm PySem.F.plainAttrs_list PySem.F.slot_list_append PySem.F.type_list_append mt_append (pv 3) (WP.pa_consN (pe_op op_add (pv 5) pe_int) pa_nil)))) pss_nil))))))) pss_nil))) pss_nil)))
      (pss_one (ps_ret (pe_callB cr_sortedI (by rfl) B.b_sorted (by decide +kernel) (WP.pa_consN (pv 2) pa_nil))))))), ?_⟩
    k_updF
    refine ⟨Nat.zero_le _, fun S hS => ?_⟩
    have eS : Same H (upd H S (.lst [])) := WP.same_new hS
    have gS : (upd H S (.lst [])) S = some (.lst (WP.iL [])) := upd_same
    generalize upd H S _ = H1 at eS gS ⊢
    k_updF
    obtain ⟨t, hst⟩ := P.z0
    refine WP.ixL (v := .int ((0 : Nat) : Int)) (WP.sql eS hp) (by rw [hst]; show atI (V.int ((0 : Nat) : Int) :: _) 0 = _; exact WP.at0) ?_
    k_updF
    refine ⟨WP.sz (show 1 ≤ 1000000 by decide), fun W hW => ?_⟩
    have nSW : S ≠ W := ne_of_none gS hW
    have eW : Same H1 (upd H1 W (.lst [.int ((0 : Nat) : Int)])) := WP.same_new hW
    have gS := eW _ _ gS
    have gW : (upd H1 W (.lst [.int ((0 : Nat) : Int)])) W = some (.lst (WP.iL ([0] : List Nat).reverse)) := upd_same
    have hW0 : H W = none := eS.free hW
    have e2 := eS.trans eW
    generalize upd H1 W _ = H2 at eW gS gW e2 ⊢
    k_updF
    refine WP.lenL (WP.sql e2 hy) ?_
    rw [hyl]
    k_updF
    refine WP.lenL (WP.sql e2 hp) ?_
    rw [show (WP.iL st).length = st.length from List.length_map _]
    k_updF
    refine WP.iC (wide_mul (a := 10) (b := 10) (by omega) (by omega) (by decide) (by decide) (by decide)) ?_
    rw [show ((rs.length : Int) * ((st.length : Int) + 3)) = ((rs.length * (st.length + 3) : Nat) : Int) by rw [Int.natCast_mul]; rfl]
    have hN : rs.length * (st.length + 3) ≤ 500 * 103 := Nat.mul_le_mul hrl (by omega)
    have sl0 : 0 < st.length := by rw [hst, List.length_cons]; omega
    k_updF
    refine ⟨_, rfl, by omega, by omega, for_range (lo := 0) (n := _) (fun i σ' H' => ∃ (seen q2 : List Nat) (z z2 z3 z4 : Option V), σ' = [some (.ref p), some (.ref q), some (.ref S), some (.ref W), z, z2, z3, z4] ∧ Same H H' ∧ H' S = some (.lst (WP.iL seen)) ∧ H' W = some (.lst (WP.iL q2.reverse)) ∧
      MFw.WI (MFw.suc st rs) rs.length 0 seen q2.reverse ∧ (q2 = [] ∨ i + q2.length + (rs.length - seen.length) * (st.length + 2) ≤ rs.length * (st.length + 3)) ∧ q2.length ≤ 60000) ⟨[], [0], none, none, none, none, rfl, e2, gS, gW, .init P.pos, .inr (by
        show 0 + 1 + (rs.length - 0) * _ ≤ _
        have := P.pos
        have : rs.length * (st.length + 3) = rs.length * (st.length + 2) + rs.length := Nat.mul_succ rs.length (st.length + 2)
        rw [Nat.sub_zero]; omega), by show 1 ≤ _; omega⟩ ?_ ?_⟩
    · clear gS gW eW e2
      rintro i σ' H' hi ⟨seen, q2, z, z2, z3, z4, rfl, e, gS, gW, I, hb, hq2⟩
      rw [Int.toNat_natCast] at hi
      k_updF
      refine WP.lenL (SqL.of gW) ?_
      rw [show (WP.iL q2.reverse).length = q2.length from by unfold WP.iL; rw [List.length_map, List.length_reverse]]
      k_updF
      cases q2 with
      | nil =>
        refine WP.brF (decide_eq_false (by decide)) ?_
        k_updF
        exact ⟨seen, [], _, _, _, _, rfl, e, gS, gW, I, .inl rfl, hq2⟩
      | cons v q2 =>
        refine WP.brT (decide_eq_true (by rw [List.length_cons]; omega)) ?_
        rw [List.length_cons] at hb hq2
        have hb := hb.resolve_left (List.cons_ne_nil _ _)
        have hvn : v < rs.length := I.lt v (.inr (by simp))
        rw [List.reverse_cons] at I
        k_updF
        refine WP.tyL (SqL.of gW) ?_
        refine WP.popRev gW ?_
        have e5 : Same H (upd H' W (.lst (WP.iL q2.reverse))) := WP.same_mut e hW0
        have gS : (upd H' W (.lst (WP.iL q2.reverse))) S = some (.lst (WP.iL seen)) := by rw [upd_ne nSW]; exact gS
        have gW : (upd H' W (.lst (WP.iL q2.reverse))) W = some (.lst (WP.iL q2.reverse)) := upd_same
        generalize upd H' W _ = H5 at e5 gS gW ⊢
        clear e
        k_updF
        refine WP.notInNL (SqL.of gS) ?_
        refine ⟨_, rfl, ?_⟩
        by_cases c : v ∈ seen
        · rw [decide_eq_true c, if_neg (show ¬ (!true) = true by decide)]
          k_updF
          exact ⟨seen, q2, _, _, _, _, rfl, e5, gS, gW, I.skip c, .inr (by omega), by omega⟩
        rw [decide_eq_false c, if_pos (show (!false) = true by decide)]
        obtain ⟨r, hr⟩ : ∃ r, rs[v]? = some r := ⟨_, List.getElem?_eq_getElem hvn⟩
        have hrm := List.mem_of_getElem? hr
        obtain ⟨ra, hra, har0⟩ := hya v r hr
        have hsn := I.size
        k_updF
        refine WP.tyL (SqL.of gS) ?_
        k_updF
        refine WP.appL gS (by unfold WP.iL; rw [List.length_map, sizeLine_eq]; omega) ?_
        have e6 : Same H (upd H5 S (.lst (WP.iL seen ++ [.int (v : Int)]))) := WP.same_mut e5 hS
        have gW : (upd H5 S (.lst (WP.iL seen ++ [.int (v : Int)]))) W = some (.lst (WP.iL q2.reverse)) := by rw [upd_ne (Ne.symm nSW)]; exact gW
        have gS : (upd H5 S (.lst (WP.iL seen ++ [.int (v : Int)]))) S = some (.lst (WP.iL (seen ++ [v]))) := by rw [upd_same, WP.app_iL]
        generalize upd H5 S _ = H6 at e6 gW gS ⊢
        k_updF
        refine WP.ixL (WP.sql e6 hy) (atI_nat hra) ?_
        k_updF
        refine WP.cut (fun σ' H' => H' = H6 ∧ ∃ z, σ' = [some (.ref p), some (.ref q), some (.ref S), some (.ref W), z, some (.int (v : Int)), some (.ref ra), some (.bl (MFw.lastAt st rs.length v))]) ?_ ?_
        · k_updF
          refine WP.lenL (WP.sql e6 hy) ?_
          rw [hyl]
          k_updF
          refine WP.br (fun c1 => ?_) (fun c1 => ?_)
          · have el : MFw.lastAt st rs.length v = true := decide_eq_true (.inl (by omega))
            k_updF
            exact ⟨rfl, _, by rw [el]; rfl⟩
          · have el : MFw.lastAt st rs.length v = decide (v + 1 ∈ st) := by
              unfold MFw.lastAt
              refine decide_eq_decide.mpr ?_
              rw [hst, List.tail_cons, List.mem_cons]
              constructor
              · rintro (z | z)
                · exact absurd (show (v : Int) + 1 = (rs.length : Int) by omega) c1
                · exact .inr z
              · rintro (z | z)
                · exact absurd z (Nat.succ_ne_zero _)
                · exact .inr z
            k_updF
            refine WP.inNL (v := v + 1) (WP.sql e6 hp) ?_
            k_updF
            exact ⟨rfl, _, by rw [el]; rfl⟩
        rintro σ' H' ⟨rfl, z, rfl⟩
        have lL1 : (if r.k = "jump" ∨ r.k = "zero" then [r.a] else []).length ≤ 1 := by split <;> simp
        have har := WP.sqt e6 har0
        refine WP.cut (fun σ' H' => Same H H' ∧ H' S = some (.lst (WP.iL (seen ++ [v]))) ∧ H' W = some (.lst (WP.iL (q2.reverse ++ (if r.k = "jump" ∨ r.k = "zero" then [r.a] else [])))) ∧ ∃ z, σ' = [some (.ref p), some (.ref q), some (.ref S), some (.ref W), z, some (.int (v : Int)), some (.ref ra), some (.bl (MFw.lastAt st rs.length v))]) ?_ ?_
        · k_updF
          refine WP.ixT har WP.at0 ?_
          k_updF
          refine ⟨WP.sz (show 2 ≤ 1000000 by decide), fun p3 hp3 => ?_⟩
          have e7 : Same H' (upd H' p3 (.lst [.str "jump", .str "zero"])) := WP.same_new hp3
          have g3 : (upd H' p3 (.lst [.str "jump", .str "zero"])) p3 = some (.lst [.str "jump", .str "zero"]) := upd_same
          generalize upd H' p3 _ = H7 at e7 g3 ⊢
          refine MFw.inS2 (SqL.of g3) ?_
          k_updF
          refine WP.br (fun c2 => ?_) (fun c2 => ?_)
          · have har : SqT K H7 ra [.str r.k, .int (r.a : Int)] := by
              rcases c2 with c2 | c2
              · rw [← (P.ok r hrm).j c2]; exact WP.sqt e7 har
              · rw [← (P.ok r hrm).z c2]; exact WP.sqt e7 har
            k_updF
            refine WP.tyL (SqL.of (e7 _ _ gW)) ?_
            k_updF
            refine WP.ixT har WP.at1 ?_
            k_updF
            refine WP.appL (e7 _ _ gW) (by unfold WP.iL; rw [List.length_map, List.length_reverse, sizeLine_eq]; omega) ?_
            k_updF
            exact ⟨WP.same_mut (e6.trans e7) hW0, by rw [upd_ne nSW]; exact e7 _ _ gS, by rw [upd_same, WP.app_iL, if_pos c2], _, rfl⟩
          · k_updF
            exact ⟨e6.trans e7, e7 _ _ gS, by rw [if_neg c2, List.append_nil]; exact e7 _ _ gW, _, rfl⟩
        clear gS gW e6 har
        rintro σ' H8 ⟨e6, gS, gW, z, rfl⟩
        generalize eL1 : (if r.k = "jump" ∨ r.k = "zero" then [r.a] else []) = L1 at gW lL1
        have har := WP.sqt e6 har0
        have n2 := MFw.cal_len (st := st) (r := r) (P.cl r hrm)
        refine WP.cut (fun σ' H' => Same H H' ∧ H' S = some (.lst (WP.iL (seen ++ [v]))) ∧ H' W = some (.lst (WP.iL (q2.reverse ++ L1 ++ MFw.cal st r))) ∧ ∃ z, σ' = [some (.ref p), some (.ref q), some (.ref S), some (.ref W), z, some (.int (v : Int)), some (.ref ra), some (.bl (MFw.lastAt st rs.length v))]) ?_ ?_
        · k_updF
          refine WP.ixT har WP.at0 ?_
          k_updF
          rw [MFw.sx]
          refine WP.br (fun c2 => ?_) (fun c2 => ?_)
          · obtain ⟨hab, hbl⟩ := P.cl r hrm c2
            have har : SqT K H8 ra [.str r.k, .int (r.a : Int), .int (r.b : Int)] := by rw [← (P.ok r hrm).c c2]; exact har
            have ec : MFw.cal st r = (st.drop r.a).take (r.b + 1 - r.a) := if_pos c2
            k_updF
            refine WP.tyL (SqL.of gW) ?_
            k_updF
            refine WP.ixT har WP.at1 ?_
            k_updF
            refine WP.ixT har WP.at2 ?_
            k_updF
            refine WP.slL (WP.sql e6 hp) (fun p4 hp4 => ?_)
            k_updF
            refine WP.listL (SqL.of upd_same) (fun p5 hp5 => ?_)
            rw [show ((r.b : Int) + 1) = ((r.b + 1 : Nat) : Int) by omega, MFw.cut_mid (by omega) (by omega), ← ec]
            rw [show ((r.b : Int) + 1) = ((r.b + 1 : Nat) : Int) by omega, MFw.cut_mid (by omega) (by omega), ← ec] at hp5
            have e9 : Same H8 (upd (upd H8 p4 (.lst (WP.iL (MFw.cal st r)))) p5 (.lst (WP.iL (MFw.cal st r)))) := (WP.same_new hp4).trans (WP.same_new hp5)
            k_updF
            refine ⟨W, p5, _, _, rfl, rfl, e9 _ _ gW, .inl upd_same, by unfold WP.iL; rw [List.length_map, List.length_map, List.length_append, List.length_reverse]; omega, ?_⟩
            k_updF
            exact ⟨WP.same_mut (e6.trans e9) hW0, by rw [upd_ne nSW]; exact e9 _ _ gS, by rw [upd_same]; unfold WP.iL; rw [← List.map_append], _, rfl⟩
          · have ec : MFw.cal st r = [] := if_neg c2
            k_updF
            exact ⟨e6, gS, by rw [ec, List.append_nil]; exact gW, _, rfl⟩
        clear gS gW e6 har
        rintro σ' H9 ⟨e6, gS, gW, z, rfl⟩
        have har := WP.sqt e6 har0
        have fin : ∀ (L : List Nat) (σ' : L2.St) (H' : Hp), (∃ z, σ' = [some (.ref p), some (.ref q), some (.ref S), some (.ref W), z, some (.int (v : Int)), some (.ref ra), some (.bl (MFw.lastAt st rs.length v))]) → L = MFw.suc2 st rs.length r v → Same H H' → H' S = some (.lst (WP.iL (seen ++ [v]))) → H' W = some (.lst (WP.iL (q2.reverse ++ L))) →
            ∃ (seen q2 : List Nat) (z z2 z3 z4 : Option V), σ' = [some (.ref p), some (.ref q), some (.ref S), some (.ref W), z, z2, z3, z4] ∧ Same H H' ∧ H' S = some (.lst (WP.iL seen)) ∧ H' W = some (.lst (WP.iL q2.reverse)) ∧
            MFw.WI (MFw.suc st rs) rs.length 0 seen q2.reverse ∧ (q2 = [] ∨ i + 1 + q2.length + (rs.length - seen.length) * (st.length + 2) ≤ rs.length * (st.length + 3)) ∧ q2.length ≤ 60000 := by
          rintro L σ' H' ⟨z, rfl⟩ eL e gS gW
          have J : MFw.WI (MFw.suc st rs) rs.length 0 (seen ++ [v]) (q2.reverse ++ L) := I.take c (fun y => by rw [MFw.suc_at hr, eL]; exact MFw.suc2_mem y) (fun y hy => MFw.suc_lt P hy)
          have l1 := J.size
          have l2 := MFw.suc2_len (n := rs.length) (i := v) (P.cl r hrm) sl0
          rw [← eL] at l2
          rw [List.length_append, List.length_singleton] at l1
          have l3 : (rs.length - seen.length) * (st.length + 2) = (rs.length - (seen ++ [v]).length) * (st.length + 2) + (st.length + 2) := by
            rw [List.length_append, List.length_singleton, show rs.length - seen.length = (rs.length - (seen.length + 1)) + 1 by omega, Nat.add_mul, Nat.one_mul]
          have er : (L.reverse ++ q2).reverse = q2.reverse ++ L := by simp
          exact ⟨seen ++ [v], L.reverse ++ q2, _, _, _, _, rfl, e, gS, by rw [er]; exact gW, by rw [er]; exact J, .inr (by rw [List.length_append, List.length_reverse]; omega), by rw [List.length_append, List.length_reverse]; omega⟩
        k_updF
        refine WP.ixT har WP.at0 ?_
        k_updF
        refine ⟨WP.sz (show 2 ≤ 1000000 by decide), fun p3 hp3 => ?_⟩
        have e7 : Same H9 (upd H9 p3 (.lst [.str "jump", .str "halt"])) := WP.same_new hp3
        have g3 : (upd H9 p3 (.lst [.str "jump", .str "halt"])) p3 = some (.lst [.str "jump", .str "halt"]) := upd_same
        have gS := e7 _ _ gS
        have gW := e7 _ _ gW
        have e8 := e6.trans e7
        generalize upd H9 p3 _ = H10 at e7 g3 gS gW e8 ⊢
        refine MFw.notInS2 (SqL.of g3) ?_
        have har := WP.sqt e8 har0
        have eW2 : WP.iL (q2.reverse ++ L1 ++ MFw.cal st r) = WP.iL (q2.reverse ++ (L1 ++ MFw.cal st r)) := by rw [List.append_assoc]
        have lW : (WP.iL (q2.reverse ++ L1 ++ MFw.cal st r)).length < sizeLine := by unfold WP.iL; rw [List.length_map, List.length_append, List.length_append, List.length_reverse, sizeLine_eq]; omega
        refine ⟨_, rfl, ?_⟩
        by_cases c3 : r.k = "jump" ∨ r.k = "halt"
        · rw [decide_eq_true c3, if_neg (show ¬ (!true) = true by decide)]
          k_updF
          exact fin (L1 ++ MFw.cal st r) _ _ ⟨_, rfl⟩ (by unfold MFw.suc2; rw [eL1, if_neg (fun z => by rcases c3 with y | y; exact z.1.1 y; exact z.1.2 y), List.append_nil]) e8 gS (by rw [← eW2]; exact gW)
        rw [decide_eq_false c3, if_pos (show (!false) = true by decide)]
        have c3a : r.k ≠ "jump" ∧ r.k ≠ "halt" := ⟨fun z => c3 (.inl z), fun z => c3 (.inr z)⟩
        k_updF
        refine WP.ixT har WP.at0 ?_
        k_updF
        rw [MFw.sx]
        refine WP.br (fun c4 => ?_) (fun c4 => ?_)
        · k_updF
          cases c5 : MFw.lastAt st rs.length v with
          | true =>
            rw [if_neg (show ¬ (!true) = true by decide)]
            k_updF
            rw [← c5]
            exact fin (L1 ++ MFw.cal st r) _ _ ⟨_, rfl⟩ (by unfold MFw.suc2; rw [eL1, if_neg (fun z => z.2 ⟨c4, c5⟩), List.append_nil]) e8 gS (by rw [← eW2]; exact gW)
          | false =>
            rw [if_pos (show (!false) = true by decide)]
            k_updF
            refine WP.tyL (SqL.of gW) ?_
            k_updF
            refine WP.appL gW lW ?_
            k_updF
            exact fin (L1 ++ MFw.cal st r ++ [v + 1]) _ _ ⟨_, by rw [c5]⟩ (by unfold MFw.suc2; rw [eL1, if_pos ⟨c3a, fun z => by rw [c5] at z; exact nomatch z.2⟩]) (WP.same_mut e8 hW0) (by rw [upd_ne nSW]; exact gS) (by rw [upd_same, eW2]; exact (congrArg (fun x => some (HO.lst x)) (WP.app_iL (v := v + 1))).trans (by rw [List.append_assoc]))
        · rw [if_pos (show (!false) = true by decide)]
          k_updF
          refine WP.tyL (SqL.of gW) ?_
          k_updF
          refine WP.appL gW lW ?_
          k_updF
          exact fin (L1 ++ MFw.cal st r ++ [v + 1]) _ _ ⟨_, rfl⟩ (by unfold MFw.suc2; rw [eL1, if_pos ⟨c3a, fun z => c4 z.1⟩]) (WP.same_mut e8 hW0) (by rw [upd_ne nSW]; exact gS) (by rw [upd_same, eW2]; exact (congrArg (fun x => some (HO.lst x)) (WP.app_iL (v := v + 1))).trans (by rw [List.append_assoc]))
    rintro σ' H' ⟨seen, q2, z, z2, z3, z4, rfl, e, gS, gW, I, hb, hq2⟩
    rw [Int.toNat_natCast] at hb
    have hq0 : q2 = [] := by
      rcases hb with hb | hb
      · exact hb
      · exact List.length_eq_zero_iff.mp (by omega)
    subst hq0
    k_updF
    refine ⟨S, seen.map fun (i : Nat) => (i : Int), rfl, by rw [List.map_map]; exact SqL.of gS, fun ns' l hp2 hs hl => ?_⟩
    k_updF
    exact k l ns' seen _ (e.trans (WP.same_new hl)) upd_same hp2 hs I
end
abbrev s_last_places : Stmt := top 2
abbrev N_last_places : List Str := ["starts", "many", "ends", "end"]
theorem sc_last_places : FnScope N_last_places ["starts", "many"] (defScope s_last_places) := ⟨rfl, rfl, rfl, by decide +kernel, rfl, by decide +kernel, by decide +kernel⟩
open MFw in
def sp_last_places (K : PySem.W.Frag) (mg : WP.MG) : Sp := fun vs H Q _ => ∃ (st : List Nat) (n : Nat) (q : Addr), vs = [.ref q, .int (n : Int)] ∧ (SqL K H q (WP.iL st) ∨ SqT K H q (WP.iL st)) ∧ st.length ≤ 1000 ∧ ∀ (d : Addr) (kvs : List (Key × V)) (H' : Hp), H d = none → Same H H' → H' d = some (.dK kvs) → (∀ i : Nat, (valV kvs (Sum.inl (i : Int))).isSome = decide (i + 1 = n ∨ i + 1 ∈ st.tail)) → Q (.ref d) H'
section
variable {P : Program} {w : World} {K : PySem.W.Frag} {mg : Str → Option Value} {base : Heap}
theorem ok_last_places {f : Addr} {fd : FuncData} (F : Fun K "last_places" "last_places" s_last_places f fd) (B : Blt w K mg)  : FnOk P w K mg base CX0 1 f fd ["starts", "many"] (sp_last_places K mg) := by
  refine F.ok sc_last_places (fun vs H Q E h => ?_) (fun cdv A outer s H vs Q E hr h => ?_)
  · first | (obtain ⟨_, rfl, _⟩ := h; rfl) | (obtain ⟨_, _, rfl, _⟩ := h; rfl) | (obtain ⟨_, _, _, rfl, _⟩ := h; rfl) | (obtain ⟨_, _, _, _, rfl, _⟩ := h; rfl) | (obtain ⟨_, _, _, _, _, rfl, _⟩ := h; rfl) | (obtain ⟨_, _, _, _, _, _, rfl, _⟩ := h; rfl) | (obtain ⟨_, _, _, _, _, _, _, rfl, _⟩ := h; rfl) | (obtain ⟨_, _, _, _, _, _, _, _, rfl, _⟩ := h; rfl) | (obtain ⟨rfl, _⟩ := h; rfl)
  · obtain ⟨st, n, q, rfl, hq, hl, k⟩ := h
    refine ⟨_, (pss_cons (ps_set (i := 2) sc_last_places.nd rfl (Or.inl rfl) (pe_lst (StX.pa_star (pe_slice WP.sl_any (pv 0) (po_some pe_int) po_none) (WP.pa_consN (pv 1) pa_nil))))
      (pss_one (ps_ret (pe_dc (own := [("end", 3)]) (g := gName 3) (tt := tYes) rfl sc_last_places.nd (pi_list (pv 2)) (blkOk_by (own := [("end", 3)]) (N := N_last_places) (sc := defScope s_last_places) (by decide +kernel)) (fun _ _ _ _ _ => pg_name (i := 3) sc_last_places.nd rfl (Or.inl rfl)) (fun _ _ _ _ _ => pts_nil) (fun _ _ _ _ _ => (pe_op op_sub (pv 3) pe_int)) (fun _ _ _ _ _ => pe_bl))))), ?_⟩
    k_updF
    refine WP.cutA hq (fun p1 H1 e1 h1 => ?_)
    refine ⟨p1, _, rfl, (h1.imp SqL.of id).symm, ?_⟩
    k_updF
    have ecut : cutV (WP.iL st) (some 1) none ++ [V.int (n : Int)] = WP.iL (st.tail ++ [n]) := by
      rw [MFw.cut_from]; unfold WP.iL; rw [List.map_append]; rfl
    refine ⟨by rw [ecut]; unfold WP.iL; rw [List.length_map, List.length_append, List.length_tail, sizeLine_eq, List.length_singleton]; omega, fun p2 hp2 => ?_⟩
    rw [ecut]
    have eL : ∀ i, (i + 1 ∈ st.tail ++ [n]) ↔ (i + 1 = n ∨ i + 1 ∈ st.tail) := fun i => by
      rw [List.mem_append, List.mem_singleton]; exact Or.comm
    have lL : (st.tail ++ [n]).length ≤ 1001 := by rw [List.length_append, List.length_tail, List.length_singleton]; omega
    generalize st.tail ++ [n] = L at eL lL
    k_updF
    refine ⟨p2, rfl, ⟨_, SqL.of upd_same⟩, fun D hD => WP.dc_list (K := K) (a := p2) (xs := WP.iL L) (fun j Hx => Same H Hx ∧ Hx p2 = some (.lst (WP.iL L)) ∧ ∃ kvs : List (Key × V), Hx D = some (.dK kvs) ∧ kvs.length ≤ j ∧ ∀ i : Nat, (valV kvs (Sum.inl (i : Int))).isSome = decide (i + 1 ∈ L.take j))
      ⟨(e1.trans (WP.same_new hp2)).trans (WP.same_new hD), WP.same_new hD _ _ upd_same, [], upd_same, Nat.le_refl _, fun i => rfl⟩ (fun j Hx _ h => SqL.of h.2.1) ?_ ?_⟩
    · rintro j x Hx hjx ⟨e, hp, kvs, hDx, hl2, hv⟩
      unfold WP.iL at hjx
      rw [List.getElem?_map] at hjx
      obtain ⟨w, hw, rfl⟩ : ∃ w : Nat, L[j]? = some w ∧ V.int (w : Int) = x := by
        cases e : L[j]? with
        | none => rw [e] at hjx; cases hjx
        | some w => rw [e] at hjx; exact ⟨w, rfl, Option.some.inj hjx⟩
      have hjl : j < L.length := (List.getElem?_eq_some_iff.mp hw).1
      have et : L.take (j + 1) = L.take j ++ [w] := by rw [List.take_succ, hw]; rfl
      k_updF
      refine ⟨rfl, ?_⟩
      refine WP.yes ?_
      k_updF
      have hDn : (Same H Hx) := e
      refine ⟨kvs, Sum.inl ((w : Int) - 1), rfl, hDx, by rw [sizeLine_eq]; omega, WP.same_mut e ?_, ?_, putK kvs (Sum.inl ((w : Int) - 1)) (.bl true), upd_same, ?_, fun i => ?_⟩
      · exact (e1.trans (WP.same_new hp2)).free hD
      · rw [upd_ne (fun z => by rw [z, upd_same] at hD; cases hD)]; exact hp
      · exact Nat.le_trans (length_putK ..) (by omega)
      · rw [valV_put, et]
        by_cases c : i + 1 = w
        · rw [if_pos (by rw [← c]; exact congrArg Sum.inl (by omega))]
          exact (decide_eq_true (List.mem_append.mpr (.inr (by rw [c]; exact List.mem_singleton.mpr rfl)))).symm
        · rw [if_neg (fun z => c (by have := Sum.inl.inj z; omega)), hv i]
          refine decide_eq_decide.mpr ⟨fun z => List.mem_append_left _ z, fun z => ?_⟩
          rcases List.mem_append.mp z with z | z
          · exact z
          · exact absurd (List.mem_singleton.mp z) c
    rintro Hx ⟨e, _, kvs, hDx, _, hv⟩
    unfold WP.iL at hv
    rw [List.length_map, List.take_length] at hv
    exact k D kvs Hx ((e1.trans (WP.same_new hp2)).free hD) e hDx (fun i => by rw [hv i]; exact decide_eq_decide.mpr (eL i))
end
abbrev s_next_places : Stmt := top 1
abbrev N_next_places : List Str := ["place", "instruction", "is_last", "kind"]
theorem sc_next_places : FnScope N_next_places ["place", "instruction", "is_last"] (defScope s_next_places) := ⟨rfl, rfl, rfl, by decide +kernel, rfl, by decide +kernel, by decide +kernel⟩
open MFw in
def sp_next_places (K : PySem.W.Frag) (mg : WP.MG) : Sp := fun vs H Q _ => ∃ (i : Nat) (r : R) (last : Bool) (q : Addr), vs = [.int (i : Int), .ref q, .bl last] ∧ SqT K H q r.row ∧ r.Ok ∧ ∀ (p : Addr) (H' : Hp), Same H H' → SqT K H' p (WP.iL (nxt r last i)) → Q (.ref p) H'
section
variable {P : Program} {w : World} {K : PySem.W.Frag} {mg : Str → Option Value} {base : Heap}
theorem ok_next_places {f : Addr} {fd : FuncData} (F : Fun K "next_places" "next_places" s_next_places f fd) (B : Blt w K mg)  : FnOk P w K mg base CX0 1 f fd ["place", "instruction", "is_last"] (sp_next_places K mg) := by
  refine F.ok sc_next_places (fun vs H Q E h => ?_) (fun cdv A outer s H vs Q E hr h => ?_)
  · first | (obtain ⟨_, rfl, _⟩ := h; rfl) | (obtain ⟨_, _, rfl, _⟩ := h; rfl) | (obtain ⟨_, _, _, rfl, _⟩ := h; rfl) | (obtain ⟨_, _, _, _, rfl, _⟩ := h; rfl) | (obtain ⟨_, _, _, _, _, rfl, _⟩ := h; rfl) | (obtain ⟨_, _, _, _, _, _, rfl, _⟩ := h; rfl) | (obtain ⟨_, _, _, _, _, _, _, rfl, _⟩ := h; rfl) | (obtain ⟨_, _, _, _, _, _, _, _, rfl, _⟩ := h; rfl) | (obtain ⟨rfl, _⟩ := h; rfl)
  · obtain ⟨i, r, last, q, rfl, hq, ho, k⟩ := h
    refine ⟨_, (pss_cons (ps_set (i := 3) sc_next_places.nd rfl (Or.inl rfl) (pe_ix ix_tup (pv 1) pe_int (fun _ _ => rfl)))
      (Evl.pss_cut (ps_if (PW.pt (pw_or (pt_cmpR op_eq (pv 3) pe_str (nomark _)) (pw_or1 (PW.pt (pw_and (pt_cmpR op_eq (pv 3) pe_str (nomark _)) (pw_and1 (pt_val (pv 2)))))))) (pss_one (ps_ret (pe_tup pa_nil))) pss_nil)
      (pss_cons (ps_if (pt_cmpR op_eq (pv 3) pe_str (nomark _)) (pss_one (ps_ret (pe_tup (WP.pa_consN (pe_ix ix_tup (pv 1) pe_int (fun _ _ => rfl)) pa_nil)))) pss_nil)
      (pss_cons (ps_if (pt_cmpR op_eq (pv 3) pe_str (nomark _)) (pss_one (ps_ret (pe_tup (WP.pa_consN (pe_op op_add (pv 0) pe_int) (WP.pa_consN (pe_ix ix_tup (pv 1) pe_int (fun _ _ => rfl)) pa_nil))))) pss_nil)
      (pss_one (ps_ret (pe_tup (WP.pa_consN (pe_op op_add (pv 0) pe_int) pa_nil)))))))), ?_⟩
    k_updF
    refine WP.ixT hq WP.at0 ?_
    k_updF
    refine WP.cut (fun σ' H' => H' = H ∧ σ' = [some (.int (i : Int)), some (.ref q), some (.bl last), some (.str r.k)] ∧ ¬ r.k = "halt" ∧ ¬ (r.k = "leave" ∧ last = true)) ?_ ?_
    · k_updF
      rw [MFw.sx]
      refine WP.br (fun c => ?_) (fun c => ?_)
      · rw [if_pos rfl]
        have e : MFw.nxt r last i = [] := by unfold MFw.nxt; rw [if_pos c]
        k_updF
        refine ⟨WP.sz (show 0 ≤ 1000000 by decide), fun p hp => ?_⟩
        exact k p _ (WP.same_new hp) (by rw [e]; exact SqT.of upd_same)
      k_updF
      rw [MFw.sx]
      refine WP.br (fun c2 => ?_) (fun c2 => ?_)
      · k_updF
        refine WP.brB (fun c5 => ?_) (fun c5 => ?_)
        · have e : MFw.nxt r last i = [] := by unfold MFw.nxt; rw [if_neg c, if_pos ⟨c2, c5⟩]
          k_updF
          refine ⟨WP.sz (show 0 ≤ 1000000 by decide), fun p hp => ?_⟩
          exact k p _ (WP.same_new hp) (by rw [e]; exact SqT.of upd_same)
        · k_updF
          exact ⟨rfl, rfl, c, fun z => by rw [c5] at z; exact nomatch z.2⟩
      · k_updF
        exact ⟨rfl, rfl, c, fun z => c2 z.1⟩
    rintro σ' H' ⟨rfl, rfl, c, c2⟩
    k_updF
    rw [MFw.sx]
    refine WP.br (fun c3 => ?_) (fun c3 => ?_)
    · have e : MFw.nxt r last i = [r.a] := by unfold MFw.nxt; rw [if_neg c, if_neg c2, if_pos c3]
      have hq2 : SqT K H' q [.str r.k, .int (r.a : Int)] := by rw [← ho.j c3]; exact hq
      k_updF
      refine WP.ixT hq2 WP.at1 ?_
      k_updF
      refine ⟨WP.sz (show 1 ≤ 1000000 by decide), fun p hp => ?_⟩
      exact k p _ (WP.same_new hp) (by rw [e]; exact SqT.of upd_same)
    k_updF
    rw [MFw.sx]
    refine WP.br (fun c4 => ?_) (fun c4 => ?_)
    · have e : MFw.nxt r last i = [i + 1, r.a] := by unfold MFw.nxt; rw [if_neg c, if_neg c2, if_neg c3, if_pos c4]
      have hq2 : SqT K H' q [.str r.k, .int (r.a : Int)] := by rw [← ho.z c4]; exact hq
      k_updF
      refine WP.ixT hq2 WP.at1 ?_
      k_updF
      refine ⟨WP.sz (show 2 ≤ 1000000 by decide), fun p hp => ?_⟩
      exact k p _ (WP.same_new hp) (by rw [e]; exact SqT.of upd_same)
    have e : MFw.nxt r last i = [i + 1] := by unfold MFw.nxt; rw [if_neg c, if_neg c2, if_neg c3, if_neg c4]
    k_updF
    refine ⟨WP.sz (show 1 ≤ 1000000 by decide), fun p hp => ?_⟩
    exact k p _ (WP.same_new hp) (by rw [e]; exact SqT.of upd_same)
end
abbrev s_reached : Stmt := top 3
abbrev N_reached : List Str := ["starts", "rows", "found", "lasts", "waiting", "place", "instruction"]
theorem sc_reached : FnScope N_reached ["starts", "rows"] (defScope s_reached) := ⟨rfl, rfl, rfl, by decide +kernel, rfl, by decide +kernel, by decide +kernel⟩
open MFw in
def RwsAt (K : PySem.W.Frag) (H : Hp) (q : Addr) (rs : List R) : Prop := ∃ ys : List V, (SqL K H q ys ∨ SqT K H q ys) ∧ ys.length = rs.length ∧ ∀ (i : Nat) (r : R), rs[i]? = some r → ∃ a, ys[i]? = some (.ref a) ∧ SqT K H a r.row
theorem RwsAt.same {K : PySem.W.Frag} {H H' : Hp} {q : Addr} {rs : List MFw.R} (e : Same H H') (h : RwsAt K H q rs) : RwsAt K H' q rs := by
  obtain ⟨ys, h1, h2, h3⟩ := h
  exact ⟨ys, h1.imp (fun z => WP.sql e z) fun z => WP.sqt e z, h2, fun i r hr => by obtain ⟨a, e1, e2⟩ := h3 i r hr; exact ⟨a, e1, WP.sqt e e2⟩⟩
open MFw in
def sp_reached (K : PySem.W.Frag) (mg : WP.MG) : Sp := fun vs H Q _ => ∃ (st : List Nat) (rs : List R) (p q : Addr), vs = [.ref p, .ref q] ∧ (SqL K H p (WP.iL st) ∨ SqT K H p (WP.iL st)) ∧ RwsAt K H q rs ∧ Prog st rs ∧ st.length ≤ 100 ∧ rs.length ≤ 500 ∧
  ∀ (d : Addr) (kvs : List (Key × V)) (seen : List Nat) (H' : Hp), Same H H' → H' d = some (.dK kvs) → kvs.map (·.1) = seen.map (fun (i : Nat) => (Sum.inl (i : Int) : Key)) → WI (suc st rs) rs.length 0 seen [] → Q (.ref d) H'
section
variable {P : Program} {w : World} {K : PySem.W.Frag} {mg : Str → Option Value} {base : Heap}
theorem ok_reached {f : Addr} {fd : FuncData} (F : Fun K "reached" "reached" s_reached f fd) (B : Blt w K mg) (c_last_places : WP.Callee P w K mg base CX0 1 "last_places" ["starts", "many"] (sp_last_places K mg)) (c_next_places : WP.Callee P w K mg base CX0 1 "next_places" ["place", "instruction", "is_last"] (sp_next_places K mg)) : FnOk P w K mg base CX0 2 f fd ["starts", "rows"] (sp_reached K mg) := by
  refine F.ok sc_reached (fun vs H Q E h => ?_) (fun cdv A outer s H vs Q E hr h => ?_)
  · first | (obtain ⟨_, rfl, _⟩ := h; rfl) | (obtain ⟨_, _, rfl, _⟩ := h; rfl) | (obtain ⟨_, _, _, rfl, _⟩ := h; rfl) | (obtain ⟨_, _, _, _, rfl, _⟩ := h; rfl) | (obtain ⟨_, _, _, _, _, rfl, _⟩ := h; rfl) | (obtain ⟨_, _, _, _, _, _, rfl, _⟩ := h; rfl) | (obtain ⟨_, _, _, _, _, _, _, rfl, _⟩ := h; rfl) | (obtain ⟨_, _, _, _, _, _, _, _, rfl, _⟩ := h; rfl) | (obtain ⟨rfl, _⟩ := h; rfl)
  · obtain ⟨st, rs, p, q, rfl, hp, hq, P, hsl, hrl, k⟩ := h
    refine ⟨_, (pss_cons (ps_set (i := 2) sc_reached.nd rfl (Or.inl rfl) pe_dnewK)
      (pss_cons (ps_set (i := 3) sc_reached.nd rfl (Or.inl rfl) (WP.pe_callC c_last_places hr rfl pass0 (WP.pa_consN (pv 0) (WP.pa_consN (pe_callB WP.c_len (by rfl) B.b_len (by decide +kernel) (WP.pa_consN (pv 1) pa_nil)) pa_nil))))
      (pss_cons (ps_set (i := 4) sc_reached.nd rfl (Or.inl rfl) (pe_callTy WP.c_listOf (by rfl) B.b_list (by decide +kernel) (WP.pa_consN (pe_slice WP.sl_any (pv 0) po_none (po_some pe_int)) pa_nil)))
      (pss_cons (ps_while PassesOwn.never (pt_truth (pv 4) (by intro _; rfl)) (pss_cons (ps_set (i := 5) sc_reached.nd rfl (Or.inl rfl) (pe_bm0 PySem.F.plainAttrs_list PySem.F.slot_list_pop PySem.F.type_list_pop mt_pop (pv 4)))
      (pss_cons (ps_if (PW.pt (pw_or (pt_cmp (pc_din (hu_of hr) (pv 5) (pv 2))) (pw_or1 (pt_not (pt_chain op_le op_lt pe_int (pv 5) (pe_callB WP.c_len (by rfl) B.b_len (by decide +kernel) (WP.pa_consN (pv 1) pa_nil))))))) (pss_one ps_continue) pss_nil)
      (pss_cons (ps_dput (hu_of hr) (pv 2) (pv 5) pe_bl rfl)
      (pss_cons (ps_set (i := 6) sc_reached.nd rfl (Or.inl rfl) (pe_ix WP.ix_any (pv 1) (pv 5) (fun _ _ => rfl)))
      (pss_cons (ps_expr (pe_bm PySem.F.plainAttrs_list PySem.F.slot_list_extend PySem.F.type_list_extend WP.mt_extendA (pv 4) (WP.pa_consN (WP.pe_callC c_next_places hr rfl pass0 (WP.pa_consN (pv 5) (WP.pa_consN (pv 6) (WP.pa_consN (pe_cmp (pc_din (hu_of hr) (pv 5) (pv 3)) rfl) pa_nil)))) pa_nil)))
      (pss_one (ps_if (pt_cmpR op_eq (pe_ix ix_tup (pv 6) pe_int (fun _ _ => rfl)) pe_str (nomark _)) (pss_one (ps_expr (pe_bm PySem.F.plainAttrs_list PySem.F.slot_list_extend PySem.F.type_list_extend WP.mt_extendA (pv 4) (WP.pa_consN (pe_slice WP.sl_any (pv 0) (po_some (pe_ix ix_tup (pv 6) pe_int (fun _ _ => rfl))) (po_some (pe_op op_add (pe_ix ix_tup (pv 6) pe_int (fun _ _ => rfl)) pe_int))) pa_nil)))) pss_nil))))))))
      (pss_one (ps_ret (pv 2))))))), ?_⟩
    k_updF
    refine fun F hF => ?_
    k_updF
    obtain ⟨ys, hy, hyl, hya⟩ := id hq
    have eF : Same H (upd H F (.dK [])) := WP.same_new hF
    have gF : (upd H F (.dK [])) F = some (.dK []) := upd_same
    generalize upd H F _ = H1 at eF gF ⊢
    refine MFw.lenA (hy.imp (fun z => WP.sql eF z) fun z => WP.sqt eF z) ?_
    rw [hyl]
    k_updF
    refine ⟨st, rs.length, p, rfl, hp.imp (fun z => WP.sql eF z) fun z => WP.sqt eF z, by omega, fun D lk H2 nD e2 hD hlk => ?_⟩
    have nFD : F ≠ D := ne_of_none gF nD
    k_updF
    have e12 := eF.trans e2
    refine WP.cutA (hp.imp (fun z => WP.sql e12 z) fun z => WP.sqt e12 z) (fun p1 H3 e3 hp1 => ?_)
    k_updF
    refine MFw.listA (hp1.imp SqL.of id) (fun W hW => ?_)
    obtain ⟨t, hst⟩ := P.z0
    have ew : cutV (WP.iL st) none (some 1) = WP.iL [0] := by rw [hst]; exact MFw.cut_one 0 t
    rw [ew]
    have e13 := e12.trans e3
    have eW : Same H3 (upd H3 W (.lst (WP.iL [0]))) := WP.same_new hW
    have gW : (upd H3 W (.lst (WP.iL [0]))) W = some (.lst (WP.iL ([0] : List Nat).reverse)) := upd_same
    have nFW : F ≠ W := ne_of_none (e3 _ _ (e2 _ _ gF)) hW
    have nDW : D ≠ W := ne_of_none (e3 _ _ hD) hW
    have hW0 : H W = none := e13.free hW
    have gF := eW _ _ (e3 _ _ (e2 _ _ gF))
    have gD := eW _ _ (e3 _ _ hD)
    have e4 := e13.trans eW
    generalize upd H3 W _ = H4 at eW gW gF gD e4 ⊢
    k_updF
    refine ⟨fun m σ' H' => ∃ (kvs : List (Key × V)) (seen q2 : List Nat) (z z2 : Option V), σ' = [some (.ref p), some (.ref q), some (.ref F), some (.ref D), some (.ref W), z, z2] ∧ Same H H' ∧ H' F = some (.dK kvs) ∧ H' D = some (.dK lk) ∧ H' W = some (.lst (WP.iL q2.reverse)) ∧
      kvs.map (·.1) = seen.map (fun (i : Nat) => (Sum.inl (i : Int) : Key)) ∧ MFw.WI (MFw.suc st rs) rs.length 0 seen q2.reverse ∧ m = q2.length + (rs.length - seen.length) * (st.length + 3) ∧ m ≤ 1 + rs.length * (st.length + 3), ⟨_, [], [], [0], none, none, rfl, e4, gF, gD, gW, rfl, .init P.pos, rfl, by show 1 + (rs.length - 0) * _ ≤ _; rw [Nat.sub_zero]; exact Nat.le_refl _⟩, ?_⟩
    clear gF gD gW eW hp1 eF e2 e3 e12 e13 hD
    rintro m σ' H' ⟨kvs, seen, q2, z, z2, rfl, e, gF, gD, gW, hk, I, hm, hb⟩
    k_updF
    refine ⟨_, WP.trL (SqL.of gW), ?_⟩
    cases q2 with
    | nil =>
      refine WP.brF rfl ?_
      k_updF
      exact k F kvs seen H' e gF hk I
    | cons v q2 =>
      rw [List.length_cons] at hm
      have hsn := I.size
      have hvn : v < rs.length := I.lt v (.inr (by simp))
      rw [List.reverse_cons] at I
      refine WP.brT WP.tr_rev ?_
      refine ⟨fun σ' H' => ∃ m', m' < m ∧ ∃ (kvs : List (Key × V)) (seen q2 : List Nat) (z z2 : Option V), σ' = [some (.ref p), some (.ref q), some (.ref F), some (.ref D), some (.ref W), z, z2] ∧ Same H H' ∧ H' F = some (.dK kvs) ∧ H' D = some (.dK lk) ∧ H' W = some (.lst (WP.iL q2.reverse)) ∧
      kvs.map (·.1) = seen.map (fun (i : Nat) => (Sum.inl (i : Int) : Key)) ∧ MFw.WI (MFw.suc st rs) rs.length 0 seen q2.reverse ∧ m' = q2.length + (rs.length - seen.length) * (st.length + 3) ∧ m' ≤ 1 + rs.length * (st.length + 3), fun _ _ x => x, ?_⟩
      k_updF
      refine WP.tyL (SqL.of gW) ?_
      refine WP.popRev gW ?_
      have e5 : Same H (upd H' W (.lst (WP.iL q2.reverse))) := WP.same_mut e hW0
      have gF : (upd H' W (.lst (WP.iL q2.reverse))) F = some (.dK kvs) := by rw [upd_ne nFW]; exact gF
      have gD : (upd H' W (.lst (WP.iL q2.reverse))) D = some (.dK lk) := by rw [upd_ne nDW]; exact gD
      have gW : (upd H' W (.lst (WP.iL q2.reverse))) W = some (.lst (WP.iL q2.reverse)) := upd_same
      generalize upd H' W _ = H5 at e5 gF gD gW ⊢
      clear e
      k_updF
      refine ⟨F, _, rfl, DGet.k (k := Sum.inl (v : Int)) gF, ?_⟩
      rw [MFw.key_in hk v]
      refine ⟨_, rfl, ?_⟩
      refine WP.br (fun c => ?_) (fun c => ?_)
      · rw [if_pos rfl]
        k_updF
        exact ⟨_, by omega, kvs, seen, q2, _, _, rfl, e5, gF, gD, gW, hk, I.skip c, rfl, by omega⟩
      k_updF
      refine WP.chain ?_
      k_updF
      refine WP.brT (decide_eq_true (show (0 : Int) ≤ (v : Int) by omega)) ?_
      k_updF
      refine MFw.lenA (hy.imp (fun z => WP.sql e5 z) fun z => WP.sqt e5 z) ?_
      rw [hyl]
      k_updF
      rw [decide_eq_true (show (v : Int) < (rs.length : Int) by omega)]
      refine WP.brF rfl ?_
      obtain ⟨r, hr⟩ : ∃ r, rs[v]? = some r := ⟨_, List.getElem?_eq_getElem hvn⟩
      have hrm := List.mem_of_getElem? hr
      obtain ⟨ra, hra, har⟩ := hya v r hr
      have har := WP.sqt e5 har
      have hkl : kvs.length = seen.length := by have := congrArg List.length hk; rwa [List.length_map, List.length_map] at this
      have fin : ∀ (L : List Nat) (σ' : L2.St) (H' : Hp), σ' = [some (.ref p), some (.ref q), some (.ref F), some (.ref D), some (.ref W), some (.int (v : Int)), some (.ref ra)] → L = MFw.nxt r (MFw.lastAt st rs.length v) v ++ MFw.cal st r → Same H H' → H' F = some (.dK (putK kvs (Sum.inl (v : Int)) (.bl true))) → H' D = some (.dK lk) → H' W = some (.lst (WP.iL q2.reverse ++ WP.iL L)) → ∃ m', m' < m ∧ ∃ (kvs : List (Key × V)) (seen q2 : List Nat) (z z2 : Option V), σ' = [some (.ref p), some (.ref q), some (.ref F), some (.ref D), some (.ref W), z, z2] ∧ Same H H' ∧ H' F = some (.dK kvs) ∧ H' D = some (.dK lk) ∧ H' W = some (.lst (WP.iL q2.reverse)) ∧
      kvs.map (·.1) = seen.map (fun (i : Nat) => (Sum.inl (i : Int) : Key)) ∧ MFw.WI (MFw.suc st rs) rs.length 0 seen q2.reverse ∧ m' = q2.length + (rs.length - seen.length) * (st.length + 3) ∧ m' ≤ 1 + rs.length * (st.length + 3) := by
        intro L σ' H' eσ eL e gF gD gW
        have J : MFw.WI (MFw.suc st rs) rs.length 0 (seen ++ [v]) (q2.reverse ++ L) := I.take c (fun y => by rw [MFw.suc_at hr, eL]) (fun y hy => MFw.suc_lt P hy)
        have l1 := J.size
        have l2 : L.length ≤ st.length + 2 := by
          rw [eL, List.length_append]
          have h1 := MFw.nxt_len (r := r) (b := MFw.lastAt st rs.length v) (i := v)
          have h2 := MFw.cal_len (st := st) (r := r) (P.cl r hrm)
          omega
        rw [List.length_append, List.length_singleton] at l1
        have l3 : (rs.length - seen.length) * (st.length + 3) = (rs.length - (seen ++ [v]).length) * (st.length + 3) + (st.length + 3) := by
          rw [List.length_append, List.length_singleton, show rs.length - seen.length = (rs.length - (seen.length + 1)) + 1 by omega, Nat.add_mul, Nat.one_mul]
        have er : (L.reverse ++ q2).reverse = q2.reverse ++ L := by simp
        refine ⟨(L.reverse ++ q2).length + (rs.length - (seen ++ [v]).length) * (st.length + 3), by rw [List.length_append, List.length_reverse]; omega, _, seen ++ [v], L.reverse ++ q2, _, _, eσ, e, gF, gD, ?_, MFw.key_put hk c _, by rw [er]; exact J, rfl, by rw [List.length_append, List.length_reverse]; omega⟩
        rw [gW, er]
        unfold WP.iL
        rw [List.map_append]
      have lq : q2.length ≤ 60000 := by
        have : rs.length * (st.length + 3) ≤ 500 * 103 := Nat.mul_le_mul hrl (by omega)
        omega
      k_updF
      refine WP.putKI gF (by rw [sizeLine_eq]; omega) ?_
      have e6 : Same H (upd H5 F (.dK (putK kvs (Sum.inl (v : Int)) (.bl true)))) := WP.same_mut e5 hF
      have har : SqT K (upd H5 F (.dK (putK kvs (Sum.inl (v : Int)) (.bl true)))) ra r.row := by
        obtain ⟨ra', h1, h2⟩ := hya v r hr
        rw [hra] at h1; cases h1
        exact WP.sqt e6 h2
      have gD : (upd H5 F (.dK (putK kvs (Sum.inl (v : Int)) (.bl true)))) D = some (.dK lk) := by rw [upd_ne (Ne.symm nFD)]; exact gD
      have gW : (upd H5 F (.dK (putK kvs (Sum.inl (v : Int)) (.bl true)))) W = some (.lst (WP.iL q2.reverse)) := by rw [upd_ne (Ne.symm nFW)]; exact gW
      have gF : (upd H5 F (.dK (putK kvs (Sum.inl (v : Int)) (.bl true)))) F = some (.dK (putK kvs (Sum.inl (v : Int)) (.bl true))) := upd_same
      generalize upd H5 F _ = H6 at e6 har gD gW gF ⊢
      k_updF
      refine MFw.ixA (hy.imp (fun z => WP.sql e6 z) fun z => WP.sqt e6 z) (atI_nat hra) ?_
      k_updF
      refine WP.tyL (SqL.of gW) ?_
      k_updF
      refine ⟨D, _, rfl, DGet.k (k := Sum.inl (v : Int)) gD, ?_⟩
      rw [hlk v]
      refine ⟨v, r, MFw.lastAt st rs.length v, ra, rfl, har, P.ok r hrm, fun p3 H7 e7 h7 => ?_⟩
      have n1 := MFw.nxt_len (r := r) (b := MFw.lastAt st rs.length v) (i := v)
      k_updF
      refine ⟨W, p3, _, _, rfl, rfl, e7 _ _ gW, .inr h7, by unfold WP.iL; rw [List.length_map, List.length_map, List.length_reverse]; omega, ?_⟩
      have e8 : Same H (upd H7 W (.lst (WP.iL q2.reverse ++ WP.iL (MFw.nxt r (MFw.lastAt st rs.length v) v)))) := WP.same_mut (e6.trans e7) hW0
      have gF : (upd H7 W (.lst (WP.iL q2.reverse ++ WP.iL (MFw.nxt r (MFw.lastAt st rs.length v) v)))) F = some (.dK (putK kvs (Sum.inl (v : Int)) (.bl true))) := by rw [upd_ne nFW]; exact e7 _ _ gF
      have gD : (upd H7 W (.lst (WP.iL q2.reverse ++ WP.iL (MFw.nxt r (MFw.lastAt st rs.length v) v)))) D = some (.dK lk) := by rw [upd_ne nDW]; exact e7 _ _ gD
      have gW : (upd H7 W (.lst (WP.iL q2.reverse ++ WP.iL (MFw.nxt r (MFw.lastAt st rs.length v) v)))) W = _ := upd_same
      have har : SqT K (upd H7 W (.lst (WP.iL q2.reverse ++ WP.iL (MFw.nxt r (MFw.lastAt st rs.length v) v)))) ra r.row := by
        obtain ⟨ra', h1, h2⟩ := hya v r hr
        rw [hra] at h1; cases h1
        exact WP.sqt e8 h2
      generalize upd H7 W _ = H8 at e8 gF gD gW har ⊢
      k_updF
      refine WP.ixT har WP.at0 ?_
      k_updF
      rw [MFw.sx]
      refine WP.br (fun c2 => ?_) (fun c2 => ?_)
      · obtain ⟨hab, hbl⟩ := P.cl r hrm c2
        have har : SqT K H8 ra [.str r.k, .int (r.a : Int), .int (r.b : Int)] := by rw [← (P.ok r hrm).c c2]; exact har
        have ec : MFw.cal st r = (st.drop r.a).take (r.b + 1 - r.a) := if_pos c2
        k_updF
        refine WP.tyL (SqL.of gW) ?_
        k_updF
        refine WP.ixT har WP.at1 ?_
        k_updF
        refine WP.ixT har WP.at2 ?_
        k_updF
        refine WP.cutA (hp.imp (fun z => WP.sql e8 z) fun z => WP.sqt e8 z) (fun p4 H9 e9 hp4 => ?_)
        rw [show ((r.b : Int) + 1) = ((r.b + 1 : Nat) : Int) by omega, MFw.cut_mid (by omega) (by omega), ← ec] at hp4
        k_updF
        have n2 := MFw.cal_len (st := st) (r := r) (P.cl r hrm)
        refine ⟨W, p4, _, _, rfl, rfl, e9 _ _ gW, hp4, by unfold WP.iL; rw [List.length_append, List.length_map, List.length_map, List.length_map, List.length_reverse]; omega, ?_⟩
        k_updF
        refine fin _ _ _ rfl rfl (WP.same_mut (e8.trans e9) hW0) (by rw [upd_ne nFW]; exact e9 _ _ gF) (by rw [upd_ne nDW]; exact e9 _ _ gD) ?_
        rw [upd_same]
        unfold WP.iL
        rw [List.map_append, List.append_assoc]
      · have ec : MFw.cal st r = [] := if_neg c2
        k_updF
        exact fin _ _ _ rfl (by rw [ec, List.append_nil]) e8 gF gD gW
end
abbrev s__law_same : Stmt := top 7
abbrev N__law_same : List Str := ["actual", "expected", "k"]
theorem sc__law_same : FnScope N__law_same ["actual", "expected"] (defScope s__law_same) := ⟨rfl, rfl, rfl, by decide +kernel, rfl, by decide +kernel, by decide +kernel⟩
/-- two values that are the same, d tuples deep at most -/
inductive EqV (K : PySem.W.Frag) (H : Hp) : Nat → V → V → Prop where
  | int {d : Nat} (i : Int) : EqV K H d (.int i) (.int i)
  | non {d : Nat} : EqV K H d .non .non
  | bl {d : Nat} (b : Bool) : EqV K H d (.bl b) (.bl b)
  | str {d : Nat} (z : Str) (h : WP.SOk z) : EqV K H d (.str z) (.str z)
  | tup {d : Nat} {p q : Addr} {xs ys : List V} (hp : SqT K H p xs) (hq : SqT K H q ys) (hl : xs.length = ys.length) (hz : ys.length ≤ 1000)
      (h : ∀ (i : Nat) x y, xs[i]? = some x → ys[i]? = some y → EqV K H d x y) : EqV K H (d + 1) (.ref p) (.ref q)
theorem pw_nil {K : PySem.W.Frag} {H : Hp} {d : Nat} : ∀ (i : Nat) x y, ([] : List V)[i]? = some x → ([] : List V)[i]? = some y → EqV K H d x y := fun i x y h _ => by simp at h
theorem pw_cons {K : PySem.W.Frag} {H : Hp} {d : Nat} {x y : V} {xs ys : List V} (h : EqV K H d x y) (t : ∀ (i : Nat) x y, xs[i]? = some x → ys[i]? = some y → EqV K H d x y) : ∀ (i : Nat) x' y', (x :: xs)[i]? = some x' → (y :: ys)[i]? = some y' → EqV K H d x' y' := fun i x' y' h1 h2 => by
  cases i with
  | zero => cases h1; cases h2; exact h
  | succ i => exact t i x' y' (by simpa using h1) (by simpa using h2)
def sp__law_same (K : PySem.W.Frag) (mg : WP.MG) : Nat → Sp
  | 0 => fun _ _ _ _ => False
  | n + 1 => fun vs H Q _ => ∃ x y, vs = [x, y] ∧ EqV K H n x y ∧ Q (.bl true) H
section
variable {P : Program} {w : World} {K : PySem.W.Frag} {mg : Str → Option Value} {base : Heap}
theorem ok__law_same {f : Addr} {fd : FuncData} (F : Fun K "_law_same" "_law_same" s__law_same f fd) (B : Blt w K mg)  {nn : Nat} (c__law_same : WP.Callee P w K mg base CX0 (0 + nn) "_law_same" ["actual", "expected"] (sp__law_same K mg nn)) : FnOk P w K mg base CX0 (0 + nn + 1) f fd ["actual", "expected"] (sp__law_same K mg (nn + 1)) := by
  refine F.ok sc__law_same (fun vs H Q E h => ?_) (fun cdv A outer s H vs Q E hr h => ?_)
  · first | (obtain ⟨_, rfl, _⟩ := h; rfl) | (obtain ⟨_, _, rfl, _⟩ := h; rfl) | (obtain ⟨_, _, _, rfl, _⟩ := h; rfl) | (obtain ⟨_, _, _, _, rfl, _⟩ := h; rfl) | (obtain ⟨_, _, _, _, _, rfl, _⟩ := h; rfl) | (obtain ⟨_, _, _, _, _, _, rfl, _⟩ := h; rfl) | (obtain ⟨_, _, _, _, _, _, _, rfl, _⟩ := h; rfl) | (obtain ⟨_, _, _, _, _, _, _, _, rfl, _⟩ := h; rfl) | (obtain ⟨rfl, _⟩ := h; rfl)
  · obtain ⟨x, y, rfl, he, k⟩ := h
    refine ⟨_, (pss_cons (ps_if (pt_val (pe_callB call_isi (by rfl) B.b_isinstance (by decide +kernel) (pa_cons (pv 1) (pa_cons (pe_bltn (v := .ty "tuple") rfl B.b_tuple (by decide +kernel) rfl) pa_nil)))) (pss_cons (ps_if (PW.pt (pw_or (pt_not (pt_val (pe_callB call_isi (by rfl) B.b_isinstance (by decide +kernel) (pa_cons (pv 0) (pa_cons (pe_bltn (v := .ty "tuple") rfl B.b_tuple (by decide +kernel) rfl) pa_nil))))) (pw_or1 (pt_cmpR op_ne (pe_callB WP.c_len (by rfl) B.b_len (by decide +kernel) (WP.pa_consN (pv 0) pa_nil)) (pe_callB WP.c_len (by rfl) B.b_len (by decide +kernel) (WP.pa_consN (pv 1) pa_nil)) (nomark _))))) (pss_one (ps_ret pe_bl)) pss_nil)
      (pss_cons (ps_for PassesOwn.never rfl (pi_range1 rfl B.b_range (WP.pa_consN (pe_callB WP.c_len (by rfl) B.b_len (by decide +kernel) (WP.pa_consN (pv 1) pa_nil)) pa_nil)) (pg_name (i := 2) sc__law_same.nd rfl (Or.inl rfl)) (pss_one (ps_if (pt_not (pt_val (WP.pe_callC (hl := by omega) c__law_same hr rfl pass0 (WP.pa_consN (pe_ix ix_tup (pv 0) (pv 2) (fun _ _ => rfl)) (WP.pa_consN (pe_ix ix_tup (pv 1) (pv 2) (fun _ _ => rfl)) pa_nil))))) (pss_one (ps_ret pe_bl)) pss_nil)))
      (pss_one (ps_ret pe_bl)))) pss_nil)
      (pss_cons (ps_if (pt_val (pe_callB call_isi (by rfl) B.b_isinstance (by decide +kernel) (pa_cons (pv 1) (pa_cons (pe_bltn (v := .ty "str") rfl B.b_str (by decide +kernel) rfl) pa_nil)))) (pss_one (ps_ret (pe_and (pe_callB call_isi (by rfl) B.b_isinstance (by decide +kernel) (pa_cons (pv 0) (pa_cons (pe_bltn (v := .ty "str") rfl B.b_str (by decide +kernel) rfl) pa_nil))) (pe_one (pe_cmpR (op_eqD hr.units) (pv 0) (pv 1) (nomark _)))))) pss_nil)
      (pss_cons (ps_if (pt_cmpR op_isN (pv 1) pe_non (nomark _)) (pss_one (ps_ret (pe_cmpR op_isN (pv 0) pe_non (nomark _)))) pss_nil)
      (pss_cons (ps_if (PW.pt (pw_or (pt_val (pe_callB call_isi (by rfl) B.b_isinstance (by decide +kernel) (pa_cons (pv 1) (pa_cons (pe_bltn (v := .ty "bool") rfl B.b_bool (by decide +kernel) rfl) pa_nil)))) (pw_or1 (pt_val (pe_callB call_isi (by rfl) B.b_isinstance (by decide +kernel) (pa_cons (pv 0) (pa_cons (pe_bltn (v := .ty "bool") rfl B.b_bool (by decide +kernel) rfl) pa_nil))))))) (pss_one (ps_ret (pe_and (pe_callB call_isi (by rfl) B.b_isinstance (by decide +kernel) (pa_cons (pv 1) (pa_cons (pe_bltn (v := .ty "bool") rfl B.b_bool (by decide +kernel) rfl) pa_nil))) (pe_and (pe_callB call_isi (by rfl) B.b_isinstance (by decide +kernel) (pa_cons (pv 0) (pa_cons (pe_bltn (v := .ty "bool") rfl B.b_bool (by decide +kernel) rfl) pa_nil))) (pe_one (pe_cmpR (op_eqD hr.units) (pv 0) (pv 1) (nomark _))))))) pss_nil)
      (pss_one (ps_ret (pe_and (pe_callB call_isi (by rfl) B.b_isinstance (by decide +kernel) (pa_cons (pv 0) (pa_cons (pe_bltn (v := .ty "int") rfl B.b_int (by decide +kernel) rfl) pa_nil))) (pe_one (pe_cmpR (op_eqD hr.units) (pv 0) (pv 1) (nomark _)))))))))), ?_⟩
    cases he with
    | int i =>
      k_updF
      refine WP.isN (.base (.int _)) ?_
      k_updF
      refine WP.brF rfl ?_
      k_updF
      refine WP.isN (.base (.int _)) ?_
      k_updF
      refine WP.brF rfl ?_
      k_updF
      refine ⟨rfl, ?_⟩
      k_updF
      refine WP.brF (decide_eq_false fun z => nomatch z) ?_
      k_updF
      refine WP.isN (.base (.int _)) ?_
      k_updF
      refine WP.brF rfl ?_
      k_updF
      refine WP.isN (.base (.int _)) ?_
      k_updF
      refine WP.brF rfl ?_
      k_updF
      refine WP.isY (.base (.int _)) ?_
      k_updF
      refine WP.brT rfl ?_
      k_updF
      refine WP.eqD (.int _) (.int _) ?_
      rw [SeqAt.eqv_refl _ (by rfl)]
      exact k
    | non =>
      k_updF
      refine WP.isN (.base .non) ?_
      k_updF
      refine WP.brF rfl ?_
      k_updF
      refine WP.isN (.base .non) ?_
      k_updF
      refine WP.brF rfl ?_
      k_updF
      refine ⟨rfl, ?_⟩
      k_updF
      refine WP.brT rfl ?_
      k_updF
      refine ⟨rfl, ?_⟩
      k_updF
      exact k
    | bl b =>
      k_updF
      refine WP.isN (.base (.bl _)) ?_
      k_updF
      refine WP.brF rfl ?_
      k_updF
      refine WP.isN (.base (.bl _)) ?_
      k_updF
      refine WP.brF rfl ?_
      k_updF
      refine ⟨rfl, ?_⟩
      k_updF
      refine WP.brF (decide_eq_false fun z => nomatch z) ?_
      k_updF
      refine WP.isY (.base (.bl _)) ?_
      k_updF
      refine WP.brT rfl ?_
      k_updF
      refine WP.brT rfl ?_
      k_updF
      refine WP.isY (.base (.bl _)) ?_
      k_updF
      refine WP.brT rfl ?_
      k_updF
      refine WP.isY (.base (.bl _)) ?_
      k_updF
      refine WP.brT rfl ?_
      k_updF
      refine WP.eqD (.bl _) (.bl _) ?_
      rw [SeqAt.eqv_refl _ (by rfl)]
      exact k
    | str z hz =>
      k_updF
      refine WP.isN (.base (.str _)) ?_
      k_updF
      refine WP.brF rfl ?_
      k_updF
      refine WP.isY (.base (.str _)) ?_
      k_updF
      refine WP.brT rfl ?_
      k_updF
      refine WP.isY (.base (.str _)) ?_
      k_updF
      refine WP.brT rfl ?_
      k_updF
      refine WP.eqD (.str _) (.str _) ?_ hz.sh hz.sh
      rw [SeqAt.eqv_refl _ hz]
      exact k
    | @tup d p q xs ys hp hq hl hz he =>
      k_updF
      refine WP.isY (WP.tyT hq) ?_
      k_updF
      refine WP.brT rfl ?_
      k_updF
      refine WP.isY (WP.tyT hp) ?_
      k_updF
      refine WP.brF rfl ?_
      k_updF
      refine WP.lenT hp ?_
      k_updF
      refine WP.lenT hq ?_
      k_updF
      refine WP.brF (by rw [hl]; simp) ?_
      k_updF
      refine WP.lenT hq ?_
      k_updF
      refine ⟨_, rfl, by omega, by omega, for_range (lo := 0) (n := _) (fun i σ' H' => H' = H ∧ ∃ z, σ' = [some (.ref p), some (.ref q), z]) ⟨rfl, none, rfl⟩ ?_ ?_⟩
      · rintro i σ' H' hi ⟨rfl, z, rfl⟩
        rw [Int.toNat_natCast] at hi
        rw [Int.zero_add]
        have ex := List.getElem?_eq_getElem (l := xs) (i := i) (by omega)
        have ey := List.getElem?_eq_getElem (l := ys) (i := i) (by omega)
        k_updF
        refine WP.ixT hp (atI_nat ex) ?_
        k_updF
        refine WP.ixT hq (atI_nat ey) ?_
        k_updF
        refine ⟨_, _, rfl, he i _ _ ex ey, ?_⟩
        k_updF
        refine WP.brF rfl ?_
        k_updF
        exact ⟨rfl, _, rfl⟩
      · rintro σ' H' ⟨rfl, z, rfl⟩
        k_updF
        exact k
end
abbrev s_law : Stmt := top 11
abbrev N_law : List Str := ["script", "draws", "starts", "rows", "due", "passed", "places", "found"]
theorem sc_law : FnScope N_law ["script"] (defScope s_law) := ⟨rfl, rfl, rfl, by decide +kernel, rfl, by decide +kernel, by decide +kernel⟩
theorem RL.data {K : PySem.W.Frag} {H : Hp} {ys : List V} {rs : List MFw.R} (h : RL K H ys rs) (f : ∀ r ∈ rs, Fl r) : ∃ ds : List PyData, (∀ G, RL K G ys rs → DpAll K G ys ds) ∧ PyData.canLayAll0 ds = true ∧ PyData.depthAll ds ≤ 1 := by
  induction h with
  | nil => exact ⟨[], fun _ _ => .nil, rfl, Nat.zero_le _⟩
  | cons _ _ ih =>
    obtain ⟨ds, h1, h2, h3⟩ := ih fun r hr => f r (List.mem_cons_of_mem _ hr)
    obtain ⟨d0, g1, g2, g3⟩ := f _ List.mem_cons_self
    refine ⟨.tuple d0 :: ds, fun G z => ?_, ?_, ?_⟩
    · cases z with
      | cons za zr => exact .cons (.tup za (g1 K G)) (h1 G zr)
    · simp [PyData.canLayAll0, PyData.canLay0, g2, h2]
    · simp only [PyData.depthAll, PyData.depth, g3]; omega
theorem nat_data {K : PySem.W.Frag} {H : Hp} : ∀ (st : List Nat), DpAll K H (WP.iL st) (st.map fun (w : Nat) => PyData.int (w : Int))
  | [] => .nil
  | w :: st => .cons (.int _) (nat_data st)
theorem nat_lay : ∀ (st : List Nat), PyData.canLayAll0 (st.map fun (w : Nat) => PyData.int (w : Int)) = true ∧ PyData.depthAll (st.map fun (w : Nat) => PyData.int (w : Int)) = 0
  | [] => ⟨rfl, rfl⟩
  | w :: st => by
    have h := nat_lay st
    exact ⟨by simp only [List.map_cons, PyData.canLayAll0, PyData.canLay0, h.1, Bool.and_self], by simp only [List.map_cons, PyData.depthAll, PyData.depth, h.2]; rfl⟩
theorem sh_list {ds : List PyData} (h : PyData.canLayAll0 ds = true) (h2 : PyData.depthAll ds ≤ 1) : SeqAt.shaped (.list ds) = true := by
  refine Bool.and_eq_true_iff.mpr ⟨by simp only [PyData.canLay0]; exact h, decide_eq_true ?_⟩
  simp only [PyData.depth]; omega
theorem eqv_ints {K : PySem.W.Frag} {H : Hp} {d : Nat} {a b : List Int} (e : a = b) : ∀ (i : Nat) x y, (a.map V.int)[i]? = some x → (b.map V.int)[i]? = some y → EqV K H d x y := by
  subst e
  intro i x y hx hy
  rw [hx] at hy; cases hy
  rw [List.getElem?_map] at hx
  cases e : a[i]? with
  | none => rw [e] at hx; cases hx
  | some n => rw [e] at hx; cases hx; exact .int n
def sp_law (K : PySem.W.Frag) : Sp := fun vs H Q _ => ∃ (a : Addr) (ns : List Int), vs = [.ref a] ∧ SqL K H a (ns.map V.int) ∧ ns.length ≤ 63 ∧ ∀ H', Q (.bl true) H'
section
variable {P : Program} {w : World} {K : PySem.W.Frag} {mg : Str → Option Value} {base : Heap}
theorem ok_law {f : Addr} {fd : FuncData} (F : Fun K "law" "law" s_law f fd) (B : Blt w K mg) (c__law_draws : WP.Callee P w K mg base CX0 1 "_law_draws" ["script"] (sp__law_draws K mg)) (c__law_rows : WP.Callee P w K mg base CX0 3 "_law_rows" ["draws", "count"] (sp__law_rows K mg)) (c__law_reached : WP.Callee P w K mg base CX0 1 "_law_reached" ["starts", "rows"] (sp__law_reached K mg)) (c_reached : WP.Callee P w K mg base CX0 2 "reached" ["starts", "rows"] (sp_reached K mg)) (c__law_same : WP.Callee P w K mg base CX0 3 "_law_same" ["actual", "expected"] (sp__law_same K mg 3)) (c__law_draw : WP.Callee P w K mg base CX0 1 "_law_draw" ["draws", "limit"] (sp__law_draw K mg)) : FnOk P w K mg base CX0 4 f fd ["script"] (sp_law K) := by
  refine F.ok sc_law (fun vs H Q E h => ?_) (fun cdv A outer s H vs Q E hr h => ?_)
  · first | (obtain ⟨_, rfl, _⟩ := h; rfl) | (obtain ⟨_, _, rfl, _⟩ := h; rfl) | (obtain ⟨_, _, _, rfl, _⟩ := h; rfl) | (obtain ⟨_, _, _, _, rfl, _⟩ := h; rfl) | (obtain ⟨_, _, _, _, _, rfl, _⟩ := h; rfl) | (obtain ⟨_, _, _, _, _, _, rfl, _⟩ := h; rfl) | (obtain ⟨_, _, _, _, _, _, _, rfl, _⟩ := h; rfl) | (obtain ⟨_, _, _, _, _, _, _, _, rfl, _⟩ := h; rfl) | (obtain ⟨rfl, _⟩ := h; rfl)
  · obtain ⟨a, ns, rfl, hs, hl, k⟩ := h
    refine ⟨_, (pss_cons (ps_set (i := 1) sc_law.nd rfl (Or.inl rfl) (WP.pe_callC c__law_draws hr rfl pass0 (WP.pa_consN (pv 0) pa_nil)))
      (pss_cons (ps_asg (WP.pe_callC c__law_rows hr rfl pass0 (WP.pa_consN (pv 1) (WP.pa_consN (pe_op op_add pe_int (WP.pe_callC c__law_draw hr rfl pass0 (WP.pa_consN (pv 1) (WP.pa_consN pe_int pa_nil)))) pa_nil))) (pg_tup (by rfl) (pgs_cons (pg_name (i := 2) sc_law.nd rfl (Or.inl rfl)) (pgs_cons (pg_name (i := 3) sc_law.nd rfl (Or.inl rfl)) pgs_nil))))
      (pss_cons (ps_set (i := 4) sc_law.nd rfl (Or.inl rfl) (WP.pe_callC c__law_reached hr rfl pass0 (WP.pa_consN (pv 2) (WP.pa_consN (pv 3) pa_nil))))
      (pss_cons (ps_set (i := 5) sc_law.nd rfl (Or.inl rfl) (pe_callTy WP.c_listOf (by rfl) B.b_list (by decide +kernel) (WP.pa_consN (pv 3) pa_nil)))
      (pss_cons (ps_set (i := 6) sc_law.nd rfl (Or.inl rfl) (pe_callTy WP.c_listOf (by rfl) B.b_list (by decide +kernel) (WP.pa_consN (pv 2) pa_nil)))
      (pss_cons (ps_set (i := 7) sc_law.nd rfl (Or.inl rfl) (WP.pe_callC c_reached hr rfl pass0 (WP.pa_consN (pv 6) (WP.pa_consN (pv 5) pa_nil))))
      (pss_cons (ps_if (PW.pt (pw_or (pt_not (pt_val (pe_callB call_isi (by rfl) B.b_isinstance (by decide +kernel) (pa_cons (pv 7) (pa_cons (pe_bltn (v := .ty "dict") rfl B.b_dict (by decide +kernel) rfl) pa_nil))))) (pw_or1 (pt_not (pt_val (WP.pe_callC c__law_same hr rfl pass0 (WP.pa_consN (pe_callTy WP.c_tupOf (by rfl) B.b_tuple (by decide +kernel) (WP.pa_consN (pe_callB (WP.cr_sortD rfl) (by rfl) B.b_sorted (by decide +kernel) (WP.pa_consN (pv 7) pa_nil)) pa_nil)) (WP.pa_consN (pe_callTy WP.c_tupOf (by rfl) B.b_tuple (by decide +kernel) (WP.pa_consN (pv 4) pa_nil)) pa_nil)))))))) (pss_one (ps_ret pe_bl)) pss_nil)
      (pss_cons (ps_if (PW.pt (pw_or (pt_cmpR (op_neD hr.units) (pv 5) (pv 3) (nomark _)) (pw_or1 (pt_cmpR (op_neD hr.units) (pv 6) (pv 2) (nomark _))))) (pss_one (ps_ret pe_bl)) pss_nil)
      (pss_one (ps_ret (WP.pe_callC c__law_same hr rfl pass0 (WP.pa_consN (pe_callTy WP.c_tupOf (by rfl) B.b_tuple (by decide +kernel) (WP.pa_consN (pe_callB (WP.cr_sortD rfl) (by rfl) B.b_sorted (by decide +kernel) (WP.pa_consN (WP.pe_callC c_reached hr rfl pass0 (WP.pa_consN (pe_callTy WP.c_tupOf (by rfl) B.b_tuple (by decide +kernel) (WP.pa_consN (pv 2) pa_nil)) (WP.pa_consN (pe_callTy WP.c_tupOf (by rfl) B.b_tuple (by decide +kernel) (WP.pa_consN (pv 3) pa_nil)) pa_nil))) pa_nil)) pa_nil)) (WP.pa_consN (pe_callTy WP.c_tupOf (by rfl) B.b_tuple (by decide +kernel) (WP.pa_consN (pv 4) pa_nil)) pa_nil))))))))))))), ?_⟩
    k_updF
    refine ⟨a, ns, rfl, hs, fun d z H1 hz hz0 hd0 e1 hd => ?_⟩
    k_updF
    refine ⟨d, z, _, rfl, by decide, WP.bt8 (by decide), hd, fun cv H2 c0 c1 s2 hd2 => ?_⟩
    obtain ⟨c, rfl⟩ : ∃ c : Nat, cv = (c : Int) := ⟨cv.toNat, by omega⟩
    k_updF
    refine ⟨d, z, c + 1, by rw [show ((c + 1 : Nat) : Int) = 1 + (c : Int) by omega]; rfl, by omega, by omega, hd2, fun t p q H3 st ys rs np nq s3 hd3 ht gp gq rl I fl => ?_⟩
    have P := I.prog (Nat.succ_pos _) rfl
    have hsl : st.length ≤ 100 := by rw [I.sl]; omega
    have hrl : rs.length ≤ 500 := by have := I.rl; omega
    clear s3 hd3 s2 hd2 hd e1 hs
    k_updF
    refine WP.unT ht rfl ?_
    k_updF
    refine ⟨st, rs, p, q, rfl, SqL.of gp, ⟨ys, SqL.of gq, rl.len, fun i r hr => rl.at i r hr⟩, P, hsl, hrl, fun L ns1 seen1 H4 e4 gL pm1 pw1 W1 => ?_⟩
    k_updF
    refine WP.listL (SqL.of (e4 _ _ gq)) (fun A hA => ?_)
    generalize hG : upd H4 A _ = H5
    have e5 : Same H4 H5 := hG ▸ WP.same_new hA
    have gA : H5 A = some (.lst ys) := by rw [← hG]; exact upd_same
    clear hG
    k_updF
    refine WP.listL (SqL.of ((e4.trans e5) _ _ gp)) (fun B0 hB => ?_)
    generalize hG : upd H5 B0 _ = H6
    have e6 : Same H5 H6 := hG ▸ WP.same_new hB
    have gB : H6 B0 = some (.lst (WP.iL st)) := by rw [← hG]; exact upd_same
    clear hG
    have e36 := (e4.trans e5).trans e6
    have gA := e6 _ _ gA
    k_updF
    refine ⟨st, rs, B0, A, rfl, .inl (SqL.of gB), ⟨ys, .inl (SqL.of gA), rl.len, fun i r hr => (rl.same e36).at i r hr⟩, P, hsl, hrl, fun D kvs seen2 H7 e7 gD hk W2 => ?_⟩
    k_updF
    refine WP.isY (.base (.dK gD)) ?_
    refine ⟨_, rfl, ?_⟩
    rw [if_neg (show ¬ (!true) = true by decide)]
    have e47 := (e5.trans e6).trans e7
    have gL := e47 _ _ gL
    have gA := e7 _ _ gA
    have gB := e7 _ _ gB
    have e37 := e36.trans e7
    have hL1 : ns1.length ≤ 1000 := by rw [pm1.length_eq, List.length_map]; have := W1.size; omega
    k_updF
    refine ⟨D, kvs, seen2.map (fun (i : Nat) => (i : Int)), rfl, gD, by rw [hk, List.map_map]; rfl, fun ns2 p2 pm2 pw2 hp2 => ?_⟩
    have en := MFw.WI.sorted W2 W1 pm2 pm1 pw2 pw1
    generalize hG : upd H7 p2 _ = H8
    have e8 : Same H7 H8 := hG ▸ WP.same_new hp2
    have g2 : H8 p2 = some (.lst (ns2.map V.int)) := by rw [← hG]; exact upd_same
    clear hG
    k_updF
    refine WP.tupL (SqL.of g2) (fun T1 hT1 => ?_)
    generalize hG : upd H8 T1 _ = H9
    have e9 : Same H8 H9 := hG ▸ WP.same_new hT1
    have gT1 : SqT K H9 T1 (ns2.map V.int) := by rw [← hG]; exact SqT.of upd_same
    clear hG
    have e89 := e8.trans e9
    k_updF
    refine WP.tupL (SqL.of (e89 _ _ gL)) (fun T2 hT2 => ?_)
    generalize hG : upd H9 T2 _ = H10
    have e10 : Same H9 H10 := hG ▸ WP.same_new hT2
    have gT2 : SqT K H10 T2 (ns1.map V.int) := by rw [← hG]; exact SqT.of upd_same
    clear hG
    have f10 := e89.trans e10
    k_updF
    refine ⟨_, _, rfl, .tup (WP.sqt e10 gT1) gT2 (by rw [en]) (by rw [List.length_map]; exact hL1) (eqv_ints en), ?_⟩
    refine ⟨_, rfl, ?_⟩
    rw [if_neg (show ¬ (!true) = true by decide)]
    have f3 := e37.trans f10
    obtain ⟨ds, dp, dl, dd⟩ := rl.data fl
    have sh := sh_list dl dd
    k_updF
    refine WP.neD (.lst (SqL.of (f10 _ _ gA)) (dp _ (rl.same f3))) (.lst (SqL.of (f3 _ _ gq)) (dp _ (rl.same f3))) ?_ sh sh
    rw [SeqAt.eqv_refl _ (SeqAt.canLay_of_shaped sh)]
    have sh2 := sh_list (nat_lay st).1 (by rw [(nat_lay st).2]; omega)
    refine ⟨_, rfl, ?_⟩
    rw [if_neg (show ¬ (!true) = true by decide)]
    k_updF
    refine WP.neD (.lst (SqL.of (f10 _ _ gB)) (nat_data st)) (.lst (SqL.of (f3 _ _ gp)) (nat_data st)) ?_ sh2 sh2
    rw [SeqAt.eqv_refl _ (SeqAt.canLay_of_shaped sh2)]
    refine ⟨_, rfl, ?_⟩
    rw [if_neg (show ¬ (!true) = true by decide)]
    k_updF
    refine WP.tupL (SqL.of (f3 _ _ gp)) (fun T3 hT3 => ?_)
    generalize hG : upd H10 T3 _ = H11
    have e11 : Same H10 H11 := hG ▸ WP.same_new hT3
    have gT3 : SqT K H11 T3 (WP.iL st) := by rw [← hG]; exact SqT.of upd_same
    clear hG
    have f11 := f3.trans e11
    k_updF
    refine WP.tupL (SqL.of (f11 _ _ gq)) (fun T4 hT4 => ?_)
    generalize hG : upd H11 T4 _ = H12
    have e12 : Same H11 H12 := hG ▸ WP.same_new hT4
    have gT4 : SqT K H12 T4 ys := by rw [← hG]; exact SqT.of upd_same
    clear hG
    have f12 := f11.trans e12
    k_updF
    refine ⟨st, rs, T3, T4, rfl, .inr (WP.sqt e12 gT3), ⟨ys, .inr gT4, rl.len, fun i r hr => (rl.same f12).at i r hr⟩, P, hsl, hrl, fun D2 kvs2 seen3 H13 e13 gD2 hk2 W3 => ?_⟩
    k_updF
    refine ⟨D2, kvs2, seen3.map (fun (i : Nat) => (i : Int)), rfl, gD2, by rw [hk2, List.map_map]; rfl, fun ns3 p3 pm3 pw3 hp3 => ?_⟩
    have en3 := MFw.WI.sorted W3 W1 pm3 pm1 pw3 pw1
    generalize hG : upd H13 p3 _ = H14
    have e14 : Same H13 H14 := hG ▸ WP.same_new hp3
    have g3 : H14 p3 = some (.lst (ns3.map V.int)) := by rw [← hG]; exact upd_same
    clear hG
    k_updF
    refine WP.tupL (SqL.of g3) (fun T5 hT5 => ?_)
    generalize hG : upd H14 T5 _ = H15
    have e15 : Same H14 H15 := hG ▸ WP.same_new hT5
    have gT5 : SqT K H15 T5 (ns3.map V.int) := by rw [← hG]; exact SqT.of upd_same
    clear hG
    have gL2 := (((((f10.trans e11).trans e12).trans e13).trans e14).trans e15) _ _ gL
    k_updF
    refine WP.tupL (SqL.of gL2) (fun T6 hT6 => ?_)
    generalize hG : upd H15 T6 _ = H16
    have e16 : Same H15 H16 := hG ▸ WP.same_new hT6
    have gT6 : SqT K H16 T6 (ns1.map V.int) := by rw [← hG]; exact SqT.of upd_same
    clear hG
    k_updF
    exact ⟨_, _, rfl, .tup (WP.sqt e16 gT5) gT6 (by rw [en3]) (by rw [List.length_map]; exact hL1) (eqv_ints en3), k _⟩
end
theorem all_mk {l : PySem.W.OpenLaw} {w : World} {K : PySem.W.Frag} {h : Heap} {mg : Str → Option Value} {fa : Addr} (X : K.In h) (G : h.Ns mainGlobals mg) (hfa : mg "law" = some (.ref fa))
    {fx0 : Addr} {odx0 anx0 : Option Addr} {slx0 : Array (Option Value)} {ocx0 kVx0 dcx0 pmx0 cdx0 ctx0 : Value}
    (ax0 : PySem.W.nsIn K mainGlobals "_law_draws" = some (some (.ref fx0))) (lx0 : K.lookup fx0 = some ⟨ocx0, odx0, .func (PySem.W.fnOf "_law_draws" "_law_draws" (defArgs s__law_draws) (defBody s__law_draws) (defScope s__law_draws) .none kVx0 dcx0 pmx0 anx0 cdx0 ctx0), slx0⟩) (cx0 : PySem.W.codeIn K cdx0 "_law_draws" = true) (kx0 : PySem.W.keepIn K (.ref fx0) = true)
    {fx1 : Addr} {odx1 anx1 : Option Addr} {slx1 : Array (Option Value)} {ocx1 kVx1 dcx1 pmx1 cdx1 ctx1 : Value}
    (ax1 : PySem.W.nsIn K mainGlobals "_law_draw" = some (some (.ref fx1))) (lx1 : K.lookup fx1 = some ⟨ocx1, odx1, .func (PySem.W.fnOf "_law_draw" "_law_draw" (defArgs s__law_draw) (defBody s__law_draw) (defScope s__law_draw) .none kVx1 dcx1 pmx1 anx1 cdx1 ctx1), slx1⟩) (cx1 : PySem.W.codeIn K cdx1 "_law_draw" = true) (kx1 : PySem.W.keepIn K (.ref fx1) = true)
    {fx2 : Addr} {odx2 anx2 : Option Addr} {slx2 : Array (Option Value)} {ocx2 kVx2 dcx2 pmx2 cdx2 ctx2 : Value}
    (ax2 : PySem.W.nsIn K mainGlobals "_law_block" = some (some (.ref fx2))) (lx2 : K.lookup fx2 = some ⟨ocx2, odx2, .func (PySem.W.fnOf "_law_block" "_law_block" (defArgs s__law_block) (defBody s__law_block) (defScope s__law_block) .none kVx2 dcx2 pmx2 anx2 cdx2 ctx2), slx2⟩) (cx2 : PySem.W.codeIn K cdx2 "_law_block" = true) (kx2 : PySem.W.keepIn K (.ref fx2) = true)
    {fx3 : Addr} {odx3 anx3 : Option Addr} {slx3 : Array (Option Value)} {ocx3 kVx3 dcx3 pmx3 cdx3 ctx3 : Value}
    (ax3 : PySem.W.nsIn K mainGlobals "_law_rows" = some (some (.ref fx3))) (lx3 : K.lookup fx3 = some ⟨ocx3, odx3, .func (PySem.W.fnOf "_law_rows" "_law_rows" (defArgs s__law_rows) (defBody s__law_rows) (defScope s__law_rows) .none kVx3 dcx3 pmx3 anx3 cdx3 ctx3), slx3⟩) (cx3 : PySem.W.codeIn K cdx3 "_law_rows" = true) (kx3 : PySem.W.keepIn K (.ref fx3) = true)
    {fx4 : Addr} {odx4 anx4 : Option Addr} {slx4 : Array (Option Value)} {ocx4 kVx4 dcx4 pmx4 cdx4 ctx4 : Value}
    (ax4 : PySem.W.nsIn K mainGlobals "_law_reached" = some (some (.ref fx4))) (lx4 : K.lookup fx4 = some ⟨ocx4, odx4, .func (PySem.W.fnOf "_law_reached" "_law_reached" (defArgs s__law_reached) (defBody s__law_reached) (defScope s__law_reached) .none kVx4 dcx4 pmx4 anx4 cdx4 ctx4), slx4⟩) (cx4 : PySem.W.codeIn K cdx4 "_law_reached" = true) (kx4 : PySem.W.keepIn K (.ref fx4) = true)
    {fx5 : Addr} {odx5 anx5 : Option Addr} {slx5 : Array (Option Value)} {ocx5 kVx5 dcx5 pmx5 cdx5 ctx5 : Value}
    (ax5 : PySem.W.nsIn K mainGlobals "last_places" = some (some (.ref fx5))) (lx5 : K.lookup fx5 = some ⟨ocx5, odx5, .func (PySem.W.fnOf "last_places" "last_places" (defArgs s_last_places) (defBody s_last_places) (defScope s_last_places) .none kVx5 dcx5 pmx5 anx5 cdx5 ctx5), slx5⟩) (cx5 : PySem.W.codeIn K cdx5 "last_places" = true) (kx5 : PySem.W.keepIn K (.ref fx5) = true)
    {fx6 : Addr} {odx6 anx6 : Option Addr} {slx6 : Array (Option Value)} {ocx6 kVx6 dcx6 pmx6 cdx6 ctx6 : Value}
    (ax6 : PySem.W.nsIn K mainGlobals "next_places" = some (some (.ref fx6))) (lx6 : K.lookup fx6 = some ⟨ocx6, odx6, .func (PySem.W.fnOf "next_places" "next_places" (defArgs s_next_places) (defBody s_next_places) (defScope s_next_places) .none kVx6 dcx6 pmx6 anx6 cdx6 ctx6), slx6⟩) (cx6 : PySem.W.codeIn K cdx6 "next_places" = true) (kx6 : PySem.W.keepIn K (.ref fx6) = true)
    {fx7 : Addr} {odx7 anx7 : Option Addr} {slx7 : Array (Option Value)} {ocx7 kVx7 dcx7 pmx7 cdx7 ctx7 : Value}
    (ax7 : PySem.W.nsIn K mainGlobals "reached" = some (some (.ref fx7))) (lx7 : K.lookup fx7 = some ⟨ocx7, odx7, .func (PySem.W.fnOf "reached" "reached" (defArgs s_reached) (defBody s_reached) (defScope s_reached) .none kVx7 dcx7 pmx7 anx7 cdx7 ctx7), slx7⟩) (cx7 : PySem.W.codeIn K cdx7 "reached" = true) (kx7 : PySem.W.keepIn K (.ref fx7) = true)
    {fx8 : Addr} {odx8 anx8 : Option Addr} {slx8 : Array (Option Value)} {ocx8 kVx8 dcx8 pmx8 cdx8 ctx8 : Value}
    (ax8 : PySem.W.nsIn K mainGlobals "_law_same" = some (some (.ref fx8))) (lx8 : K.lookup fx8 = some ⟨ocx8, odx8, .func (PySem.W.fnOf "_law_same" "_law_same" (defArgs s__law_same) (defBody s__law_same) (defScope s__law_same) .none kVx8 dcx8 pmx8 anx8 cdx8 ctx8), slx8⟩) (cx8 : PySem.W.codeIn K cdx8 "_law_same" = true) (kx8 : PySem.W.keepIn K (.ref fx8) = true)
    {fx9 : Addr} {odx9 anx9 : Option Addr} {slx9 : Array (Option Value)} {ocx9 kVx9 dcx9 pmx9 cdx9 ctx9 : Value}
    (ax9 : PySem.W.nsIn K mainGlobals "law" = some (some (.ref fx9))) (lx9 : K.lookup fx9 = some ⟨ocx9, odx9, .func (PySem.W.fnOf "law" "law" (defArgs s_law) (defBody s_law) (defScope s_law) .none kVx9 dcx9 pmx9 anx9 cdx9 ctx9), slx9⟩) (cx9 : PySem.W.codeIn K cdx9 "law" = true) (kx9 : PySem.W.keepIn K (.ref fx9) = true)
    (z_bool : PySem.W.nsIn K mainGlobals "bool" = some none)
    (z_dict : PySem.W.nsIn K mainGlobals "dict" = some none)
    (z_int : PySem.W.nsIn K mainGlobals "int" = some none)
    (z_isinstance : PySem.W.nsIn K mainGlobals "isinstance" = some none)
    (z_len : PySem.W.nsIn K mainGlobals "len" = some none)
    (z_list : PySem.W.nsIn K mainGlobals "list" = some none)
    (z_range : PySem.W.nsIn K mainGlobals "range" = some none)
    (z_sorted : PySem.W.nsIn K mainGlobals "sorted" = some none)
    (z_str : PySem.W.nsIn K mainGlobals "str" = some none)
    (z_tuple : PySem.W.nsIn K mainGlobals "tuple" = some none)
    : ∃ fd : FuncData, (∀ (s : Shared) (v : Value), BindsTo s fd ⟨[v], []⟩ [("script", v)]) ∧ ∀ base : Heap, K.In base → base.Ns mainGlobals mg → FnOk l.prog w K mg base CX0 4 fa fd ["script"] (sp_law K) := by
  have e := hfa.symm.trans (PySem.W.mg_of X G ax9)
  cases e
  have B : Blt w K mg := ⟨PySem.W.mg_none_of X G z_bool, PySem.W.mg_none_of X G z_dict, PySem.W.mg_none_of X G z_int, PySem.W.mg_none_of X G z_isinstance, PySem.W.mg_none_of X G z_len, PySem.W.mg_none_of X G z_list, PySem.W.mg_none_of X G z_range, PySem.W.mg_none_of X G z_sorted, PySem.W.mg_none_of X G z_str, PySem.W.mg_none_of X G z_tuple⟩
  have Fx0 := fun_mk (st := s__law_draws) lx0 cx0 kx0
  have bx0 := Fx0.binds (ps := ["script"]) fun _ _ _ _ _ _ us hl => match us, hl with | [_], _ => rfl
  have Cx0 : ∀ base : Heap, K.In base → base.Ns mainGlobals mg → WP.Callee l.prog w K mg base CX0 1 "_law_draws" ["script"] (sp__law_draws K mg) := fun base p1 p2 => WP.Callee.mk' (ok__law_draws Fx0 B ) (PySem.W.mg_of X G ax0) kx0 bx0
  have Fx1 := fun_mk (st := s__law_draw) lx1 cx1 kx1
  have bx1 := Fx1.binds (ps := ["draws", "limit"]) fun _ _ _ _ _ _ us hl => match us, hl with | [_, _], _ => rfl
  have Cx1 : ∀ base : Heap, K.In base → base.Ns mainGlobals mg → WP.Callee l.prog w K mg base CX0 1 "_law_draw" ["draws", "limit"] (sp__law_draw K mg) := fun base p1 p2 => WP.Callee.mk' (ok__law_draw Fx1 B ) (PySem.W.mg_of X G ax1) kx1 bx1
  have Fx2 := fun_mk (st := s__law_block) lx2 cx2 kx2
  have bx2 := Fx2.binds (ps := ["draws", "many", "at", "count"]) fun _ _ _ _ _ _ us hl => match us, hl with | [_, _, _, _], _ => rfl
  have Cx2 : ∀ base : Heap, K.In base → base.Ns mainGlobals mg → WP.Callee l.prog w K mg base CX0 2 "_law_block" ["draws", "many", "at", "count"] (sp__law_block K mg) := fun base p1 p2 => WP.Callee.mk' (ok__law_block Fx2 B (Cx1 base p1 p2)) (PySem.W.mg_of X G ax2) kx2 bx2
  have Fx3 := fun_mk (st := s__law_rows) lx3 cx3 kx3
  have bx3 := Fx3.binds (ps := ["draws", "count"]) fun _ _ _ _ _ _ us hl => match us, hl with | [_, _], _ => rfl
  have Cx3 : ∀ base : Heap, K.In base → base.Ns mainGlobals mg → WP.Callee l.prog w K mg base CX0 3 "_law_rows" ["draws", "count"] (sp__law_rows K mg) := fun base p1 p2 => WP.Callee.mk' (ok__law_rows Fx3 B (Cx1 base p1 p2) (Cx2 base p1 p2)) (PySem.W.mg_of X G ax3) kx3 bx3
  have Fx4 := fun_mk (st := s__law_reached) lx4 cx4 kx4
  have bx4 := Fx4.binds (ps := ["starts", "rows"]) fun _ _ _ _ _ _ us hl => match us, hl with | [_, _], _ => rfl
  have Cx4 : ∀ base : Heap, K.In base → base.Ns mainGlobals mg → WP.Callee l.prog w K mg base CX0 1 "_law_reached" ["starts", "rows"] (sp__law_reached K mg) := fun base p1 p2 => WP.Callee.mk' (ok__law_reached Fx4 B ) (PySem.W.mg_of X G ax4) kx4 bx4
  have Fx5 := fun_mk (st := s_last_places) lx5 cx5 kx5
  have bx5 := Fx5.binds (ps := ["starts", "many"]) fun _ _ _ _ _ _ us hl => match us, hl with | [_, _], _ => rfl
  have Cx5 : ∀ base : Heap, K.In base → base.Ns mainGlobals mg → WP.Callee l.prog w K mg base CX0 1 "last_places" ["starts", "many"] (sp_last_places K mg) := fun base p1 p2 => WP.Callee.mk' (ok_last_places Fx5 B ) (PySem.W.mg_of X G ax5) kx5 bx5
  have Fx6 := fun_mk (st := s_next_places) lx6 cx6 kx6
  have bx6 := Fx6.binds (ps := ["place", "instruction", "is_last"]) fun _ _ _ _ _ _ us hl => match us, hl with | [_, _, _], _ => rfl
  have Cx6 : ∀ base : Heap, K.In base → base.Ns mainGlobals mg → WP.Callee l.prog w K mg base CX0 1 "next_places" ["place", "instruction", "is_last"] (sp_next_places K mg) := fun base p1 p2 => WP.Callee.mk' (ok_next_places Fx6 B ) (PySem.W.mg_of X G ax6) kx6 bx6
  have Fx7 := fun_mk (st := s_reached) lx7 cx7 kx7
  have bx7 := Fx7.binds (ps := ["starts", "rows"]) fun _ _ _ _ _ _ us hl => match us, hl with | [_, _], _ => rfl
  have Cx7 : ∀ base : Heap, K.In base → base.Ns mainGlobals mg → WP.Callee l.prog w K mg base CX0 2 "reached" ["starts", "rows"] (sp_reached K mg) := fun base p1 p2 => WP.Callee.mk' (ok_reached Fx7 B (Cx5 base p1 p2) (Cx6 base p1 p2)) (PySem.W.mg_of X G ax7) kx7 bx7
  have Fx8 := fun_mk (st := s__law_same) lx8 cx8 kx8
  have bx8 := Fx8.binds (ps := ["actual", "expected"]) fun _ _ _ _ _ _ us hl => match us, hl with | [_, _], _ => rfl
  have Cx8_0 : ∀ base : Heap, K.In base → base.Ns mainGlobals mg → WP.Callee l.prog w K mg base CX0 0 "_law_same" ["actual", "expected"] (sp__law_same K mg 0) := fun base p1 p2 => WP.Callee.mk' ⟨fun _ _ _ _ h => (h : False).elim, fun _ _ _ _ _ _ _ _ _ _ _ _ _ h => (h : False).elim⟩ (PySem.W.mg_of X G ax8) kx8 bx8
  have Cx8_1 : ∀ base : Heap, K.In base → base.Ns mainGlobals mg → WP.Callee l.prog w K mg base CX0 1 "_law_same" ["actual", "expected"] (sp__law_same K mg 1) := fun base p1 p2 => WP.Callee.mk' (ok__law_same (nn := 0) Fx8 B  (Cx8_0 base p1 p2)) (PySem.W.mg_of X G ax8) kx8 bx8
  have Cx8_2 : ∀ base : Heap, K.In base → base.Ns mainGlobals mg → WP.Callee l.prog w K mg base CX0 2 "_law_same" ["actual", "expected"] (sp__law_same K mg 2) := fun base p1 p2 => WP.Callee.mk' (ok__law_same (nn := 1) Fx8 B  (Cx8_1 base p1 p2)) (PySem.W.mg_of X G ax8) kx8 bx8
  have Cx8_3 : ∀ base : Heap, K.In base → base.Ns mainGlobals mg → WP.Callee l.prog w K mg base CX0 3 "_law_same" ["actual", "expected"] (sp__law_same K mg 3) := fun base p1 p2 => WP.Callee.mk' (ok__law_same (nn := 2) Fx8 B  (Cx8_2 base p1 p2)) (PySem.W.mg_of X G ax8) kx8 bx8
  have Cx8 := Cx8_3
  have Fx9 := fun_mk (st := s_law) lx9 cx9 kx9
  exact ⟨PySem.W.fnOf "law" "law" (defArgs s_law) (defBody s_law) (defScope s_law) .none kVx9 dcx9 pmx9 anx9 cdx9 ctx9, fun s v => .of_eq rfl, fun base p1 p2 => ok_law Fx9 B (Cx0 base p1 p2) (Cx3 base p1 p2) (Cx4 base p1 p2) (Cx7 base p1 p2) (Cx8 base p1 p2) (Cx1 base p1 p2)⟩
theorem walk {l : PySem.W.OpenLaw} {q : Program} {loose : List Str} {XP : (Str → Option Value) → Heap → Prop} {YP : World → Heap → Prop} {d : DefRec} {K : Params → PySem.W.Frag} (hn : l.most = some 63) (hdf : d.params.defaults = [])
    (hY : ∀ (w : World) (h : Heap), YP w h → (K w.params).In h)
    (F : ∀ (w : World) (mg : Str → Option Value) (fa : Addr) (h : Heap), (K w.params).In h → h.Ns mainGlobals mg → mg d.name = some (.ref fa) →
      ∃ fd : FuncData, (∀ (s : Shared) (u : Value), BindsTo s fd ⟨[u], []⟩ [("script", u)]) ∧ ∀ base : Heap, (K w.params).In base → base.Ns mainGlobals mg → FnOk l.prog w (K w.params) mg base CX0 4 fa fd ["script"] (sp_law (K w.params))) :
    PySem.W.WalkO q loose XP YP l.row.toRowW d [] (fun f vs => PySem.call f vs) :=
  L2.walk_of (n := 63) (k := 4) (x := "script") (CX := fun _ => CX0) (sp := fun w => sp_law (K w.params)) hn (by decide) hdf ⟨rfl, by decide, by decide⟩ hY F (fun _ _ a ns hl _ hS => ⟨a, ns, rfl, hS, hl, fun _ => rfl⟩) fun _ _ _ _ _ z => z
end D
open PySem PySem.W PyProof.Rows
set_option maxRecDepth 100000 in
set_option maxHeartbeats 0 in
theorem PySem.Challenge.cw_cardwright_k71_places_that_runs_come_by_holds : PySem.Challenge.rw_cardwright_k71_places_that_runs_come_by.Holds := by
  w_on; o_law; k_head; (case hw => w_witness2)
  k_fill
  refine D.walk (l := PySem.Challenge.rw_cardwright_k71_places_that_runs_come_by) rfl rfl (fun w h Y => PySem.W.kIn_of Y) ?F
  case F =>
    intro w mg fa h KX G hmg
    refine' D.all_mk KX G hmg ?ax0 ?lx0 ?cx0 ?kx0 ?ax1 ?lx1 ?cx1 ?kx1 ?ax2 ?lx2 ?cx2 ?kx2 ?ax3 ?lx3 ?cx3 ?kx3 ?ax4 ?lx4 ?cx4 ?kx4 ?ax5 ?lx5 ?cx5 ?kx5 ?ax6 ?lx6 ?cx6 ?kx6 ?ax7 ?lx7 ?cx7 ?kx7 ?ax8 ?lx8 ?cx8 ?kx8 ?ax9 ?lx9 ?cx9 ?kx9 ?z_bool ?z_dict ?z_int ?z_isinstance ?z_len ?z_list ?z_range ?z_sorted ?z_str ?z_tuple
    (case ax0 => k_is); (case lx0 => k_is); (case cx0 => k_is); (case kx0 => k_is); (case ax1 => k_is); (case lx1 => k_is)
    (case cx1 => k_is); (case kx1 => k_is); (case ax2 => k_is); (case lx2 => k_is); (case cx2 => k_is); (case kx2 => k_is)
    (case ax3 => k_is); (case lx3 => k_is); (case cx3 => k_is); (case kx3 => k_is); (case ax4 => k_is); (case lx4 => k_is)
    (case cx4 => k_is); (case kx4 => k_is); (case ax5 => k_is); (case lx5 => k_is); (case cx5 => k_is); (case kx5 => k_is)
    (case ax6 => k_is); (case lx6 => k_is); (case cx6 => k_is); (case kx6 => k_is); (case ax7 => k_is); (case lx7 => k_is)
    (case cx7 => k_is); (case kx7 => k_is); (case ax8 => k_is); (case lx8 => k_is); (case cx8 => k_is); (case kx8 => k_is)
    (case ax9 => k_is); (case lx9 => k_is); (case cx9 => k_is); (case kx9 => k_is); (case z_bool => k_is); (case z_dict => k_is)
    (case z_int => k_is); (case z_isinstance => k_is); (case z_len => k_is); (case z_list => k_is); (case z_range => k_is); (case z_sorted => k_is)
    (case z_str => k_is); (case z_tuple => k_is)
#print axioms PySem.Challenge.cw_cardwright_k71_places_that_runs_come_by_holds
