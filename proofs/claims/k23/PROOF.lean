import PyProof.Rows.All
import Wide.All
import OpenK.AllK
import Wide.FinOn
import HandS.ForMost
import HandS.Wide
import HandS.IsInst
import HandS.Evl
import HandS.ForExc
import HandS.ExcIs
import HandS.WideBits
import HandS.AnyAll
import HandS.Codes
import HandS.Comp
import HandS.Dict
import HandS.EndTab
import HandS.Iter
import HandS.MapJoin
import HandS.MapObj
import HandS.More
import HandS.ReplaceDef
import HandS.ReplaceLit
import HandS.Rev
import HandS.RevTup
import HandS.StrMore
import HandS.Style
import HandS.Text
import HandS.Walk
import HandS.Zip
import PySem.Challenge.RW_cardwright_k23_moves_and_stores
set_option Elab.async false
set_option linter.all false
set_option maxRecDepth 100000
set_option maxHeartbeats 4000000
namespace WP
open PySem PySem.Spec PyProof.Rows L2

/-! ### a def that may be called -/
structure Callee (P : Program) (w : World) (K : PySem.W.Frag) (mg : Str → Option Value) (base : Heap) (CX : CXT) (lv : Nat) (nm : Str) (ps : List Str) (sp : Sp) : Prop where
  ex : ∃ (f : Addr) (fd : FuncData), FnOk P w K mg base CX lv f fd ps sp ∧ mg nm = some (.ref f) ∧ PySem.W.keepIn K (.ref f) = true ∧ Binds K fd ps []
theorem Callee.mk' {P : Program} {w : World} {K : PySem.W.Frag} {mg : Str → Option Value} {base : Heap} {CX : CXT} {lv : Nat} {nm : Str} {ps : List Str} {sp : Sp} {f : Addr} {fd : FuncData}
    (h : FnOk P w K mg base CX lv f fd ps sp) (m : mg nm = some (.ref f)) (k : PySem.W.keepIn K (.ref f) = true) (b : Binds K fd ps []) : Callee P w K mg base CX lv nm ps sp := ⟨⟨f, fd, h, m, k, b⟩⟩
section
variable {X : Cx} {CX : CXT} {k j : Nat} {ps : List Str} {sp : Sp} {E : XK} {x : Str} {p pos : Pos} {e : Expr} {es : List Expr} {t : TA}
theorem pe_callC (C : Callee X.prog X.w X.K X.mg X.base CX k x ps sp) (hr : Room j X.A) (hg : Gl X x) (hx : Passes CX X E) (ha : PA X (e :: es) t) (hl : k ≤ j := by decide)
    (hdb : (x == ("__debug__" : Str)) = false := by decide) (he : starEach (e :: es) X.env = (false, eval e X.env) :: starEach es X.env := by rfl) (hpl : (backTo pos (starEach es X.env)).any (·.1) = false := by rfl) :
    PE X (.Call (.Name x p) (e :: es) [] pos) (tCall sp [] E t) := by
  obtain ⟨f, fd, F, hm, hk, hb⟩ := C.ex
  exact pe_call F (hr.mono hl) hg hm hk hb .nil hx ha hdb he hpl
theorem pe_callC0 (C : Callee X.prog X.w X.K X.mg X.base CX k x ps sp) (hr : Room j X.A) (hg : Gl X x) (hx : Passes CX X E) (hl : k ≤ j := by decide)
    (hdb : (x == ("__debug__" : Str)) = false := by decide) : PE X (.Call (.Name x p) [] [] pos) (tCall sp [] E tNil) := by
  obtain ⟨f, fd, F, hm, hk, hb⟩ := C.ex
  exact pe_call0 F (hr.mono hl) hg hm hk hb .nil hx hdb
end

/-! ### readings, a step at a time -/
section
variable {σ : L2.St} {H : Hp} {D : Ends} {t u : TS} {te ta tb : TE} {tt tu : TT} {g : TG} {Q : VK} {QB : Bool → Hp → Prop} {QA : List V → Hp → Prop} {r : R2} {i j : Int} {n : Nat} {v x y : V}
theorem seq (h : t { D with nx := u D } σ H) : tSeq t u D σ H := h
theorem asg (h : te σ H fun x H1 => g x σ H1 D.nx) : tAsg te g D σ H := h
theorem name {QS : L2.St → Hp → Prop} (h : QS (σ.set n (some v)) H) : gName n v σ H QS := h
theorem var (e : σ[n]? = some (some v)) (h : Q v H) : tVar n σ H Q := ⟨v, e, h⟩
theorem con (h : Q v H) : tC v σ H Q := h
theorem op (h : ta σ H fun x H1 => tb σ H1 fun y H2 => r x y H2 Q) : tOp r ta tb σ H Q := h
theorem un {ru : V → Hp → VK → Prop} (h : ta σ H fun x H1 => ru x H1 Q) : tUn ru ta σ H Q := h
theorem rU_ {g : Int → V} (h : Q (g i) H) : rU g (.int i) H Q := ⟨i, rfl, h⟩
theorem i0 {g : Int → Int → V} (h : Q (g i j) H) : rI0 g (.int i) (.int j) H Q := ⟨i, j, rfl, rfl, h⟩
theorem iC {C : Int → Int → Prop} {g : Int → Int → V} (c : C i j) (h : Q (g i j) H) : rI C g (.int i) (.int j) H Q := ⟨i, j, rfl, rfl, c, h⟩
theorem eqS (s : scal x y = true) (h : Q (.bl (decide (x = y))) H) : rEq x y H Q := ⟨s, h⟩
theorem neS (s : scal x y = true) (h : Q (.bl (!decide (x = y))) H) : rNe x y H Q := ⟨s, h⟩
theorem ifS (h : tt σ H fun b H1 => if b = true then t D σ H1 else u D σ H1) : tIfS tt t u D σ H := h
theorem ifE (h : tt σ H fun b H1 => if b = true then ta σ H1 Q else tb σ H1 Q) : tIf tt ta tb σ H Q := h
theorem test (h : te σ H fun x H1 => ∃ k, x = .bl k ∧ QB k H1) : tTest te σ H QB := h
theorem bt (h : te σ H fun x H1 => ∃ k, x = .bl k ∧ QB k H1) : tB te σ H QB := h
theorem isb {b : Bool} (h : QB b H) : ∃ k, V.bl b = V.bl k ∧ QB k H := ⟨b, rfl, h⟩
theorem ret (h : te σ H D.rt) : tRet te D σ H := h
theorem retN (h : D.rt .non H) : tRetN D σ H := h
theorem drop (h : te σ H fun _ H1 => D.nx σ H1) : tDrop te D σ H := h
theorem next (h : D.nx σ H) : tNext D σ H := h
theorem brk (h : D.bk σ H) : tBreak D σ H := h
theorem cont (h : D.ct σ H) : tCont D σ H := h
theorem cb {rc : List V → Hp → VK → Prop} {a : TA} (h : a σ H fun vs H1 => rc vs H1 Q) : tCB rc a σ H Q := h
theorem call {sp : Sp} {E : XK} {a : TA} (h : a σ H fun vs H1 => sp (vs ++ []) H1 Q E) : tCall sp [] E a σ H Q := h
theorem cons {a : TA} (h : te σ H fun x H1 => a σ H1 fun xs H2 => QA (x :: xs) H2) : tCons te a σ H QA := h
theorem nil (h : QA [] H) : tNil σ H QA := h
theorem tup {a : TA} (h : a σ H fun xs H1 => xs.length ≤ sizeLine ∧ ∀ p, H1 p = none → Q (.ref p) (upd H1 p (.tup xs))) : tTup a σ H Q := h
theorem lst {a : TA} (h : a σ H fun xs H1 => xs.length ≤ sizeLine ∧ ∀ p, H1 p = none → Q (.ref p) (upd H1 p (.lst xs))) : tLst a σ H Q := h
theorem notT (h : tt σ H fun c H1 => QB (!c) H1) : tNot tt σ H QB := h
theorem andT (h : tt σ H fun c H1 => if c = true then tu σ H1 QB else QB false H1) : tAnd tt tu σ H QB := h
theorem orT (h : tt σ H fun c H1 => if c = true then QB true H1 else tu σ H1 QB) : tOr tt tu σ H QB := h
theorem andV (h : ta σ H fun x H1 => ∃ c, x = .bl c ∧ if c = true then tb σ H1 Q else Q (.bl false) H1) : tAndV ta tb σ H Q := h
theorem orV (h : ta σ H fun x H1 => ∃ c, x = .bl c ∧ if c = true then Q (.bl true) H1 else tb σ H1 Q) : tOrV ta tb σ H Q := h
theorem notV (h : ta σ H fun x H1 => ∃ c, x = .bl c ∧ Q (.bl (!c)) H1) : tNotV ta σ H Q := h
theorem isbV {b : Bool} {R : Bool → Prop} (h : R b) : ∃ k, V.bl b = V.bl k ∧ R k := ⟨b, rfl, h⟩
theorem sl {r : V → Option Int → Option Int → Hp → VK → Prop} {tl th : TO} (h : te σ H fun x H1 => tl σ H1 fun l H2 => th σ H2 fun u H3 => r x l u H3 Q) : tSl r te tl th σ H Q := h
theorem noPart {QO : Option Int → Hp → Prop} (h : QO none H) : tNoPart σ H QO := h
theorem part {QO : Option Int → Hp → Prop} (h : te σ H fun x H1 => ∃ i, x = .int i ∧ QO (some i) H1) : tPart te σ H QO := h
theorem isi {R : Int → Prop} (h : R i) : ∃ k, V.int i = V.int k ∧ R k := ⟨i, rfl, h⟩
/-- tests -/
theorem br {c A B : Prop} [Decidable c] (h1 : c → A) (h2 : ¬ c → B) : if decide c = true then A else B := by
  by_cases h : c
  · rw [decide_eq_true h, if_pos rfl]; exact h1 h
  · rw [decide_eq_false h, if_neg Bool.false_ne_true]; exact h2 h
theorem brN {c A B : Prop} [Decidable c] (h1 : ¬ c → A) (h2 : c → B) : if (!decide c) = true then A else B := by
  by_cases h : c
  · rw [decide_eq_true h]; exact iteF (h2 h)
  · rw [decide_eq_false h]; exact iteT (h1 h)
theorem brT {b : Bool} {A B : Prop} (e : b = true) (h : A) : if b = true then A else B := by rw [if_pos e]; exact h
theorem brF {b : Bool} {A B : Prop} (e : b = false) (h : B) : if b = true then A else B := by rw [if_neg (by rw [e]; exact Bool.false_ne_true)]; exact h
theorem brB {b : Bool} {A B : Prop} (h1 : b = true → A) (h2 : b = false → B) : if b = true then A else B := by
  cases b
  · exact iteF (h2 rfl)
  · exact iteT (h1 rfl)
theorem dec_int {i j : Int} : decide (V.int i = V.int j) = decide (i = j) := by
  by_cases h : i = j
  · rw [decide_eq_true h, decide_eq_true (congrArg V.int h)]
  · rw [decide_eq_false h, decide_eq_false fun e => h (V.int.inj e)]
theorem dec_str {i j : Str} : decide (V.str i = V.str j) = decide (i = j) := by
  by_cases h : i = j
  · rw [decide_eq_true h, decide_eq_true (congrArg V.str h)]
  · rw [decide_eq_false h, decide_eq_false fun e => h (V.str.inj e)]
theorem dec_bl {i j : Bool} : decide (V.bl i = V.bl j) = decide (i = j) := by
  by_cases h : i = j
  · rw [decide_eq_true h, decide_eq_true (congrArg V.bl h)]
  · rw [decide_eq_false h, decide_eq_false fun e => h (V.bl.inj e)]
theorem eqI (h : Q (.bl (decide (i = j))) H) : rEq (.int i) (.int j) H Q := ⟨rfl, by rw [dec_int]; exact h⟩
theorem neI (h : Q (.bl (!decide (i = j))) H) : rNe (.int i) (.int j) H Q := ⟨rfl, by rw [dec_int]; exact h⟩
theorem eqT {a b : Str} (h : Q (.bl (decide (a = b))) H) : rEq (.str a) (.str b) H Q := ⟨rfl, by rw [dec_str]; exact h⟩
theorem neT {a b : Str} (h : Q (.bl (!decide (a = b))) H) : rNe (.str a) (.str b) H Q := ⟨rfl, by rw [dec_str]; exact h⟩
theorem eqB {a b : Bool} (h : Q (.bl (decide (a = b))) H) : rEq (.bl a) (.bl b) H Q := ⟨rfl, by rw [dec_bl]; exact h⟩
theorem neB {a b : Bool} (h : Q (.bl (!decide (a = b))) H) : rNe (.bl a) (.bl b) H Q := ⟨rfl, by rw [dec_bl]; exact h⟩
end
/-! ### numbers of a known number of bits -/
theorem sz2 : (2 : Nat) ≤ sizeLine := by rw [sizeLine_eq]; decide
theorem sz {n : Nat} (h : n ≤ 1000000) : n ≤ sizeLine := by rw [sizeLine_eq]; omega
end WP
namespace WP
open PySem PySem.Spec PyProof.Rows L2
section
variable {X : Cx} {x : Str} {v : V} {pos : Pos}
theorem pe_const (hg : Gl X x) (h : ∃ u, X.mg x = some u ∧ RelV v u) (hd : (x == ("__debug__" : Str)) = false := by decide) : PE X (.Name x pos) (tC v) := by
  obtain ⟨u, hm, r⟩ := h
  exact pe_glob hg hm r hd
end
/-- a number of at most a bits -/
def Bt (i : Int) (a : Nat) : Prop := i.natAbs < 2 ^ a
theorem Bt.mono {i : Int} {a b : Nat} (h : Bt i a) (l : a ≤ b) : Bt i b := Nat.lt_of_lt_of_le h (Nat.pow_le_pow_right (by decide) l)
theorem Bt.mul {i j : Int} {a b : Nat} (h : Bt i a) (k : Bt j b) : Bt (i * j) (a + b) := wide_lt h k
theorem Bt.neg {i : Int} {a : Nat} (h : Bt i a) : Bt (-i) a := by unfold Bt at *; rw [Int.natAbs_neg]; exact h
theorem Bt.add {i j : Int} {a : Nat} (h : Bt i a) (k : Bt j a) : Bt (i + j) (a + 1) := by
  unfold Bt at *
  have := Int.natAbs_add_le i j
  rw [Nat.pow_succ]; omega
theorem Bt.sub {i j : Int} {a : Nat} (h : Bt i a) (k : Bt j a) : Bt (i - j) (a + 1) := by
  rw [Int.sub_eq_add_neg]; exact h.add k.neg
theorem Bt.le {i j : Int} {a : Nat} (h : Bt i a) (k : j.natAbs ≤ i.natAbs) : Bt j a := Nat.lt_of_le_of_lt k h
theorem Bt.ten (n : Nat) : Bt (10 ^ n) (4 * n + 1) := by
  unfold Bt
  have e : ((10 : Int) ^ n).natAbs = 10 ^ n := by rw [Int.natAbs_pow]; rfl
  rw [e]
  have h : 10 ^ n ≤ 16 ^ n := Nat.pow_le_pow_left (by decide) n
  have h2 : (16 : Nat) ^ n = 2 ^ (4 * n) := by rw [show (16 : Nat) = 2 ^ 4 from rfl, ← Nat.pow_mul]
  rw [h2] at h
  rw [Nat.pow_succ]
  have : 0 < 2 ^ (4 * n) := Nat.pow_pos (by decide)
  omega
theorem Bt.w {i j : Int} {a b : Nat} (h : Bt i a) (k : Bt j b) (l : a + b ≤ 999998 := by omega) : CMulW i j :=
  wide_mul (h.mono (Nat.le_succ a)) (k.mono (Nat.le_succ b)) (Nat.succ_pos _) (Nat.succ_pos _) (by omega)
theorem Bt.d {j : Int} {b : Nat} (h : 0 < j) (k : Bt j b) (l : b ≤ 8999 := by omega) : CDivW 0 j := wide_div h (k.mono (Nat.le_succ b)) (Nat.succ_pos _) (by omega)
theorem Bt.d' {i j : Int} {b : Nat} (h : 0 < j) (k : Bt j b) (l : b ≤ 8999 := by omega) : CDivW i j := Bt.d h k l
theorem ten_pos (n : Nat) : (0 : Int) < 10 ^ n := Int.pow_pos (by decide)
end WP
namespace WP
open PySem PySem.Spec PyProof.Rows L2
/-! ### what comes back -/
def RetT (xs : List V) (H : Hp) (Q : VK) : Prop := ∀ p H', Same H H' → H' p = some (.tup xs) → Q (.ref p) H'
def RetL (xs : List V) (H : Hp) (Q : VK) : Prop := ∀ p H', H p = none → Same H H' → H' p = some (.lst xs) → Q (.ref p) H'
def RetV (v : V) (H : Hp) (Q : VK) : Prop := ∀ H', Same H H' → Q v H'
theorem same_new {H : Hp} {p : Addr} {o : HO} (h : H p = none) : Same H (upd H p o) := fun b u e => by
  rw [upd_ne (ne_of_none e h)]; exact e
theorem same_mut {H H' : Hp} {p : Addr} {o : HO} (e : Same H H') (h : H p = none) : Same H (upd H' p o) := fun a u ha => by
  rw [upd_ne (ne_of_none ha h)]; exact e a u ha
theorem sqt {K : PySem.W.Frag} {H H' : Hp} {a : Addr} {xs : List V} (e : Same H H') (h : SqT K H a xs) : SqT K H' a xs := by
  rcases h with (h | ⟨o, h⟩) | h
  · exact .inl (.inl (e _ _ h))
  · exact .inl (.inr ⟨o, e _ _ h⟩)
  · exact .inr h
theorem RetT.new {xs : List V} {H H' : Hp} {Q : VK} (k : RetT xs H Q) (e : Same H H') : ∀ p, H' p = none → Q (.ref p) (upd H' p (.tup xs)) := fun p hp =>
  k p _ (e.trans (same_new hp)) upd_same
theorem RetL.new {xs : List V} {H H' : Hp} {Q : VK} (k : RetL xs H Q) (e : Same H H') : ∀ p, H' p = none → Q (.ref p) (upd H' p (.lst xs)) := fun p hp =>
  k p _ (e.free hp) (e.trans (same_new hp)) upd_same
/-- a decimal's two parts -/
abbrev dv (u : Int) (s : Nat) : List V := [.int u, .int (s : Int)]
theorem at0 {α : Type} {x : α} {xs : List α} : atI (x :: xs) (0 : Int) = some x := atI_nat (j := 0) rfl
theorem at1 {α : Type} {x y : α} {xs : List α} : atI (x :: y :: xs) (1 : Int) = some y := atI_nat (j := 1) rfl
theorem at2 {α : Type} {x y z : α} {xs : List α} : atI (x :: y :: z :: xs) (2 : Int) = some z := atI_nat (j := 2) rfl
theorem at3 {α : Type} {x y z u : α} {xs : List α} : atI (x :: y :: z :: u :: xs) (3 : Int) = some u := atI_nat (j := 3) rfl
theorem at4 {α : Type} {x y z u v : α} {xs : List α} : atI (x :: y :: z :: u :: v :: xs) (4 : Int) = some v := atI_nat (j := 4) rfl
section
variable {K : PySem.W.Frag} {H : Hp} {p : Addr} {xs : List V} {v : V} {i : Int} {Q : VK}
theorem ixT (h : SqT K H p xs) (a : atI xs i = some v) (q : Q v H) : rIxT K (.ref p) (.int i) H Q := ⟨p, xs, i, v, rfl, rfl, h, a, q⟩
theorem ixL (h : SqL K H p xs) (a : atI xs i = some v) (q : Q v H) : rIxL K (.ref p) (.int i) H Q := ⟨p, xs, i, v, rfl, rfl, h, a, q⟩
theorem unT {n : Nat} {t : TGs} {σ : L2.St} {QS : L2.St → Hp → Prop} (h : SqT K H p xs) (l : xs.length = n) (q : t xs σ H QS) : gTup K n t (.ref p) σ H QS := ⟨p, xs, rfl, h, l, q⟩
theorem gsCons {g : TG} {gs : TGs} {x : V} {r : List V} {σ : L2.St} {QS : L2.St → Hp → Prop} (q : g x σ H fun σ' H' => gs r σ' H' QS) : gCons g gs (x :: r) σ H QS := ⟨x, r, rfl, q⟩
theorem gsNil {σ : L2.St} {QS : L2.St → Hp → Prop} (q : QS σ H) : gNil [] σ H QS := ⟨rfl, q⟩
end
end WP
namespace WP
open PySem PySem.Spec PyProof.Rows L2
section
variable {K : PySem.W.Frag} {H : Hp} {p : Addr} {xs : List V} {v x : V} {i : Int} {Q : VK} {σ : L2.St} {D : Ends}
theorem forl {wi : TI} {g : TG} {tb : TS} (h : wi σ H fun J H1 => ∃ W : Nat → Nat → L2.St → Hp → Prop, (∃ m, W 0 m σ H1) ∧ ∀ i m σ H, W i m σ H →
  (J.stop i H ∧ D.nx σ H) ∨ (J.go i H ∧ ∃ N : L2.St → Hp → Prop, (∀ σ' H', N σ' H' → ∃ m', m' < m ∧ W (i + 1) m' σ' H') ∧ ∀ x H', J.yld i H x H' → g x σ H' fun σ2 H2 => tb { D with nx := N, ct := N, bk := D.nx } σ2 H2)) : tFor wi g tb D σ H := h
theorem rng1 {ta : TA} {R : It → Hp → Prop} (h : ta σ H fun vs H1 => ∃ j : Int, vs = [.int j] ∧ -(2 ^ 62) ≤ j ∧ j < 2 ^ 62 ∧ R (Itr 0 j.toNat) H1) : iRng1 ta σ H R := h
theorem rng2 {ta : TA} {R : It → Hp → Prop} (h : ta σ H fun vs H1 => ∃ i j : Int, vs = [.int i, .int j] ∧ (-(2 ^ 62) ≤ i ∧ i < 2 ^ 62 ∧ -(2 ^ 62) ≤ j ∧ j < 2 ^ 62) ∧ R (Itr i (j - i).toNat) H1) : iRng2 ta σ H R := h
theorem walkL {tl : TE} {R : It → Hp → Prop} (h : tl σ H fun x H1 => ∃ a, x = .ref a ∧ (∃ xs, SqL K H1 a xs) ∧ R (Itl K a) H1) : iList K tl σ H R := h
theorem walkT {tl : TE} {R : It → Hp → Prop} (h : tl σ H fun x H1 => ∃ a, x = .ref a ∧ (∃ xs, SqT K H1 a xs) ∧ R (Itt K a) H1) : iTup K tl σ H R := h
theorem isT {t n : String} {b : Bool} (ty : TyX K H x (.type t)) (q : Q (.bl b) H) (hb : kitB t n = some b := by decide +kernel) : rIsi K [x, .ty n] H Q :=
  ⟨x, .ty n, _, _, b, rfl, ClsV.ty n, ty, kit_ty hb, q⟩
theorem isY {t n : String} (ty : TyX K H x (.type t)) (q : Q (.bl true) H) (hb : kitB t n = some true := by decide +kernel) : rIsi K [x, .ty n] H Q := isT ty q hb
theorem isN {t n : String} (ty : TyX K H x (.type t)) (q : Q (.bl false) H) (hb : kitB t n = some false := by decide +kernel) : rIsi K [x, .ty n] H Q := isT ty q hb
def rLen (K : PySem.W.Frag) : List V → Hp → VK → Prop := fun xs H Q => ∃ x n, xs = [x] ∧ LenV K x H n ∧ Q (.int (n : Nat)) H
theorem c_len {X : Cx} : CallR X (.builtin "len") (rLen X.K) := call_len
theorem lenL (h : SqL K H p xs) (q : Q (.int (xs.length : Int)) H) : rLen K [V.ref p] H Q := ⟨_, _, rfl, .inl ⟨xs, h, rfl⟩, q⟩
theorem lenT (h : SqT K H p xs) (q : Q (.int (xs.length : Int)) H) : rLen K [V.ref p] H Q := ⟨_, _, rfl, .inr ⟨xs, h, rfl⟩, q⟩
theorem lenS {z : Str} (h : z.length ≤ sizeLine) (q : Q (.int (z.length : Int)) H) : rLen K [V.str z] H Q := ⟨_, _, rfl, ⟨h, rfl⟩, q⟩
def rInt1 : List V → Hp → VK → Prop := fun xs H Q => (∃ i, xs = [.int i] ∧ Q (.int i) H) ∨ ∃ k, xs = [.bl k] ∧ Q (.int (if k then 1 else 0)) H
theorem c_int1 {X : Cx} : CallR X (.type "int") rInt1 := call_int1
theorem intI (q : Q (.int i) H) : rInt1 [V.int i] H Q := .inl ⟨i, rfl, q⟩
theorem intB {b : Bool} (q : Q (.int (if b then 1 else 0)) H) : rInt1 [V.bl b] H Q := .inr ⟨b, rfl, q⟩
def rAbs : List V → Hp → VK → Prop := fun xs H Q => ∃ i, xs = [.int i] ∧ Q (.int (if i < 0 then -i else i)) H
theorem c_abs {X : Cx} : CallR X (.builtin "abs") rAbs := call_abs
theorem absI (q : Q (.int (i.natAbs : Int)) H) : rAbs [V.int i] H Q := ⟨i, rfl, by
  have e : (if i < 0 then -i else i) = (i.natAbs : Int) := by split <;> omega
  rw [e]; exact q⟩
def rMax2 : List V → Hp → VK → Prop := fun xs H Q => ∃ i j, xs = [.int i, .int j] ∧ Q (.int (if j > i then j else i)) H
def rMin2 : List V → Hp → VK → Prop := fun xs H Q => ∃ i j, xs = [.int i, .int j] ∧ Q (.int (if j < i then j else i)) H
theorem c_max2 {X : Cx} (hc : X.calm = true) : CallR X (.builtin "max") rMax2 := call_max2 hc
theorem c_min2 {X : Cx} (hc : X.calm = true) : CallR X (.builtin "min") rMin2 := call_min2 hc
theorem maxI {j : Int} (q : Q (.int (max i j)) H) : rMax2 [V.int i, V.int j] H Q := ⟨i, j, rfl, by
  have e : (if j > i then j else i) = max i j := by split <;> omega
  rw [e]; exact q⟩
theorem minI {j : Int} (q : Q (.int (min i j)) H) : rMin2 [V.int i, V.int j] H Q := ⟨i, j, rfl, by
  have e : (if j < i then j else i) = min i j := by split <;> omega
  rw [e]; exact q⟩
def rStrI : List V → Hp → VK → Prop := fun xs H Q => ∃ i : Int, xs = [.int i] ∧ i.natAbs.log2 < 1920 ∧ Q (.str (toString i)) H
theorem c_str {X : Cx} : CallR X (.type "str") rStrI := call_str_int
theorem strI (h : i.natAbs.log2 < 1920) (q : Q (.str (toString i)) H) : rStrI [V.int i] H Q := ⟨i, rfl, h, q⟩
def rListOf (K : PySem.W.Frag) : List V → Hp → VK → Prop := fun xs H Q => ∃ p ys, xs = [.ref p] ∧ (SqL K H p ys ∨ SqT K H p ys) ∧ ∀ l, H l = none → Q (.ref l) (upd H l (.lst ys))
theorem c_listOf {X : Cx} : CallR X (.type "list") (rListOf X.K) := call_list_of
theorem listL (h : SqL K H p xs) (q : ∀ l, H l = none → Q (.ref l) (upd H l (.lst xs))) : rListOf K [V.ref p] H Q := ⟨p, xs, rfl, .inl h, q⟩
theorem listT (h : SqT K H p xs) (q : ∀ l, H l = none → Q (.ref l) (upd H l (.lst xs))) : rListOf K [V.ref p] H Q := ⟨p, xs, rfl, .inr h, q⟩
def rTupOf (K : PySem.W.Frag) : List V → Hp → VK → Prop := fun xs H Q => ∃ p ys, xs = [.ref p] ∧ ((SqL K H p ys ∧ ∀ l, H l = none → Q (.ref l) (upd H l (.tup ys))) ∨ (SqT K H p ys ∧ Q (.ref p) H))
theorem c_tupOf {X : Cx} : CallR X (.type "tuple") (rTupOf X.K) := call_tuple_of
theorem tupL (h : SqL K H p xs) (q : ∀ l, H l = none → Q (.ref l) (upd H l (.tup xs))) : rTupOf K [V.ref p] H Q := ⟨p, xs, rfl, .inl ⟨h, q⟩⟩
def rOrd : List V → Hp → VK → Prop := fun xs H Q => ∃ x : Str, xs = [.str x] ∧ x.length = 1 ∧ Q (.int (x.cps.getD 0 0 : Nat)) H
theorem c_ord {X : Cx} : CallR X (.builtin "ord") rOrd := call_ord
theorem ordS {z : Str} (h : z.length = 1) (q : Q (.int (z.cps.getD 0 0 : Nat)) H) : rOrd [V.str z] H Q := ⟨z, rfl, h, q⟩
def rDivmod : List V → Hp → VK → Prop := fun xs H Q => ∃ i j, xs = [.int i, .int j] ∧ CDiv i j ∧ ∀ p, H p = none → Q (.ref p) (upd H p (.tup [.int (i / j), .int (i % j)]))
theorem c_divmod {X : Cx} : CallR X (.builtin "divmod") rDivmod := call_divmod
theorem sql {H' : Hp} {a : Addr} (e : Same H H') (h : SqL K H a xs) : SqL K H' a xs := e.seq h
theorem at_ints {ns : List Int} (h0 : 0 ≤ i) (h1 : i < (ns.length : Int)) : atI (ns.map V.int) i = some (.int (ns.getD i.toNat 0)) := by
  have e : i = ((i.toNat : Nat) : Int) := (Int.toNat_of_nonneg h0).symm
  rw [e]
  refine atI_nat ?_
  have hl : i.toNat < ns.length := by omega
  rw [List.getElem?_map, List.getElem?_eq_getElem hl, Int.toNat_natCast, List.getD_eq_getElem?_getD, List.getElem?_eq_getElem hl]
  rfl
end
end WP
namespace WP
open PySem PySem.Spec PyProof.Rows L2
section
variable {X : Cx}
theorem cut {t u : TS} {D : Ends} {σ : L2.St} {H : Hp} (Mid : L2.St → Hp → Prop) (h : t { D with nx := Mid } σ H) (k : ∀ σ' H', Mid σ' H' → u D σ' H') : Evl.tCut t u D σ H := ⟨Mid, h, k⟩
end
/-! ### == of data -/
section
variable {K : PySem.W.Frag} {H : Hp} {x y : V} {d e : PyData} {Q : VK}
theorem eqD (a : Dp K H x d) (b : Dp K H y e) (h : Q (.bl (PyData.eqv d e)) H) (s1 : SeqAt.shaped d = true := by first | rfl | decide +kernel) (s2 : SeqAt.shaped e = true := by first | rfl | decide +kernel) : rEqD K x y H Q := ⟨d, e, a, b, s1, s2, h⟩
theorem neD (a : Dp K H x d) (b : Dp K H y e) (h : Q (.bl (!PyData.eqv d e)) H) (s1 : SeqAt.shaped d = true := by first | rfl | decide +kernel) (s2 : SeqAt.shaped e = true := by first | rfl | decide +kernel) : rNeD K x y H Q := ⟨d, e, a, b, s1, s2, h⟩
theorem dpv {p : Addr} {u : Int} {s : Nat} (h : SqT K H p (dv u s)) : Dp K H (.ref p) (.tuple [.int u, .int (s : Int)]) := .tup h (.cons (.int _) (.cons (.int _) .nil))
end
end WP
namespace WP
open PySem PySem.Spec PyProof.Rows L2
abbrev MG := Str → Option Value
/-- the address that a module's name holds -/
def ca (mg : MG) (nm : Str) : Addr := match mg nm with
  | some (.ref a) => a
  | _ => 0
theorem ca_of {mg : MG} {nm : Str} {a : Addr} (h : mg nm = some (.ref a)) : ca mg nm = a := by unfold ca; rw [h]
/-! ### own exceptions without an __init__ of their own -/
structure ExcAt (K : PySem.W.Frag) (C : Addr) : Prop where
  x : PySem.W.excIn K C [.type "ValueError", .type "Exception", .type "BaseException", .type "object"] "ValueError.__new__" = true
  k : PySem.W.keepIn K (.ref C) = true
  t : PySem.W.typeIn K (.ref C) = some (.type "type")
  c : ExcC K C
structure ExcOk (K : PySem.W.Frag) (mg : MG) (nm : Str) : Prop where
  m : mg nm = some (.ref (ca mg nm))
  a : ExcAt K (ca mg nm)
theorem ExcOk.mk' {K : PySem.W.Frag} {mg : MG} {nm : Str} {C : Addr} (h : mg nm = some (.ref C)) (x : ExcAt K C) : ExcOk K mg nm := by
  have e := ca_of h
  exact ⟨by rw [e]; exact h, by rw [e]; exact x⟩
theorem ExcAt.raises {X : Cx} {C : Addr} (x : ExcAt X.K C) : Raises X (.ref C) := raises_own x.c.hs x.t
theorem ExcAt.catches {K : PySem.W.Frag} {C : Addr} (x : ExcAt K C) {cls : Value} {b : Bool} (h : PySem.W.subIn K cls (.ref C) = some b) : PySem.W.exmOne K cls (.ref C) = some b := PySem.W.exm_ref x.c.hs x.c.hd x.t h
section
variable {X : Cx} {x m : Str} {j : Nat} {p p2 pos pos2 : Pos} {W : WX}
theorem ps_raiseC (hc : X.calm = true) (tk : Takes X W) (e : ExcOk X.K X.mg x) (hg : Gl X x) (hdb : (x == ("__debug__" : Str)) = false := by decide) :
    PS X (.Raise (some (.Call (.Name x p) [.Constant (.str m) j p2] [] pos)) none pos2) (fun _ σ H => W (.ref (ca X.mg x)) none σ H) :=
  ps_raise hc tk (pmk_own PySem.F.excBase_ValueError e.a.x e.m e.a.k e.a.raises hg hdb)
end
/-- isinstance of the caught error -/
def rIsX (K : PySem.W.Frag) (a : Addr) (cls : Value) (d : Option Addr) : List V → Hp → VK → Prop := fun xs H Q => ∃ D, cls = .ref D ∧ d = none ∧ ExcC K D ∧ rIsE K D a xs H Q
theorem call_isX {X : Cx} {a : Addr} {oe : Obj} {cls : Value} {d : Option Addr} {pn : List (Addr × Obj)} (hz : Zc cls d oe) (hf : ∃ vs, oe.data = .fields vs) : CallR (X.suite a ((a, oe) :: pn)) (.builtin "isinstance") (rIsX X.K a cls d) := by
  intro pins s σ H xs us Q I r h
  obtain ⟨D, rfl, rfl, c, h⟩ := h
  exact call_isE c hz hf pins s σ H xs us Q I r h
theorem isX {K : PySem.W.Frag} {a D C : Addr} {b : Bool} {H : Hp} {Q : VK} (c : ExcC K D) (h : PySem.W.kitOne K (.ref D) (.ref C) = some b) (q : Q (.bl b) H) : rIsX K a (.ref D) none [.ref a, .ref C] H Q :=
  ⟨D, rfl, rfl, c, .ref C, .ref C, b, rfl, fun _ r => r, h, q⟩
section
variable {X : Cx} {CX' : CXT} {k j : Nat} {ps : List Str} {sp : Sp} {E : L2.St → XK} {E0 : XK} {x : Str} {p pos : Pos} {e : Expr} {es : List Expr} {t : TA}
theorem pe_callSC (C : Callee X.prog X.w X.K X.mg X.base (L2.CX X.prog X.w) k x ps sp) (hr : Room j X.A) (hg : Gl X x) (hx : ∀ σ, PassesAt (L2.CX X.prog X.w) X σ (E σ)) (ha : PA X (e :: es) t) (hl : k ≤ j := by decide)
    (hdb : (x == ("__debug__" : Str)) = false := by decide) (he : starEach (e :: es) X.env = (false, eval e X.env) :: starEach es X.env := by rfl) (hpl : (backTo pos (starEach es X.env)).any (·.1) = false := by rfl) :
    PE X (.Call (.Name x p) (e :: es) [] pos) (tCallS sp E t) := by
  obtain ⟨f, fd, F, hm, hk, hb⟩ := C.ex
  exact pe_callS F (hr.mono hl) hg hm hk hb hx ha hdb he hpl
/-- what a callee lets out leaves this def too -/
theorem passX {E : XK} {E₁ : Value → Shared → Prop} (hs : X.stack = X.env :: X.outer) (hf : X.env.frame = some X.env.locals) (hex : X.ex = [])
    (hx : X.xe = fun e s' => wpAny (model X.prog X.w) X.A (leaving X.env e) (fun _ s'' => L2.CX X.prog X.w X.outer X.H_0 X.s_0 E e s'') E₁ s') : Passes (L2.CX X.prog X.w) X E :=
  fun pins σ H s e s' I c => passes_call (takes_of hs hf hex hx) (fun _ _ _ _ z => z) pins σ H s e s' I c
end
theorem callS {sp : Sp} {E : L2.St → XK} {a : TA} {σ : L2.St} {H : Hp} {Q : VK} (h : a σ H fun vs H1 => sp vs H1 Q (E σ)) : tCallS sp E a σ H Q := h
end WP
namespace WP
open PySem PySem.Spec PyProof.Rows L2
def rDivmodW : List V → Hp → VK → Prop := fun xs H Q => ∃ i j, xs = [.int i, .int j] ∧ CDivP i j ∧ ∀ p, H p = none → Q (.ref p) (upd H p (.tup [.int (i / j), .int (i % j)]))
theorem c_divmodW {X : Cx} : CallR X (.builtin "divmod") rDivmodW := call_divmodW
theorem Bt.p {i j : Int} {a : Nat} (h : Bt i a) (hj : 0 < j) (l : a ≤ 4000 := by omega) : CDivP i j := divp_ok hj (by have := intBits_le h; omega)
theorem divW {i j : Int} {H : Hp} {Q : VK} (c : CDivP i j) (q : ∀ p, H p = none → Q (.ref p) (upd H p (.tup [.int (i / j), .int (i % j)]))) : rDivmodW [.int i, .int j] H Q := ⟨i, j, rfl, c, q⟩
end WP
namespace WP
open PySem PySem.Spec PyProof.Rows L2
/-- a callee that raises, called where it does not -/
theorem pass0X {X : Cx} : Passes (L2.CX X.prog X.w) X (fun _ _ _ => False) := fun pins σ H s e s' I c => passes_call (W := fun _ _ _ _ => False) takes0 (fun _ _ _ _ z => z) pins σ H s e s' I c
end WP
namespace WP
open PySem PySem.Spec PyProof.Rows L2
/-- no star -/
def noStar : Expr → Bool
  | .Starred _ _ => false
  | _ => true
theorem starEach_no {e : Expr} {es : List Expr} {env : Env} (h : noStar e = true) : starEach (e :: es) env = (false, eval e env) :: starEach es env := by
  cases e with
  | Starred a b => cases h
  | _ => rfl
theorem pa_consN {X : Cx} {e : Expr} {es : List Expr} {te : TE} {t : TA} (ha : PE X e te) (hr : PA X es t) (hs : noStar e = true := by rfl) : PA X (e :: es) (tCons te t) := pa_cons ha hr (starEach_no hs)
end WP

namespace WP
open PySem PySem.Spec PyProof.Rows L2
open SX (S S_len S_cat)
section
variable {X : Cx}
theorem pe_strL {x : Str} {j pos} (l : List Nat) (h : x = S l) : PE X (.Constant (.str x) j pos) (tC (.str (S l))) := by subst h; exact pe_str
/-- text * number -/
def rMulS : R2 := fun x y H Q => ∃ (a : Str) (i : Int), x = .str a ∧ y = .int i ∧ MulOk a i ∧ Q (.str (Txt.mul a i)) H
theorem op_mul_str : OpR X (binaryOp .Mult) rMulS := by
  intro pins s σ H x y v u Q I rx ry h
  obtain ⟨a, i, rfl, rfl, hz, q⟩ := h
  obtain ⟨t, rfl⟩ := rx
  obtain ⟨t', rfl⟩ := ry
  exact SB.mul hz fun t' k => ⟨.str _, H, I.tok _, ⟨_, rfl⟩, q⟩
def rAddS : R2 := fun x y H Q => ∃ (a b : Str), x = .str a ∧ y = .str b ∧ a.length + b.length ≤ sizeLine ∧ Q (.str (a ++ b)) H
theorem op_addS : OpR X (binaryOp .Add) rAddS := op_add_str
def rZfill : V → List V → Hp → VK → Prop := fun x xs H Q => ∃ (a : Str) (i : Int), x = .str a ∧ xs = [.int i] ∧ PadOk i = true ∧ Q (.str (Txt.zfill a i)) H
theorem m_zfill : MtR X "str.zfill" rZfill := mt_zfill
def rIntS : List V → Hp → VK → Prop := fun xs H Q => ∃ (a : Str) (n : Int), xs = [.str a] ∧ PySem.intText? a = some n ∧ a.length ≤ 640 ∧ Q (.int n) H
theorem c_intS : CallR X (.type "int") rIntS := call_int_str
end
section
variable {a b l : List Nat} {i : Int} {H : Hp} {Q : VK}
theorem catS (q : Q (.str (S (a ++ b))) H) (h : a.length + b.length ≤ sizeLine := by size_fits) : rAddS (.str (S a)) (.str (S b)) H Q := ⟨_, _, rfl, rfl, by rw [S_len, S_len]; exact h, by rw [S_cat]; exact q⟩
theorem reps1 (c : Nat) : ∀ (k : Nat) (acc : Array Nat), ((List.replicate k #[c]).foldl (· ++ ·) acc) = (acc.toList ++ List.replicate k c).toArray
  | 0, acc => by simp
  | k + 1, acc => by
    rw [List.replicate_succ, List.foldl_cons, reps1 c k]
    simp [List.replicate_succ]
theorem mul_S (c : Nat) (i : Int) : Txt.mul (S [c]) i = S (List.replicate i.toNat c) := by
  unfold Txt.mul
  split
  · rename_i h
    rw [show i.toNat = 0 by omega]; rfl
  · rename_i h
    split
    · rename_i h2
      have : i = 1 := by
        rw [Bool.or_eq_true] at h2
        rcases h2 with h2 | h2
        · exact eq_of_beq h2
        · exact absurd h2 (by rw [S_len]; exact Bool.false_ne_true)
      subst this
      rfl
    · show (⟨(List.replicate i.toNat #[c]).foldl (· ++ ·) #[]⟩ : Str) = _
      rw [reps1]; simp [S]
theorem mulOk1 (c : Nat) {i : Int} (h : i ≤ 100000) (h2 : -100000 ≤ i) : MulOk (S [c]) i := by
  refine ⟨by rw [decide_eq_false (by omega), decide_eq_false (by omega)]; rfl, fun h1 _ => ?_, fun h1 _ => ?_⟩
  · rw [S_len]
    show ¬ (((1 : Nat) : Int) > _)
    have : (1 : Int) ≤ (2 ^ 63 - 1) / i := by
      rw [Int.le_ediv_iff_mul_le (by omega)]; omega
    omega
  · rw [S_len]
    unfold Builtin.Str.tooLong
    exact decide_eq_false (by rw [sizeLine_eq]; show ¬ (1 * i.toNat > _); omega)
theorem mulS {c : Nat} (h : i ≤ 100000) (h2 : -100000 ≤ i) (q : Q (.str (S (List.replicate i.toNat c))) H) : rMulS (.str (S [c])) (.int i) H Q :=
  ⟨_, _, rfl, rfl, mulOk1 c h h2, by rw [mul_S]; exact q⟩
/-- zfill of a text without a sign -/
theorem zfill_S (h : ∀ c, l.head? = some c → c ≠ 43 ∧ c ≠ 45) (hi : 0 ≤ i) : Txt.zfill (S l) i = S (List.replicate (i.toNat - l.length) 48 ++ l) := by
  unfold Txt.zfill
  rw [S_len]
  split
  · rename_i h1
    rw [show i.toNat - l.length = 0 by omega]; rfl
  · unfold PySem.zfilled
    have e : (S l).cps[0]? = l.head? := by simp [S, List.head?_eq_getElem?]
    rw [e]
    have fin : Builtin.Str.padded (S l) (i.toNat - l.length) 0 48 = S (List.replicate (i.toNat - l.length) 48 ++ l) := by
      unfold Builtin.Str.padded
      simp [S]
    split
    · rename_i hc; exact absurd rfl (h _ hc).1
    · rename_i hc; exact absurd rfl (h _ hc).2
    · exact fin
theorem zfillS (h : ∀ c, l.head? = some c → c ≠ 43 ∧ c ≠ 45) (hi : 0 ≤ i) (h2 : i ≤ 100000) (q : Q (.str (S (List.replicate (i.toNat - l.length) 48 ++ l))) H) : rZfill (.str (S l)) [.int i] H Q :=
  ⟨_, _, rfl, rfl, by unfold PadOk fitsSsize; rw [decide_eq_false (by omega), decide_eq_false (by omega)]; unfold Builtin.Str.tooLong; rw [decide_eq_false (by rw [sizeLine_eq]; omega)]; rfl, by rw [zfill_S h hi]; exact q⟩
theorem lenS' (h : l.length ≤ sizeLine) (q : Q (.int (l.length : Int)) H) {K : PySem.W.Frag} : rLen K [V.str (S l)] H Q := ⟨_, _, rfl, ⟨by rw [S_len]; exact h, rfl⟩, by rw [S_len]; exact q⟩
theorem strN {n : Nat} (h : n.log2 < 1920) (q : Q (.str (S (TL.numL n))) H) : rStrI [V.int (n : Int)] H Q := ⟨_, rfl, by rw [Int.natAbs_natCast]; exact h, by
  have e : Str.ofString (toString ((n : Nat) : Int)) = S (TL.numL n) := SX.num_S n
  rw [e]; exact q⟩
theorem intSd (h : l.all (fun c => decide (48 ≤ c) && decide (c ≤ 57)) = true) (hne : l ≠ []) (hl : l.length ≤ 640) (q : Q (.int ((NumText.digitsVal l : Nat) : Int)) H) : rIntS [V.str (S l)] H Q :=
  ⟨_, _, rfl, SX.int_S h hne (by omega), by rw [S_len]; exact hl, q⟩
theorem slS {lo hi : Option Int} (z : Str) (h : z.length ≤ sizeLine) (q : Q (.str (Txt.slice z lo hi)) H) : rSlS (.str z) lo hi H Q := ⟨z, rfl, h, by rw [C8.cutS_slice]; exact q⟩
theorem slTo (hi : 0 ≤ i) (h : l.length ≤ sizeLine) (q : Q (.str (S (l.take i.toNat))) H) : rSlS (.str (S l)) none (some i) H Q := slS _ (by rw [S_len]; exact h) (by rw [SX.slice_to hi]; exact q)
theorem slFrom (hi : 0 ≤ i) (h : l.length ≤ sizeLine) (q : Q (.str (S (l.drop i.toNat))) H) : rSlS (.str (S l)) (some i) none H Q := slS _ (by rw [S_len]; exact h) (by rw [SX.slice_from hi]; exact q)
/-- an index from the end -/
theorem idx_neg_hi {l1 : Option Int} {n : Nat} {i : Int} (h : i < 0) (h2 : 0 ≤ i + n) : Builtin.Str.strSliceIndices l1 (some i) 1 n = Builtin.Str.strSliceIndices l1 (some (i + n)) 1 n := by
  have h1 : ¬ (i + n < 0) := by omega
  simp only [Builtin.Str.strSliceIndices, h, h1, if_false, if_true]
theorem idx_neg_lo {l1 : Option Int} {n : Nat} {i : Int} (h : i < 0) (h2 : 0 ≤ i + n) : Builtin.Str.strSliceIndices (some i) l1 1 n = Builtin.Str.strSliceIndices (some (i + n)) l1 1 n := by
  have h1 : ¬ (i + n < 0) := by omega
  simp only [Builtin.Str.strSliceIndices, h, h1, if_false, if_true]
theorem slice_toN (h : i < 0) (h2 : 0 ≤ i + (l.length : Int)) : Txt.slice (S l) none (some i) = S (l.take (i + (l.length : Int)).toNat) := by
  rw [← SX.slice_to h2]
  unfold Txt.slice
  rw [S_len, idx_neg_hi h h2]
theorem slice_fromN (h : i < 0) (h2 : 0 ≤ i + (l.length : Int)) : Txt.slice (S l) (some i) none = S (l.drop (i + (l.length : Int)).toNat) := by
  rw [← SX.slice_from h2]
  unfold Txt.slice
  rw [S_len, idx_neg_lo h h2]
theorem slToN (hi : i < 0) (h2 : 0 ≤ i + (l.length : Int)) (h : l.length ≤ sizeLine) (q : Q (.str (S (l.take (i + (l.length : Int)).toNat))) H) : rSlS (.str (S l)) none (some i) H Q := slS _ (by rw [S_len]; exact h) (by rw [slice_toN hi h2]; exact q)
theorem slFromN (hi : i < 0) (h2 : 0 ≤ i + (l.length : Int)) (h : l.length ≤ sizeLine) (q : Q (.str (S (l.drop (i + (l.length : Int)).toNat))) H) : rSlS (.str (S l)) (some i) none H Q := slS _ (by rw [S_len]; exact h) (by rw [slice_fromN hi h2]; exact q)
theorem eqTS {a b : List Nat} (h : Q (.bl (decide (a = b))) H) : rEq (.str (S a)) (.str (S b)) H Q := ⟨rfl, by
  have e : decide ((S a : Str) = S b) = decide (a = b) := by
    by_cases h : a = b
    · subst h; rw [decide_eq_true rfl, decide_eq_true rfl]
    · rw [decide_eq_false h, decide_eq_false fun z => h (SX.S_inj z)]
  rw [dec_str, e]; exact h⟩
theorem neTS {a b : List Nat} (h : Q (.bl (!decide (a = b))) H) : rNe (.str (S a)) (.str (S b)) H Q := ⟨rfl, by
  have e : decide ((S a : Str) = S b) = decide (a = b) := by
    by_cases h : a = b
    · subst h; rw [decide_eq_true rfl, decide_eq_true rfl]
    · rw [decide_eq_false h, decide_eq_false fun z => h (SX.S_inj z)]
  rw [dec_str, e]; exact h⟩
/-- range with a step -/
theorem rng3 {ta : TA} {σ : L2.St} {R : It → Hp → Prop} (h : ta σ H fun vs H1 => ∃ (i j c : Int) (n : Nat), vs = [.int i, .int j, .int c] ∧ RgC i j c n ∧ R (Itc i c n) H1) : iRng3 ta σ H R := h
end
/-! ### the figures of a number -/
/-- k figures of n -/
def padL : Nat → Nat → List Nat
  | 0, _ => []
  | k + 1, n => padL k (n / 10) ++ [48 + n % 10]
theorem padL_len : ∀ k n, (padL k n).length = k
  | 0, _ => rfl
  | k + 1, n => by unfold padL; rw [List.length_append, padL_len]; rfl
theorem numL_app : ∀ (k q r : Nat), 0 < q → r < 10 ^ k → TL.numL (q * 10 ^ k + r) = TL.numL q ++ padL k r
  | 0, q, r, _, hr => by
    have : r = 0 := by simp at hr; exact hr
    subst this
    simp [padL]
  | k + 1, q, r, hq, hr => by
    have e10 : 10 ^ (k + 1) = 10 ^ k * 10 := Nat.pow_succ ..
    have hp : 0 < 10 ^ k := Nat.pow_pos (by decide)
    have b : 10 ≤ q * 10 ^ (k + 1) + r := by
      have : 1 * 10 ^ (k + 1) ≤ q * 10 ^ (k + 1) := Nat.mul_le_mul_right _ hq
      omega
    have d : (q * 10 ^ (k + 1) + r) / 10 = q * 10 ^ k + r / 10 := by
      rw [e10, ← Nat.mul_assoc]; omega
    have m : (q * 10 ^ (k + 1) + r) % 10 = r % 10 := by
      rw [e10, ← Nat.mul_assoc]; omega
    rw [TL.numL_step b, d, m, numL_app k q (r / 10) hq (by omega)]
    rw [show padL (k + 1) r = padL k (r / 10) ++ [48 + r % 10] from rfl, List.append_assoc]
theorem padL_zero : ∀ k, padL k 0 = List.replicate k 48
  | 0 => rfl
  | k + 1 => by unfold padL; rw [show 0 / 10 = 0 from rfl, padL_zero k, List.replicate_succ']
theorem padL_num : ∀ (k n : Nat), 0 < k → n < 10 ^ k → padL k n = List.replicate (k - (TL.numL n).length) 48 ++ TL.numL n
  | k + 1, n, _, h => by
    by_cases c : n < 10
    · rw [TL.numL_lt c]
      unfold padL
      rw [show n / 10 = 0 by omega, padL_zero, show n % 10 = n by omega]
      rfl
    · have hk : 0 < k := by
        rcases k with _ | k
        · simp at h; omega
        · omega
      have e10 : 10 ^ (k + 1) = 10 ^ k * 10 := Nat.pow_succ ..
      rw [TL.numL_step (by omega)]
      unfold padL
      rw [padL_num k (n / 10) hk (by omega), List.length_append, List.append_assoc]
      congr 2
      simp
theorem numL_head {n c : Nat} (h : (TL.numL n).head? = some c) : c ≠ 43 ∧ c ≠ 45 := by
  have m : c ∈ TL.numL n := List.mem_of_head? h
  have := TL.numL_digits n c m
  omega
theorem digits_rep (n : Nat) : NumText.digitsVal (49 :: List.replicate n 48) = 10 ^ n := by
  unfold NumText.digitsVal
  rw [List.foldl_cons]
  have : ∀ (n a : Nat), (List.replicate n 48).foldl (fun acc c => acc * 10 + (c - 48)) a = a * 10 ^ n := by
    intro n
    induction n with
    | zero => intro a; simp
    | succ n ih => intro a; rw [List.replicate_succ, List.foldl_cons, ih, Nat.pow_succ]; rw [Nat.sub_self, Nat.add_zero, Nat.mul_assoc, Nat.mul_comm 10]
  rw [this]; simp
end WP
namespace WP
open PySem PySem.Spec PyProof.Rows L2
section
variable {K : PySem.W.Frag} {σ : L2.St} {H : Hp} {Q : VK} {x v : V} {p : Addr} {xs : List V}
theorem bm {T : String} {r : V → List V → Hp → VK → Prop} {to : TE} {t : TA} (h : to σ H fun x H1 => tyV K T x H1 ∧ t σ H1 fun xs H2 => r x xs H2 Q) : tBM K T r to t σ H Q := h
theorem tyS {z : Str} {A : Prop} (q : A) : tyV K "str" (.str z) H ∧ A := ⟨rfl, q⟩
theorem gsub {to ti : TE} {t : TSet} {QS : L2.St → Hp → Prop} (h : to σ H fun o H1 => ti σ H1 fun i H2 => t o i v H2 fun H3 => QS σ H3) : gSub to ti t v σ H QS := h
theorem setL {k : Int} {j : Nat} {R : Hp → Prop} (hp : H p = some (.lst xs)) (hj : ixN xs.length k = some j) (q : R (upd H p (.lst (xs.set j v)))) : rSetL (.ref p) (.int k) v H R := ⟨p, xs, k, j, rfl, rfl, hp, hj, q⟩
theorem appL (hp : H p = some (.lst xs)) (hz : xs.length < sizeLine) (q : Q .non (upd H p (.lst (xs ++ [v])))) : rAppend (.ref p) [v] H Q := ⟨p, xs, v, rfl, rfl, hp, hz, q⟩
theorem tyL {A : Prop} (hp : SqL K H p xs) (q : A) : tyV K "list" (.ref p) H ∧ A := ⟨.inl ⟨rfl, xs, hp⟩, q⟩
theorem tyT (h : SqT K H p xs) : TyX K H (.ref p) (.type "tuple") := by
  rcases h with (h | ⟨o, h⟩) | h
  · exact .base (.tup h)
  · exact .fTuple h
  · obtain ⟨o, its, n, h1, h2, h3⟩ := h
    exact .kTuple h1 h2
/-- all objects but the one at d are kept -/
def Sx (d : Addr) (H H' : Hp) : Prop := ∀ a o, a ≠ d → H a = some o → H' a = some o
theorem Sx.refl {d : Addr} {H : Hp} : Sx d H H := fun _ _ _ e => e
theorem Sx.trans {d : Addr} {H H' H2 : Hp} (h : Sx d H H') (k : Sx d H' H2) : Sx d H H2 := fun a o n e => k a o n (h a o n e)
theorem Sx.of {d : Addr} {H H' : Hp} (h : Same H H') : Sx d H H' := fun a o _ e => h a o e
theorem Sx.upd {d : Addr} {H : Hp} {o : HO} : Sx d H (upd H d o) := fun a u n e => by rw [upd_ne n]; exact e
theorem sqtX {d : Addr} {H H' : Hp} {ys : List V} (e : Sx d H H') (hd : H d = some (.lst ys)) (h : SqT K H p xs) : SqT K H' p xs := by
  rcases h with (h | ⟨o, h⟩) | h
  · exact .inl (.inl (e _ _ (fun z => by rw [z, hd] at h; cases h) h))
  · exact .inl (.inr ⟨o, e _ _ (fun z => by rw [z, hd] at h; cases h) h⟩)
  · exact .inr h
end
end WP
namespace WP
theorem log2_lt {n k : Nat} (hk : 0 < k) (h : n < 2 ^ k) : n.log2 < k := by
  by_cases z : n = 0
  · subst z; exact hk
  · exact (Nat.log2_lt z).mpr h
end WP
namespace WP
open PySem PySem.Spec PyProof.Rows L2
theorem ifSS {c : Prop} [Decidable c] {a b : List Nat} {σ : L2.St} {H : Hp} {Q : VK} (q : Q (.str (SX.S (if c then a else b))) H) : if decide c = true then tC (.str (SX.S a)) σ H Q else tC (.str (SX.S b)) σ H Q := by
  by_cases h : c
  · rw [if_pos (decide_eq_true h)]; rw [if_pos h] at q; exact q
  · rw [if_neg (by rw [decide_eq_false h]; exact Bool.false_ne_true)]; rw [if_neg h] at q; exact q
end WP
namespace WP
open PySem PySem.Spec PyProof.Rows L2
section
variable {K : PySem.W.Frag} {H H' : Hp} {a d : Addr} {xs : List V}
theorem sqlX (e : Sx d H H') (n : a ≠ d) (h : SqL K H a xs) : SqL K H' a xs := by
  rcases h with (h | ⟨o, h⟩) | h
  · exact .inl (.inl (e _ _ n h))
  · exact .inl (.inr ⟨o, e _ _ n h⟩)
  · exact .inr h
end
end WP
namespace WP
open PySem PySem.Spec PyProof.Rows L2
/-- a text that may stand in data -/
def SOk (z : Str) : Prop := (PyData.str z).canLay0 = true
theorem SOk.sh {z : Str} (h : SOk z) : SeqAt.shaped (.str z) = true := Bool.and_eq_true_iff.mpr ⟨h, rfl⟩
theorem sok_S {l : List Nat} (h : ∀ c ∈ l, c < 1114112) : SOk (SX.S l) := by
  show (SX.S l).cps.all (· < 0x110000) = true
  rw [← Array.all_toList]
  exact List.all_eq_true.mpr fun c hc => decide_eq_true (h c hc)
end WP
namespace WP
open PySem PySem.Spec PyProof.Rows L2
theorem rg9 {j : Int} (h1 : 1 ≤ j) (h2 : j ≤ 1000) : RgC 0 j 9 ((j - 1) / 9 + 1).toNat := by
  have e : Builtin.Range.rangeSize 0 j 9 = (j - 1) / 9 + 1 := by
    unfold Builtin.Range.rangeSize
    rw [if_pos (by decide), if_pos (by omega), show j - 0 - 1 = j - 1 by omega]
  refine ⟨by decide, by decide, ?_, by rw [e]; omega⟩
  unfold Builtin.Range.small
  rw [e]
  simp only [Builtin.Range.rangeFitsLong, Bool.and_eq_true, Bool.or_eq_true, decide_eq_true_eq, beq_iff_eq]
  simp
  omega
end WP

namespace WJ
open PySem PySem.W PySem.Calls PyProof.Rows PySem.SC
section
variable {prog : Program} {w : World} {A : Around} {E : Value → Shared → Prop} {s : Shared}
/-- x.join(reversed(a list)): the walk backwards is collected, then glued -/
theorem join_rev {x : Str} {t : Tok} {ys : List Str} {it l : Addr} {its : Array Value} {Q : Value → Shared → Prop} (hh : A.handled = none)
    (hi : s.heap.IsRevIter it l ((its.size : Int) - 1)) (hl : s.heap.IsList l its) (ne : l ≠ it) (hn : its.size ≤ sizeLine)
    (hy : ∀ acc : Array Value, ItemsOf (fun i v => its[its.size - 1 - i]? = some v) acc its.size → StrsAre acc.toList ys) (fit : (ys.map (·.length)).sum + ys.length * x.length ≤ 16777216)
    (done : ∀ (h' : Heap) (t' : Tok) (k : Nat), (∀ b o, b ≠ it → s.heap.get? b = some o → h'.get? b = some o) → Q (.str (Txt.join x ys) t') { s with heap := h', toks := k }) :
    wpAny (model prog w) A (call (.builtin "str.join") [.str x t, .ref it]) Q E s := by
  have T : s.TypeIs (.ref it) "list_reverseiterator" := Heap.IsRevIter.typeIs hi
  refine wpAny_call (codeAny_call_builtin F.slot_str_join.plain F.entry_str_join ?_)
  refine F.slot_str_join.check _ _ _ _ _ _ _ _ (typeIs_str _ _ _) (F.args_str_join_2 _ _) ?_
  rw [join_tree_other]
  refine wpAny_bind (wpAny_typeOf T ?_)
  show wpAny _ A.in1 ((pyIter (.ref it)).tryCatch _ >>= fun j => collect j >>= fun zs => joinTail x zs) _ _ s
  refine wpAny_bind (wpAny_tryCatch (wpAny_pyIter_revIter hi ?_))
  refine wpAny_bind (RT.collect_rev hh hi hl ne hn fun h' k acc kept got => ?_)
  obtain ⟨ts, et, ey⟩ := strsAre_values (hy acc got)
  subst ey
  rw [et]
  have ok := joinOk_of fit
  unfold JoinOk at ok
  rw [Bool.not_eq_true'] at ok
  have G : Gives (joinTail x (strValues ts)) (joinMade x ts) := by
    rcases ts with _ | ⟨_, _ | ⟨_, _⟩⟩ <;> exact gives_joinTail x _ ok
  refine G prog w A (wants Q E) { s with heap := h', toks := k } (post_join ts ⟨joinFit_length ok, fun t' k' => ?_⟩)
  exact done h' t' k' kept
end
end WJ
namespace WP
open PySem PySem.Spec PyProof.Rows L2
/-- sep.join(reversed(xs)), xs a list of texts -/
def tJoinRev (K : PySem.W.Frag) (to te : TE) : TE := fun σ H Q => to σ H fun x H1 => (∃ a, x = .str a) ∧ te σ H1 fun v H2 => ∃ (a : Str) (q : Addr) (ys : List Str),
  x = .str a ∧ v = .ref q ∧ SqL K H2 q (ys.map V.str) ∧ ((ys.map (·.length)).sum + ys.length * a.length ≤ 16777216) ∧ Q (.str (Txt.join a ys.reverse)) H2
theorem pe_joinRev {X : Cx} {o e : Expr} {to te : TE} {apos pos p2 pos2 : Pos} (hc : X.calm = true) (ho : PE X o to) (hg : Gl X "reversed") (hm : X.mg "reversed" = none) (he : PE X e te)
    (hs1 : starEach [.Call (.Name "reversed" p2) [e] [] pos2] X.env = [(false, eval (.Call (.Name "reversed" p2) [e] [] pos2) X.env)] := by rfl)
    (hs : starEach [e] X.env = (false, eval e X.env) :: starEach [] X.env := by rfl)
    (hbase : attributeBase o "join" X.env (eval o X.env) = eval o X.env := by rfl) (hline : (apos.endLine == pos.line) = true := by rfl) :
    PE X (.Call (.Attribute o "join" apos) [.Call (.Name "reversed" p2) [e] [] pos2] [] pos) (tJoinRev X.K to te) := by
  refine ⟨fun pins s σ H Q I h => ?_⟩
  refine PySem.Call_method1 hbase hs1 hline (thn (ho.run pins s σ H _ I h) fun v s1 ⟨x, H1, I1, r1, q1⟩ => ?_)
  obtain ⟨⟨a, rfl⟩, q1⟩ := q1
  obtain ⟨t, rfl⟩ := _root_.id r1
  refine ⟨"str", _, F.plainAttrs_str, F.slot_str_join, F.type_str_join, typeIs_str _ _ _, (fun _ e => nomatch e), Calls.callWith_builtin rfl (Calls.evalArgs_plain (Calls.spliced_cons ?_))⟩
  refine Call_ (ld_blt I1 hg hm PyProof.Rows.boot_reversed (PyProof.Rows.callWith_type1 (args_cons (thn (he.run pins s1 σ H1 _ I1 q1) fun u s2 ⟨v2, H2, I2, r2, q2⟩ => args_nil ?_) hs) hs rfl))
  obtain ⟨a', q, ys, ea, ev, hq, hz, q2⟩ := q2
  cases ea
  subst ev
  obtain rfl : u = Value.ref q := r2
  obtain ⟨its, rv, pl, hsz⟩ := I2.list hq
  refine call_reversed_list pl.isList (Calls.spliced_nil ?_)
  have k0 : ∀ b o, s2.heap.get? b = some o → (s2.heap.push (revObj q ((its.toArray.size : Int) - 1))).get? b = some o := fun b o e => Heap.get?_push_of_some _ e
  have I3 : Inv X pins σ H2 { s2 with heap := s2.heap.push (revObj q ((its.toArray.size : Int) - 1)) } := I2.kept (t' := s2.toks) k0
  obtain ⟨f0, f1, f2, f3, f4, f5⟩ := I2.fpOk (H' := H2) (b := s2.heap.objs.size) (Nat.le_refl _) (I2.hok.fresh (Nat.le_refl _))
  have hl := pl.isList
  obtain ⟨ol, hol, _⟩ := _root_.id hl
  refine WJ.join_rev (s := { s2 with heap := s2.heap.push (revObj q ((its.toArray.size : Int) - 1)) }) (ys := ys.reverse) (I2.ok.hd hc) ⟨_, Heap.get?_push_size _ rfl, rfl, rfl⟩ (hl.push _) (Nat.ne_of_lt (Heap.lt_size hol))
    (by rw [List.size_toArray, ← rv.length]; exact hsz) (fun acc hacc => ?_) (by rw [List.map_reverse, List.sum_reverse, List.length_reverse]; exact hz) fun h' t' k hk => ?_
  · have z := RT.vals_rev rv hacc
    rw [← List.map_reverse] at z
    exact strs_of_vals z
  · exact ⟨.str _, H2, I3.turned (t' := k) (fun b o hb e => hk b o hb e) f0 f1 f3 f4 f5, ⟨t', rfl⟩, q2⟩
end WP
namespace WP
open PySem PySem.Spec PyProof.Rows L2
theorem jr {K : PySem.W.Frag} {to te : TE} {σ : L2.St} {H : Hp} {Q : VK} (h : to σ H fun x H1 => (∃ a, x = .str a) ∧ te σ H1 fun v H2 => ∃ (a : Str) (q : Addr) (ys : List Str),
  x = .str a ∧ v = .ref q ∧ SqL K H2 q (ys.map V.str) ∧ ((ys.map (·.length)).sum + ys.length * a.length ≤ 16777216) ∧ Q (.str (Txt.join a ys.reverse)) H2) : tJoinRev K to te σ H Q := h
theorem joinL_nil : ∀ l : List (List Nat), TL.joinL [] l = l.flatten
  | [] => rfl
  | [p] => by simp [TL.joinL]
  | p :: q :: r => by rw [TL.joinL, joinL_nil (q :: r)]; simp
theorem join_nilS (ys : List (List Nat)) : Txt.join (SX.S []) (ys.map SX.S) = SX.S ys.flatten := by rw [SX.join_S, joinL_nil]
end WP

namespace WP
open PySem PySem.Spec PyProof.Rows L2
open SX (S S_len S_cat)
/-! ### tuples and dicts of the module -/
structure KTp (K : PySem.W.Frag) (mg : MG) (nm : Str) (xs : List V) : Prop where
  m : mg nm = some (.ref (ca mg nm))
  s : ∀ H, SqT K H (ca mg nm) xs
theorem KTp.mk' {K : PySem.W.Frag} {mg : MG} {nm : Str} {C : Addr} {xs : List V} (h : mg nm = some (.ref C)) (x : ∀ H, SqT K H C xs) : KTp K mg nm xs := by
  have e := ca_of h
  exact ⟨by rw [e]; exact h, by rw [e]; exact x⟩
structure KDc (K : PySem.W.Frag) (w : World) (mg : MG) (nm : Str) (l : List (Str × V)) : Prop where
  m : mg nm = some (.ref (ca mg nm))
  s : ∀ p ∈ l, KDct K w (ca mg nm) p.1 p.2
theorem KDc.mk' {K : PySem.W.Frag} {w : World} {mg : MG} {nm : Str} {C : Addr} {l : List (Str × V)} (h : mg nm = some (.ref C)) (x : ∀ p ∈ l, KDct K w C p.1 p.2) : KDc K w mg nm l := by
  have e := ca_of h
  exact ⟨by rw [e]; exact h, by rw [e]; exact x⟩
theorem kdc_cons {K : PySem.W.Frag} {w : World} {C : Addr} {k : Str} {v : V} {l : List (Str × V)} (h : KDct K w C k v) (t : ∀ p ∈ l, KDct K w C p.1 p.2) : ∀ p ∈ (k, v) :: l, KDct K w C p.1 p.2 := fun p hp => by
  rcases List.mem_cons.mp hp with e | e
  · subst e; exact h
  · exact t p e
section
variable {X : Cx}
theorem pe_ktup {x : Str} {xs : List V} {pos : Pos} (hg : Gl X x) (h : KTp X.K X.mg x xs) (hd : (x == ("__debug__" : Str)) = false := by decide) : PE X (.Name x pos) (tC (.ref (ca X.mg x))) := pe_glob hg h.m rfl hd
def rUpper : V → List V → Hp → VK → Prop := fun x xs H Q => ∃ a, x = .str a ∧ xs = [] ∧ a.length ≤ 5592405 ∧ Q (.str (Txt.upper a)) H
theorem m_upper : MtR X "str.upper" rUpper := mt_upper
theorem pe_dgetD {o e f : Expr} {td ty tx : TE} {apos cpos : Pos} (hu : X.A.units + 1 < cLine) (ho : PE X o td) (he : PE X e ty) (hf : PE X f tx) (m : M2 X o "get" apos e f cpos) : PE X (.Call (.Attribute o "get" apos) [e, f] [] cpos) (tDGet2 td ty tx) :=
  pe_dget2 hu ho he hf m
end
section
variable {K : PySem.W.Frag} {w : World} {σ : L2.St} {H : Hp} {Q : VK} {l : List Nat} {i : Int} {c : Nat}
theorem ixS1 (a : atI l i = some c) (hz : l.length ≤ sizeLine) (q : Q (.str (S [c])) H) : rIxS (.str (S l)) (.int i) H Q := ⟨S l, i, c, rfl, rfl, by rw [S_len]; exact hz, a, q⟩
theorem wstr {te : TE} {R : It → Hp → Prop} (h : te σ H fun v H1 => ∃ x, v = .str x ∧ R (Its x) H1) : iStr te σ H R := h
theorem upS (h : l.all (· < 128) = true) (hl : l.length ≤ 1000) (q : Q (.str (S (l.map up1))) H) : rUpper (.str (S l)) [] H Q := ⟨_, rfl, rfl, by rw [S_len]; omega, by rw [SX.upper_S h]; exact q⟩
theorem inV_S {s : List Nat} : ∀ {ls : List (List Nat)}, inV (.str (S s)) (ls.map fun a => V.str (S a)) = decide (s ∈ ls)
  | [] => rfl
  | a :: ls => by
    show (eqV (.str (S a)) (.str (S s)) || inV (.str (S s)) (ls.map fun a => V.str (S a))) = _
    rw [inV_S]
    show ((S a == S s) || _) = _
    rw [SX.S_beq_eq]
    by_cases h : a = s
    · subst h; simp
    · rw [decide_eq_false h, Bool.false_or]
      congr 1
      exact propext ⟨fun z => List.mem_cons_of_mem _ z, fun z => by
        rcases List.mem_cons.mp z with z | z
        · exact absurd z.symm h
        · exact z⟩
theorem flat_S : ∀ (ls : List (List Nat)), (ls.map fun a => V.str (S a)).all flatV = true
  | [] => rfl
  | a :: ls => flat_S ls
/-- a text in a tuple, a list of texts -/
theorem inT (ls : List (List Nat)) {p : Addr} {xs : List V} {s : List Nat} (h : SqT K H p xs) (e : xs = ls.map fun a => V.str (S a)) (q : Q (.bl (decide (s ∈ ls))) H) : rIn K false (.str (S s)) (.ref p) H Q := by
  subst e
  exact ⟨p, _, rfl, .inr h, rfl, flat_S ls, by rw [inV_S]; exact q⟩
theorem inL (ls : List (List Nat)) {p : Addr} {xs : List V} {s : List Nat} (h : SqL K H p xs) (e : xs = ls.map fun a => V.str (S a)) (q : Q (.bl (decide (s ∈ ls))) H) : rIn K false (.str (S s)) (.ref p) H Q := by
  subst e
  exact ⟨p, _, rfl, .inl h, rfl, flat_S ls, by rw [inV_S]; exact q⟩
/-- a sign in a text -/
def rInSign : R2 := fun x y H Q => ∃ (c : Nat) (z : Str), x = .str ⟨#[c]⟩ ∧ y = .str z ∧ Q (.bl (decide (c ∈ z.cps.toList))) H
theorem op_inSign {X : Cx} : OpR X (compareOp .In) rInSign := op_in_sign
theorem inSign (q : Q (.bl (decide (c ∈ l))) H) : rInSign (.str (S [c])) (.str (S l)) H Q := ⟨c, S l, rfl, rfl, q⟩
theorem ixK {nm : Str} {mg : MG} {ls : List (Str × V)} {s : Str} {v : V} (h : KDc K w mg nm ls) (m : (s, v) ∈ ls) (q : Q v H) : rIxD K w (.ref (ca mg nm)) (.str s) H Q := ⟨_, _, _, rfl, rfl, h.s _ m, q⟩
/-- displays of one and two pairs -/
theorem disp1 {a : Str} {v : V} (q : ∀ p, H p = none → Q (.ref p) (upd (upd H p (.dK [])) p (.dK [(.inr a, v)]))) : tDisp [(tC (.str a), tC v)] σ H Q := fun p hp =>
  ⟨upd_same, [(.inr a, v)], rfl, show 1 ≤ 15 by decide, q p hp⟩
theorem disp2 {a b : Str} {v u : V} (ne : ¬ a = b) (q : ∀ p, H p = none → Q (.ref p) (upd (upd H p (.dK [])) p (.dK [(.inr a, v), (.inr b, u)]))) : tDisp [(tC (.str a), tC v), (tC (.str b), tC u)] σ H Q := fun p hp =>
  ⟨upd_same, [(.inr a, v), (.inr b, u)], rfl, show 2 ≤ 15 by decide, by
    have e : mergeK [] [((Sum.inr a : Key), v), ((Sum.inr b : Key), u)] = [((Sum.inr a : Key), v), ((Sum.inr b : Key), u)] := by
      show putK (putK ([] : List (Key × V)) (Sum.inr a) v) (Sum.inr b) u = _
      have e1 : putK ([] : List (Key × V)) (Sum.inr a) v = [((Sum.inr a : Key), v)] := rfl
      rw [e1]
      unfold putK
      rw [if_neg (by simp [ne])]
      rfl
    rw [e]; exact q p hp⟩
theorem same_disp {p : Addr} {o u : HO} (hp : H p = none) : Same H (upd (upd H p o) p u) := fun b x e => by
  rw [upd_ne (ne_of_none e hp), upd_ne (ne_of_none e hp)]; exact e
end
end WP
namespace WP
open PySem PySem.Spec PyProof.Rows L2
theorem bm0 {K : PySem.W.Frag} {σ : L2.St} {H : Hp} {Q : VK} {T : String} {r : V → List V → Hp → VK → Prop} {to : TE} (h : to σ H fun x H1 => tyV K T x H1 ∧ r x [] H1 Q) : tBM0 K T r to σ H Q := h
/-- a for over the signs of a text -/
theorem for_txt {l : List Nat} {g : TG} {tb : TS} {D : Ends} {σ : L2.St} {H : Hp} (Pv : Nat → L2.St → Hp → Prop) (h0 : Pv 0 σ H)
    (hs : ∀ i c σ H, l[i]? = some c → Pv i σ H → g (.str (SX.S [c])) σ H fun σ2 H2 => tb { D with nx := Pv (i + 1), ct := Pv (i + 1), bk := D.nx } σ2 H2) (hd : ∀ σ H, Pv l.length σ H → D.nx σ H) :
    ∃ W : Nat → Nat → L2.St → Hp → Prop, (∃ m, W 0 m σ H) ∧ ∀ i m σ H, W i m σ H →
      ((Its (SX.S l)).stop i H ∧ D.nx σ H) ∨ ((Its (SX.S l)).go i H ∧ ∃ N : L2.St → Hp → Prop, (∀ σ' H', N σ' H' → ∃ m', m' < m ∧ W (i + 1) m' σ' H') ∧ ∀ x H', (Its (SX.S l)).yld i H x H' → g x σ H' fun σ2 H2 => tb { D with nx := N, ct := N, bk := D.nx } σ2 H2) := by
  have e : (SX.S l).cps.size = l.length := by simp [SX.S]
  refine for_it walk_str Pv h0 (fun _ _ _ _ _ => True.intro) (fun i x σ H H' hi p y => ?_) fun σ H p => hd σ H (by rw [← e]; exact p)
  obtain ⟨rfl, c, hc, rfl⟩ := y
  refine hs i c σ H' ?_ p
  simpa [SX.S] using hc
end WP
namespace WP
open PySem PySem.Spec PyProof.Rows L2
theorem pe_kdict {X : Cx} {x : Str} {xs : List (Str × V)} {pos : Pos} (hg : Gl X x) (h : KDc X.K X.w X.mg x xs) (hd : (x == ("__debug__" : Str)) = false := by decide) : PE X (.Name x pos) (tC (.ref (ca X.mg x))) := pe_glob hg h.m rfl hd
end WP
namespace WP
open PySem PySem.Spec PyProof.Rows L2
theorem lc {wi : TI} {g : TG} {tt : TT} {te : TE} {vs : List Nat} {σ : L2.St} {H : Hp} {Q : VK} (h : wi σ H fun J H1 => ∀ D, H1 D = none → ∃ W : Nat → Nat → Hp → Prop, (∃ m, W 0 m (upd H1 D (.lst []))) ∧ ∀ i m H, W i m H →
    (J.stop i H ∧ Q (.ref D) H) ∨ (J.go i H ∧ ∃ Nx : Hp → Prop, (∀ H', Nx H' → ∃ m', m' < m ∧ W (i + 1) m' H') ∧ ∀ x H', J.yld i H x H' → g x (wipe σ vs) H' fun σ2 H2 => wipe σ2 vs = wipe σ vs ∧ tt σ2 H2 fun b H3 =>
      if b = true then te σ2 H3 fun y H4 => ∃ acc, H4 D = some (.lst acc) ∧ acc.length < sizeLine ∧ Nx (upd H4 D (.lst (acc ++ [y]))) else Nx H3)) : tLc wi g tt te vs σ H Q := h
theorem lc_txt {l : List Nat} {g : TG} {tt : TT} {te : TE} {vs : List Nat} {σ : L2.St} {H1 : Hp} {D : Addr} {Qd : Hp → Prop} (Pv : Nat → Hp → Prop) (h0 : Pv 0 (upd H1 D (.lst [])))
    (hs : ∀ i c H, l[i]? = some c → Pv i H → g (.str (SX.S [c])) (wipe σ vs) H fun σ2 H2 => wipe σ2 vs = wipe σ vs ∧ tt σ2 H2 fun b H3 =>
      if b = true then te σ2 H3 fun y H4 => ∃ acc, H4 D = some (.lst acc) ∧ acc.length < sizeLine ∧ Pv (i + 1) (upd H4 D (.lst (acc ++ [y]))) else Pv (i + 1) H3) (hd : ∀ H, Pv l.length H → Qd H) :
    ∃ W : Nat → Nat → Hp → Prop, (∃ m, W 0 m (upd H1 D (.lst []))) ∧ ∀ i m H, W i m H →
      ((Its (SX.S l)).stop i H ∧ Qd H) ∨ ((Its (SX.S l)).go i H ∧ ∃ Nx : Hp → Prop, (∀ H', Nx H' → ∃ m', m' < m ∧ W (i + 1) m' H') ∧ ∀ x H', (Its (SX.S l)).yld i H x H' → g x (wipe σ vs) H' fun σ2 H2 => wipe σ2 vs = wipe σ vs ∧ tt σ2 H2 fun b H3 =>
        if b = true then te σ2 H3 fun y H4 => ∃ acc, H4 D = some (.lst acc) ∧ acc.length < sizeLine ∧ Nx (upd H4 D (.lst (acc ++ [y]))) else Nx H3) := by
  have e : (SX.S l).cps.size = l.length := by simp [SX.S]
  refine lc_it walk_str Pv h0 (fun _ _ _ _ => True.intro) (fun i x H H' hi p y => ?_) fun H p => hd H (by rw [← e]; exact p)
  obtain ⟨rfl, c, hc, rfl⟩ := y
  refine hs i c H' ?_ p
  simpa [SX.S] using hc
theorem at_S {ls : List (List Nat)} {i : Int} (h0 : 0 ≤ i) (h1 : i < (ls.length : Int)) : ∃ a ∈ ls, atI (ls.map fun a => V.str (SX.S a)) i = some (.str (SX.S a)) := by
  obtain ⟨j, rfl⟩ : ∃ j : Nat, i = (j : Int) := ⟨i.toNat, by omega⟩
  have hj : j < ls.length := by omega
  exact ⟨ls[j], List.getElem_mem hj, atI_nat (by rw [List.getElem?_map, List.getElem?_eq_getElem hj]; rfl)⟩
end WP
namespace WP
open PySem PySem.Spec PyProof.Rows L2
theorem dget2 {td ty tx : TE} {σ : L2.St} {H : Hp} {Q : VK} (h : td σ H fun x H1 => ∃ a, x = .ref a ∧ IsD H1 a ∧ ty σ H1 fun y H2 => tx σ H2 fun z H3 => ∃ o, DGet H3 a y o ∧ Q (o.getD z) H3) : tDGet2 td ty tx σ H Q := h
theorem dget {td ty : TE} {σ : L2.St} {H : Hp} {Q : VK} (h : td σ H fun x H1 => ty σ H1 fun y H2 => ∃ a v, x = .ref a ∧ DGet H2 a y (some v) ∧ Q v H2) : tDGet td ty σ H Q := h
theorem at_I {ls : List Int} {i : Int} (h0 : 0 ≤ i) (h1 : i < (ls.length : Int)) : ∃ a, atI (ls.map V.int) i = some (.int a) := ⟨_, at_ints h0 h1⟩
theorem valV1 {a c : List Nat} {v : V} : valV [((Sum.inr (SX.S a) : Key), v)] (Sum.inr (SX.S c)) = if a = c then some v else none := by
  by_cases h : a = c
  · subst h; rw [if_pos rfl]; exact valV_pos rfl
  · rw [if_neg h]; exact (valV_neg fun e => h (SX.S_inj (Sum.inr.inj e))).trans valV_nil
theorem valV2 {a b c : List Nat} {v u : V} : valV [((Sum.inr (SX.S a) : Key), v), ((Sum.inr (SX.S b) : Key), u)] (Sum.inr (SX.S c)) = if a = c then some v else if b = c then some u else none := by
  by_cases h : a = c
  · subst h; rw [if_pos rfl]; exact valV_pos rfl
  · rw [if_neg h]; exact (valV_neg fun e => h (SX.S_inj (Sum.inr.inj e))).trans valV1
end WP
namespace WP
open PySem PySem.Spec PyProof.Rows L2
theorem andOr {σ : L2.St} {H : Hp} {Q : VK} {ta tb tc : TE} {x y z : Bool} (ha : ∀ Q : VK, Q (.bl x) H → ta σ H Q) (hb : ∀ Q : VK, Q (.bl y) H → tb σ H Q) (hc : ∀ Q : VK, Q (.bl z) H → tc σ H Q)
    (q : Q (.bl (x && (y || z))) H) : tAndV ta (tOrV tb tc) σ H Q := by
  refine WP.andV (ha _ ⟨x, rfl, ?_⟩)
  cases x with
  | false => exact q
  | true =>
    refine WP.brT rfl (WP.orV (hb _ ⟨y, rfl, ?_⟩))
    cases y with
    | true => exact q
    | false => exact WP.brF rfl (hc _ q)
end WP
namespace WP
open PySem PySem.Spec PyProof.Rows L2
def rNotInSign : R2 := fun x y H Q => ∃ (c : Nat) (z : Str), x = .str ⟨#[c]⟩ ∧ y = .str z ∧ Q (.bl (!decide (c ∈ z.cps.toList))) H
theorem op_notInSign {X : Cx} : OpR X (compareOp .NotIn) rNotInSign := op_notIn_sign
theorem notInSign {c : Nat} {l : List Nat} {H : Hp} {Q : VK} (q : Q (.bl (!decide (c ∈ l))) H) : rNotInSign (.str (SX.S [c])) (.str (SX.S l)) H Q := ⟨c, SX.S l, rfl, rfl, q⟩
end WP
namespace WP
open PySem PySem.Spec PyProof.Rows L2
theorem chain {r r' : R2} {ta tb tc : TE} {σ : L2.St} {H : Hp} {Q : VK} (h : ta σ H fun x H1 => tb σ H1 fun y H2 => r x y H2 fun z H3 => ∃ k, z = .bl k ∧ (if k = true then tc σ H3 fun w' H4 => r' y w' H4 Q else Q (.bl false) H3)) : tChain r r' ta tb tc σ H Q := h
theorem notInL {K : PySem.W.Frag} {H : Hp} {Q : VK} (ls : List (List Nat)) {p : Addr} {xs : List V} {s : List Nat} (h : SqL K H p xs) (e : xs = ls.map fun a => V.str (SX.S a)) (q : Q (.bl (!decide (s ∈ ls))) H) : rIn K true (.str (SX.S s)) (.ref p) H Q := by
  subst e
  exact ⟨p, _, rfl, .inl h, rfl, flat_S ls, by rw [inV_S]; exact q⟩
end WP
namespace WP
open PySem PySem.Spec PyProof.Rows L2
theorem yes {σ : L2.St} {H : Hp} {t : Hp → Prop} {u : Hp → Prop} (h : t H) : tYes σ H (fun b H3 => if b = true then t H3 else u H3) := by
  show (if true = true then t H else u H)
  rw [if_pos rfl]; exact h
end WP
namespace WP
open PySem PySem.Spec PyProof.Rows L2
/-- text[i:j], both from the front -/
theorem slice_both {l : List Nat} {i j : Int} (h0 : 0 ≤ i) (h1 : i ≤ j) : Txt.slice (SX.S l) (some i) (some j) = SX.S ((l.drop i.toNat).take (j - i).toNat) := by
  have hl : ((SX.S l).length : Int) = (l.length : Int) := by rw [SX.S_len]
  by_cases hj : j ≤ (l.length : Int)
  · exact beq_iff_eq.mp (PyProof.Rows.slice_closesL (x := SX.S l) h0 h1 (by omega))
  · have e2 : Txt.slice (SX.S l) (some i) (some j) = Txt.slice (SX.S l) (some i) (some (l.length : Int)) := by
      unfold Txt.slice
      rw [SX.S_len, SX.idx_hi (by omega)]
    rw [e2]
    by_cases hi : i ≤ (l.length : Int)
    · have e := beq_iff_eq.mp (PyProof.Rows.slice_closesL (x := SX.S l) (j := (l.length : Int)) h0 hi (by omega))
      refine e.trans ?_
      show SX.S ((l.drop i.toNat).take ((l.length : Int) - i).toNat) = _
      rw [List.take_of_length_le (by rw [List.length_drop]; omega), List.take_of_length_le (by rw [List.length_drop]; omega)]
    · have e3 : Txt.slice (SX.S l) (some i) (some (l.length : Int)) = SX.S [] := by
        have hb := PyProof.Rows.slice_beyond (x := SX.S l) (i := i) (by omega)
        have hf := SX.slice_from (a := l) h0
        have e4 : Txt.slice (SX.S l) (some i) (some (l.length : Int)) = Txt.slice (SX.S l) (some i) none := by
          unfold Txt.slice
          rw [SX.S_len]
          have a1 : ¬ ((l.length : Int) < 0) := by omega
          have a2 : (1 : Int) > 0 := by decide
          simp only [Builtin.Str.strSliceIndices, a1, a2, if_false, if_true, Int.min_self, Int.max_eq_right (Int.natCast_nonneg l.length)]
        rw [e4, hf, List.drop_eq_nil_of_le (by omega)]
      rw [e3, List.drop_eq_nil_of_le (by omega), List.take_nil]
theorem slBoth {l : List Nat} {i j : Int} {H : Hp} {Q : VK} (h0 : 0 ≤ i) (h1 : i ≤ j) (h : l.length ≤ sizeLine) (q : Q (.str (SX.S ((l.drop i.toNat).take (j - i).toNat))) H) : rSlS (.str (SX.S l)) (some i) (some j) H Q := slS _ (by rw [SX.S_len]; exact h) (by rw [slice_both h0 h1]; exact q)
end WP
namespace WP
open PySem PySem.Spec PyProof.Rows L2
theorem m_lstripC {X : Cx} : MtR X "str.lstrip" (fun x xs H Q => ∃ a b, x = .str a ∧ xs = [.str b] ∧ a.length ≤ sizeLine ∧ Q (.str (Txt.lstripChars a b)) H) := mt_lstripChars
end WP
namespace WP
open PySem PySem.Spec PyProof.Rows L2
/-- in a comprehension's block: the fragment and the module named -/
theorem pe_ktupK {X : Cx} {K : PySem.W.Frag} {mg : MG} {x : Str} {xs : List V} {pos : Pos} (hg : Gl X x) (h : KTp K mg x xs) (hK : X.K = K) (hm : X.mg = mg) (hd : (x == ("__debug__" : Str)) = false := by decide) : PE X (.Name x pos) (tC (.ref (ca mg x))) := by
  subst hK hm
  exact pe_ktup hg h hd
theorem op_inK {X : Cx} {K : PySem.W.Frag} (h : X.K = K) : OpR X (compareOp .In) (rIn K false) := by subst h; exact op_in_seq
theorem op_notInK {X : Cx} {K : PySem.W.Frag} (h : X.K = K) : OpR X (compareOp .NotIn) (rIn K true) := by subst h; exact op_notIn_seq
end WP
namespace WP
open PySem PySem.Spec PyProof.Rows L2
theorem notInT {K : PySem.W.Frag} {H : Hp} {Q : VK} (ls : List (List Nat)) {p : Addr} {xs : List V} {s : List Nat} (h : SqT K H p xs) (e : xs = ls.map fun a => V.str (SX.S a)) (q : Q (.bl (!decide (s ∈ ls))) H) : rIn K true (.str (SX.S s)) (.ref p) H Q := by
  subst e
  exact ⟨p, _, rfl, .inr h, rfl, flat_S ls, by rw [inV_S]; exact q⟩
end WP

namespace WP
open PySem PySem.Spec PyProof.Rows L2 GxR
section
variable {X : Cx} {pins : List (Addr × Obj)} {σ : L2.St} {H : Hp} {s : Shared}
/-- the generator expression's scope in the def's scope sc -/
structure GenSc (sc scope : Scope) (x : Str) : Prop where
  kind : scope.kind = .function
  co : scope.isCoroutine = false
  cell : ∀ y ∈ scope.names, y.2 ≠ .cell
  dot : scope.names.lookup (".0" : Str) = some NameKind.local
  loc : scope.names.lookup x = some .local
  free : ∀ y ∈ scope.names, y.2 = .free → sc.names.lookup y.1 = some .cell ∨ sc.names.lookup y.1 = some .free
def gscB (sc scope : Scope) (x : Str) : Bool :=
  decide (scope.kind = .function) && !scope.isCoroutine && scope.names.all (fun y => !decide (y.2 = .cell)) && decide (scope.names.lookup (".0" : Str) = some NameKind.local) && decide (scope.names.lookup x = some .local) &&
    scope.names.all (fun y => !decide (y.2 = .free) || decide (sc.names.lookup y.1 = some .cell ∨ sc.names.lookup y.1 = some .free))
theorem gsc_by {sc scope : Scope} {x : Str} (h : gscB sc scope x = true) : GenSc sc scope x := by
  unfold gscB at h
  simp only [Bool.and_eq_true, Bool.not_eq_true', decide_eq_true_eq, List.all_eq_true, Bool.or_eq_true, decide_eq_false_iff_not] at h
  obtain ⟨⟨⟨⟨⟨h1, h2⟩, h3⟩, h4⟩, h5⟩, h6⟩ := h
  exact ⟨h1, h2, h3, h4, h5, fun y hy e => (h6 y hy).elim (fun z => absurd e z) id⟩
/-- what the walked thing xv gives in the state s1: n items, the i-th one as Pf tells -/
def ItOk (X : Cx) (P : Addr) (s1 : Shared) (xv : Value) (n : Nat) (Pf : Nat → Value → Prop) : Prop :=
  ∃ fpx : List Addr, (∀ b ∈ fpx, b < s1.heap.objs.size ∧ b ≠ P) ∧ ∀ (Q : Value → Shared → Prop),
    (∀ (o : Obj) (St : Nat → Heap → Prop), (∀ A' : Around, A'.handled = none → Walks X.prog X.w A' s1.heap.objs.size (s1.heap.objs.size :: fpx) [s1.heap.objs.size] n Pf St) → St 0 (s1.heap.push o) →
      Q (.ref s1.heap.objs.size) { s1 with heap := s1.heap.push o }) → wpAny (model X.prog X.w) X.A (pyIter xv) Q X.xe s1
theorem itOk_str {P : Addr} {s1 : Shared} {a : Str} {t : Tok} : ItOk X P s1 (.str a t) a.cps.size (SignAt a) :=
  ⟨[], (fun b hb => by cases hb), fun Q h => wpAny_pyIter_str fun o St W hst => h o St W hst⟩
theorem itOk_list {P : Addr} {s1 : Shared} {q : Addr} {its : Array Value} (hl : s1.heap.IsList q its) (hP : q ≠ P) : ItOk X P s1 (.ref q) its.size (fun i v => its[i]? = some v) := by
  obtain ⟨ol, hol, _⟩ := _root_.id hl
  have hlt := Heap.lt_size hol
  refine ⟨[q], fun b hb => ?_, fun Q h => wpAny_pyIter_list hl (h _ _ (fun A' hA => Walks.list hA _ q (Nat.ne_of_lt hlt) its) ⟨⟨_, Heap.get?_push_size _ rfl, rfl, rfl⟩, hl.push _⟩)⟩
  rcases List.mem_cons.mp hb with z | z
  · rw [z]; exact ⟨hlt, hP⟩
  · cases z
/-- the element in the generator's own frame -/
def EltG (X : Cx) (P : Addr) (scope : Scope) (x : Str) (elt : Expr) (s1 : Shared) (Pf : Nat → Value → Prop) (pb : Nat → Bool) : Prop :=
  ∀ (cenv : Env) (A' : Around) (E' : Value → Shared → Prop) (i : Nat) (v : Value) (s₂ : Shared) (m₂ : Str → Option Value), cenv.scope = scope → cenv.globals = X.env.globals → cenv.cells = cloFrom X.env.cells scope.names [] → A'.handled = none → Pf i v →
    s₂.heap.Ns cenv.locals m₂ → m₂ x = some v → (∀ b u, b ≠ P → s1.heap.get? b = some u → s₂.heap.get? b = some u) →
    wpAny (model X.prog X.w) A' (eval elt cenv) (fun y s₃ => y = .bool (pb i) ∧ Keeps s₂ s₃) E' s₂
def ReadyN (X : Cx) (pins : List (Addr × Obj)) (σ : L2.St) (H1 : Hp) (P : Addr) (n : Nat) (pb : Nat → Bool) (g : Addr) (s5 : Shared) : Prop :=
  ∃ (fp wr : List Addr) (G : Array GenState → Array GenState → Prop) (F : Nat → Value → Prop) (St : Nat → Shared → Prop),
    WalksS X.prog X.w X.A.in1 g fp wr G n F St ∧ St 0 s5 ∧ TruthOf X.prog X.w X.A.in1 F pb ∧ ∀ s', Moved wr G s5 s' → ∃ H2, Tabbed P H1 H2 ∧ Inv X pins σ H2 s'
theorem gen_go {c P : Addr} {elt iter : Expr} {x : Str} {px gpos : Pos} {scope : Scope} {te : TE} {k : Nat} {Q' : Value → Shared → Prop} {R : V → Hp → Prop}
    (hr : Room k X.A) (TB : TabB X.base X.mg c P) (hcode : X.env.code = .ref c) (S : GenSc X.env.scope scope x) (hi : PE X iter te)
    (hs : ∀ v, genFold iter X.env v = pure v) (I : Inv X pins σ H s) (h : te σ H fun v H1 => TabG H1 P ∧ R v H1)
    (hw : ∀ v xv H1 s1, TabG H1 P → R v H1 → RelV v xv → Inv X pins σ H1 s1 → ∃ n Pf pb, ItOk X P s1 xv n Pf ∧ EltG X P scope x elt s1 Pf pb ∧ ∀ g s5, ReadyN X pins σ H1 P n pb g s5 → Q' (.ref g) s5) :
    wpAny (model X.prog X.w) X.A (eval (.GeneratorExp elt [⟨.Name x px, iter, [], 0⟩] scope gpos) X.env) Q' X.xe s := by
  refine wpAny_GeneratorExp_walksQ hr.hd S.co (closure_ok fun y hy e => I.ok.has y.1 (S.free y hy e)) S.cell S.dot S.loc S.kind (by have := hr.dp; omega) ?_ hs
  refine thn (hi.run pins s σ H _ I h) fun xv s1 ⟨v, H1, I1, r1, ⟨ps, hP, ht⟩, q1⟩ => ?_
  obtain ⟨n, Pf, pb, ⟨fpx, hfpx, hIt⟩, hel, hQ⟩ := hw v xv H1 s1 ⟨ps, hP, ht⟩ q1 r1 I1
  refine hIt _ fun o St W hst => ?_
  have hPs : s1.heap.get? P = some { cls := .none, data := .fields ps } := I1.hok P _ hP
  have hPlt : P < s1.heap.objs.size := Heap.lt_size hPs
  have hP2 : (s1.heap.push o).get? P = some { cls := .none, data := .fields ps } := Heap.get?_push_of_some _ hPs
  have cd : PySem.W.CodeHd (s1.heap.push o) c P := TB.code.keeps fun b u e => Heap.get?_push_of_some _ (I1.bk b u e)
  have lim2 : (s1.heap.push o).NoLimit := I1.nolimit.push o
  have cont : ∀ (code : Value) (h3 : Heap) (tk : Nat) (ps' : Array Value), Heap.ExtBut P (s1.heap.push o) h3 → (s1.heap.push o).objs.size ≤ h3.objs.size → h3.get? P = some { cls := .none, data := .fields ps' } → (∃ more, ps' = ps ++ more) → TriplesOk ps'.toList →
      wpAny (model X.prog X.w) X.A (builtinsFor X.env.globals X.env.builtins) (fun bi s₄ =>
        ∃ Ia fp wr n₀ Pf St₀ pz F, Value.ref s1.heap.objs.size = .ref Ia ∧ (∀ A' : Around, A'.handled = none → Walks X.prog X.w A' Ia fp wr n₀ Pf St₀) ∧ St₀ 0 s₄.heap ∧ (∀ b ∈ fp, b < s₄.heap.objs.size) ∧ s₄.heap.NoLimit ∧ cStatics ∉ wr ∧
          (∀ href : Heap, (∀ b o, s₄.heap.get? b = some o → href.get? b = some o) →
            QuietGen X.prog X.w (genEnv scope (cloFrom X.env.cells scope.names []) s₄.heap.objs.size code bi X.env) x [] elt (List.range s₄.heap.objs.size) wr Pf pz F href) ∧
          (∀ a h₅ tk gs, gs.bare = true → s₄.heap.objs.size < a → h₅.objs.size = a + 1 → (∀ b o, s₄.heap.get? b = some o → h₅.get? b = some o) →
            WalksS X.prog X.w X.A.in4 a (a :: s₄.heap.objs.size :: List.range s₄.heap.objs.size) (s₄.heap.objs.size :: wr) (GenOnlyQ s₄.gens.size) (passing pz n₀ 0).length
              (fun j y => ∃ i, (passing pz n₀ 0)[j]? = some i ∧ F i y) (GenAt X.prog X.w X.A.in4 a s₄.gens.size s₄.heap.objs.size (List.range s₄.heap.objs.size) wr pz n₀ F) →
            GenAt X.prog X.w X.A.in4 a s₄.gens.size s₄.heap.objs.size (List.range s₄.heap.objs.size) wr pz n₀ F 0 { s₄ with gens := s₄.gens.push gs, toks := tk, heap := h₅ } →
            Q' (.ref a) { s₄ with gens := s₄.gens.push gs, toks := tk, heap := h₅ })) X.xe { s1 with heap := h3, toks := tk } := by
    intro code h3 tk ps' hx hsz hP3 hmore ht3
    obtain ⟨bm, ob, e1, e2, e3, e4, e5, e6, e7, e8⟩ := TB.bm
    have hcP : cStatics ≠ P := fun e => by
      obtain ⟨_, hns, _⟩ := I1.nolimit
      obtain ⟨o', es, ep, ho, hd, _⟩ := hns
      rw [e, hPs] at ho
      cases ho
      cases hd
    have hcl : cStatics < s1.heap.objs.size := let ⟨_, hns, _⟩ := I1.nolimit; hns.lt
    have sz2 : (s1.heap.push o).objs.size = s1.heap.objs.size + 1 := Heap.size_push ..
    have le3 : s1.heap.objs.size ≤ h3.objs.size := Nat.le_trans (Nat.le_succ _) (by have e := sz2; rw [e] at hsz; exact hsz)
    have keep3 : ∀ b u, b ≠ P → s1.heap.get? b = some u → h3.get? b = some u := fun b u hb e => hx b u hb (Heap.get?_push_of_some _ e)
    refine wpAny_builtinsFor (m := X.mg) (by rw [I1.ok.glob]; exact ((I1.mod.glob.keeps I1.bk).push o).extBut hx TB.gP) e1 e2 (keep3 _ _ e4 (I1.bk _ _ e5)) e6 e7 e8 ?_
    refine ⟨s1.heap.objs.size, s1.heap.objs.size :: fpx, [s1.heap.objs.size], n, Pf, St, (fun _ => true), (fun i y => y = .bool (pb i)), rfl, W, ?_, ?_, lim2.extBut hx hcP, ?_, ?_, ?_⟩
    · refine (W X.A hr.hd).frame _ _ _ hst fun b hb u e => hx b u (fun z => ?_) e
      rcases List.mem_cons.mp hb with z2 | z2
      · exact Nat.ne_of_lt hPlt (z.symm.trans z2)
      · exact (hfpx b z2).2 z
    · intro b hb
      rcases List.mem_cons.mp hb with z | z
      · rw [z]
        show s1.heap.objs.size < h3.objs.size
        omega
      · exact Nat.lt_of_lt_of_le (hfpx b z).1 le3
    · intro z
      rcases List.mem_cons.mp z with z | z
      · exact Nat.ne_of_lt hcl z
      · cases z
    · intro href hhref
      refine ⟨fun A' E' i v s₂ m₂ hA hPv hn hm hk => ?_, fun A' E' i v s₂ m₂ hA hPv hp hn hm hk => ?_⟩
      · simp only [List.forIn_nil]
        exact wpAny_pure ⟨rfl, keeps_refl _⟩
      · refine hel _ A' E' i v s₂ m₂ rfl rfl rfl hA hPv hn hm fun b u hb e => ?_
        have hlt := Heap.lt_size e
        refine hk b (List.mem_range.mpr ?_) (fun z => ?_) u (hhref b u (keep3 b u hb e))
        · exact Nat.lt_of_lt_of_le hlt le3
        · rcases List.mem_cons.mp z with z | z
          · exact Nat.ne_of_lt hlt z
          · cases z
    · intro g h5 tk5 gs hgb hag hsz5 hk5 W5 hat
      simp only [GxR.passing_true, List.length_range] at W5
      refine hQ g _ ⟨_, _, _, _, _, W5.in4_1, hat, ?_, fun s' hm => ?_⟩
      · intro j y sj Qj Ej hy hQj
        obtain ⟨i, hij, rfl⟩ := hy
        obtain ⟨hj, ej⟩ := List.getElem?_eq_some_iff.mp hij
        rw [List.getElem_range] at ej
        subst ej
        exact wpAny_truthy_bool hQj
      · obtain ⟨more, em⟩ := hmore
        have nwr : ∀ b u, s1.heap.get? b = some u → b ∉ h3.objs.size :: [s1.heap.objs.size] := fun b u e hb => by
          have hl := Heap.lt_size e
          rcases List.mem_cons.mp hb with z | z
          · rw [z] at hl
            have h9 : (h3.objs.size : Nat) < s1.heap.objs.size := hl
            omega
          · rcases List.mem_cons.mp z with z | z
            · rw [z] at hl
              exact Nat.lt_irrefl _ hl
            · cases z
        have J := inv_tab (more := more) (h' := s'.heap) (g' := s'.gens) (d' := s'.drawn) (t' := s'.toks) I1 hP (fun b u hb e => hm.heap b u (nwr b u e) (hk5 b u (keep3 b u hb e)))
          (by rw [← em]; exact hm.heap P _ (nwr P _ hPs) (hk5 P _ hP3)) (AllBare.movedS (I1.bare.push hgb) hm)
        rw [sh_eta s1 s' hm.os] at J
        refine ⟨upd H1 P (.tbl (ps ++ more)), ⟨⟨ps ++ more, upd_same, by rw [← em]; exact ht3⟩, fun b hb => upd_ne hb⟩, J⟩
  refine ⟨lim2, ?_⟩
  cases hf : codeAmong gpos ps.toList with
  | none =>
    refine wpAny_genexprCodeX hcode (cd.code hP2 ht) (cd.tab hP2) hf fun c' h' tk hx hge hlt hco' _ htab' _ => ?_
    obtain ⟨o1, vs, f1, tf, fl, tg, inF, tx, tt, op, _, _, _, _, _, _, _, _, _, htr, _⟩ := hco'
    exact cont _ h' tk _ hx (Nat.le_trans hge (Nat.le_of_lt hlt)) htab'.2 ⟨_, rfl⟩ htr
  | some cv =>
    refine wpAny_genexprCode_hit hcode (cd.code hP2 ht) hf ?_
    exact cont cv (s1.heap.push o) s1.toks ps (Heap.ExtBut.refl _ _) (Nat.le_refl _) hP2 ⟨#[], by simp⟩ ht
/-- cells of the def, seen from the generator -/
theorem clo_look {cells : List (Str × Addr)} {names : List (Str × NameKind)} {y : Str} {c : Addr} (hf : (y, NameKind.free) ∈ names) (hc : cells.lookup y = some c) : (cloFrom cells names []).lookup y = some c := by
  have h := cloFrom_has (cells := cells) (acc := []) hf
  obtain ⟨c', hc'⟩ := L2.mem_lookup h
  rw [hc']
  rcases cloFrom_mem (PySem.mem_of_lookup hc') with z | ⟨_, z⟩
  · cases z
  · rw [z, hc]; rfl
def trI (pb : Int → Bool) (l : List Int) (j : Nat) : Bool := match l[j]? with
  | some b => pb b
  | none => false
theorem trI_some {pb : Int → Bool} {l : List Int} {j : Nat} {b : Int} (h : l[j]? = some b) : trI pb l j = pb b := by
  unfold trI
  rw [h]
theorem all_trI (l : List Int) (pb : Int → Bool) : (List.range l.length).all (trI pb l) = l.all pb := by
  rw [Bool.eq_iff_iff, List.all_eq_true, List.all_eq_true]
  constructor
  · intro h b hb
    obtain ⟨j, hj, e⟩ := List.getElem_of_mem hb
    have q := h j (List.mem_range.mpr hj)
    rw [trI_some (List.getElem?_eq_getElem hj), e] at q
    exact q
  · intro h j hj
    have hj' := List.mem_range.mp hj
    rw [trI_some (List.getElem?_eq_getElem hj')]
    exact h _ (List.getElem_mem hj')
/-- x in y, y a captured text -/
theorem elt_in {P : Addr} {scope : Scope} {x y : Str} {p1 p2 p3 : Pos} {H1 : Hp} {s1 : Shared} {a z : Str} {i : Nat} (I1 : Inv X pins σ H1 s1) (hP : ∃ ps : Array Value, H1 P = some (.tbl ps))
    (hN : X.N[i]? = some y) (hv : σ[i]? = some (some (.str z))) (hk : X.env.scope.names.lookup y = some .cell) (hfr : (y, NameKind.free) ∈ scope.names) (hl : scope.names.lookup x = some .local) (hy : scope.names.lookup y = some .free) (hkd : scope.kind = .function)
    (hd : (x == ("__debug__" : Str)) = false := by decide) (hd2 : (y == ("__debug__" : Str)) = false := by decide) (hcd : (y == ("__classdict__" : Str)) = false := by decide) (hm : behindInMarks .In (.Name y p2) = false := by with_unfolding_all rfl) :
    EltG X P scope x (.Compare (.Name x p1) [.In] [.Name y p2] p3) s1 (SignAt a) (trF (fun c => decide (c ∈ z.cps.toList)) a.cps.toList) := by
  intro cenv A' E' j v s₂ m₂ e1 e2 e3 hA hPf hn hmx hkp
  obtain ⟨c, t, hc, rfl⟩ := hPf
  obtain ⟨m, hns, hloc⟩ := I1.loc
  obtain ⟨u, ru, lk⟩ := hloc i y _ hN hv (.inr (.inl hk))
  obtain ⟨t', rfl⟩ := _root_.id ru
  have hkk : X.env.kindOf y = some .cell := hk
  rcases lk with ⟨hk', _⟩ | ⟨_, cl, hcl, ⟨oc, hoc, hcd2⟩⟩
  · rw [hkk] at hk'; cases hk'
  have hcP : cl ≠ P := fun e => by
    obtain ⟨ps, hps⟩ := hP
    have q := I1.hok P _ hps
    have q' : s1.heap.get? P = some { cls := .none, data := .fields ps } := q
    rw [e, q'] at hoc
    cases hoc
    cases hcd2
  have ec : cenv.cells.lookup y = some cl := by rw [e3]; exact clo_look hfr hcl
  have hcell : s₂.heap.IsCell cl (some (.str z t')) := ⟨oc, hkp cl oc hcP hoc, hcd2⟩
  refine wpAny_Compare1 ?_ hm
  refine wpAny_Name (wpAny_loadName_local (by rw [e1]; exact hkd) (show cenv.scope.names.lookup x = some .local by rw [e1]; exact hl) hn hmx ?_) hd
  refine wpAny_Name (wpAny_loadName_free (by rw [e1]; exact hkd) (show cenv.scope.names.lookup y = some .free by rw [e1]; exact hy) ec hcell ?_ hcd) hd2
  refine PyProof.Rows.in_str ⟨?_, keeps_refl _⟩
  rw [trF_some (by rw [Array.getElem?_toList]; exact hc)]
  exact congrArg Value.bool (PySem.StrLaws.found_one z c)
/-- lo <= x <= hi and x != no, the three names of the module -/
theorem elt_rng {P : Addr} {scope : Scope} {x lo hi no : Str} {p1 p2 p3 p4 p5 p6 p7 p8 : Pos} {H1 : Hp} {s1 : Shared} {its : Array Value} {ns : List Int} {l h n : Int} {t1 t2 t3 : Tok} (I1 : Inv X pins σ H1 s1) (hP : ∃ ps : Array Value, H1 P = some (.tbl ps))
    (g1 : X.mg lo = some (.int l t1)) (g2 : X.mg hi = some (.int h t2)) (g3 : X.mg no = some (.int n t3)) (hv : Vals (ns.map V.int) its.toList)
    (hl : scope.names.lookup x = some .local) (k1 : scope.names.lookup lo = some .globalImplicit) (k2 : scope.names.lookup hi = some .globalImplicit) (k3 : scope.names.lookup no = some .globalImplicit) (hkd : scope.kind = .function)
    (d0 : (x == ("__debug__" : Str)) = false := by decide) (d1 : (lo == ("__debug__" : Str)) = false := by decide) (d2 : (hi == ("__debug__" : Str)) = false := by decide) (d3 : (no == ("__debug__" : Str)) = false := by decide) :
    EltG X P scope x (.BoolOp .And [.Compare (.Name lo p1) [.LtE, .LtE] [.Name x p2, .Name hi p3] p4, .Compare (.Name x p5) [.NotEq] [.Name no p6] p7] p8) s1 (fun i v => its[i]? = some v)
      (trI (fun c => decide (l ≤ c ∧ c ≤ h ∧ c ≠ n)) ns) := by
  intro cenv A' E' j v s₂ m₂ e1 e2 e3 hA hPf hn hmx hkp
  have hj : ∃ (c : Int) (tc : Tok), ns[j]? = some c ∧ v = .int c tc := by
    have hlen := hv.length
    obtain ⟨hjl, _⟩ := Array.getElem?_eq_some_iff.mp hPf
    have hj2 : j < ns.length := by simp only [List.length_map, Array.length_toList] at hlen; exact Nat.lt_of_lt_of_eq hjl hlen.symm
    obtain ⟨u, hu, ru⟩ := hv.get (i := j) (x := .int ns[j]) (by rw [List.getElem?_map, List.getElem?_eq_getElem hj2]; rfl)
    rw [Array.getElem?_toList, hPf] at hu
    cases hu
    obtain ⟨tc, rfl⟩ := ru
    exact ⟨_, tc, List.getElem?_eq_getElem hj2, rfl⟩
  obtain ⟨c, tc, hc, rfl⟩ := hj
  have kd : cenv.scope.kind = .function := by rw [e1]; exact hkd
  have gns : s₂.heap.Ns cenv.globals X.mg := by
    rw [e2, I1.ok.glob]
    obtain ⟨o, es, ep, ho, hd, r⟩ := I1.mod.glob.keeps I1.bk
    refine ⟨o, es, ep, hkp _ _ (fun e => ?_) ho, hd, r⟩
    obtain ⟨ps, hps⟩ := hP
    have q' : s1.heap.get? P = some { cls := .none, data := .fields ps } := I1.hok P _ hps
    rw [e, q'] at ho
    cases ho
    cases hd
  have ldx : ∀ {Q : Value → Shared → Prop} {pp : Pos}, Q (.int c tc) s₂ → wpAny (model X.prog X.w) A' (eval (.Name x pp) cenv) Q E' s₂ := fun q =>
    wpAny_Name (wpAny_loadName_local kd (show cenv.scope.names.lookup x = some .local by rw [e1]; exact hl) hn hmx q) d0
  have ldg : ∀ {y : Str} {val : Value} {Q : Value → Shared → Prop} {pp : Pos}, X.mg y = some val → scope.names.lookup y = some .globalImplicit → (y == ("__debug__" : Str)) = false → Q val s₂ → wpAny (model X.prog X.w) A' (eval (.Name y pp) cenv) Q E' s₂ := fun g k d q =>
    Calls.Name_function_global kd (show cenv.scope.names.lookup _ = some .globalImplicit by rw [e1]; exact k) (Calls.loadGlobal_global gns g q) d
  rw [trI_some hc]
  refine wpAny_And2 ?_
  refine Compare_chain (ldg g1 k1 d1 (chain_link (ldx (le_int ?_))))
  refine wpAny_truthy_bool ?_
  by_cases h1 : l ≤ c
  · rw [decide_eq_true h1]
    refine ite_tt (chain_last (ldg g2 k2 d2 (le_int ?_)))
    refine wpAny_truthy_bool ?_
    by_cases h2 : c ≤ h
    · rw [decide_eq_true h2]
      refine ite_tt (wpAny_Compare1 (ldx (ldg g3 k3 d3 (ne_int ?_))))
      refine ⟨?_, keeps_refl _⟩
      by_cases h3 : c = n
      · simp [h3]
      · simp [h1, h2, h3]
    · rw [decide_eq_false h2]
      exact ite_ff ⟨by simp [h2], keeps_refl _⟩
  · rw [decide_eq_false h1]
    refine ite_ff ?_
    refine wpAny_truthy_bool (ite_ff ⟨by simp [h1], keeps_refl _⟩)
/-- all(.. for x in e): the walked thing of the kind R, the answer b -/
theorem all_go {c P : Addr} {elt iter : Expr} {x : Str} {px p pos gpos : Pos} {scope : Scope} {te : TE} {Wf : V → Hp → L2.St → VK → Prop} {k : Nat}
    (hr : Room k X.A) (hg : Gl X "all") (hm : X.mg "all" = none) (hb : bootBuiltins "all" = some (.builtin "all")) (TB : TabB X.base X.mg c P) (hcode : X.env.code = .ref c) (S : GenSc X.env.scope scope x) (hi : PE X iter te)
    (hs : ∀ v, genFold iter X.env v = pure v)
    (he : starEach [.GeneratorExp elt [⟨.Name x px, iter, [], 0⟩] scope gpos] X.env = (false, eval (.GeneratorExp elt [⟨.Name x px, iter, [], 0⟩] scope gpos) X.env) :: starEach [] X.env)
    (hw : ∀ pins (σ : L2.St) (v : V) (xv : Value) (H1 : Hp) (s1 : Shared) (Q : VK), TabG H1 P → Wf v H1 σ Q → RelV v xv → Inv X pins σ H1 s1 → ∃ n Pf pb, ItOk X P s1 xv n Pf ∧ EltG X P scope x elt s1 Pf pb ∧ ∀ H2, Tabbed P H1 H2 → Q (.bl ((List.range n).all pb)) H2) :
    PE X (.Call (.Name "all" p) [.GeneratorExp elt [⟨.Name x px, iter, [], 0⟩] scope gpos] [] pos) (fun σ H Q => te σ H fun v H1 => TabG H1 P ∧ Wf v H1 σ Q) := by
  refine ⟨fun pins s σ H Q I h => ?_⟩
  refine wpAny_Call_Name_kw (ld_blt I hg hm hb ?_)
  refine PyProof.Rows.callWith_builtin1 ?_ he (by rfl)
  rw [he]
  show wpAny _ _ (spliced ((false, eval (.GeneratorExp elt [⟨.Name x px, iter, [], 0⟩] scope gpos) X.env) :: backTo pos (starEach [] X.env))) _ _ s
  refine Calls.spliced_cons (gen_go (R := fun v H1 => Wf v H1 σ Q) hr TB hcode S hi hs I h fun v xv H1 s1 hT q1 r1 I1 => ?_)
  obtain ⟨n, Pf, pb, h1, h2, h3⟩ := hw pins σ v xv H1 s1 Q hT q1 r1 I1
  refine ⟨n, Pf, pb, h1, h2, fun g s5 hG => ?_⟩
  obtain ⟨fp, wr, G, F, St, W, hst, htr, hI⟩ := hG
  refine Calls.spliced_nil ?_
  refine call_all_walkS (W.self 0 _ _ _ hst ⟨g, fp, wr, G, _, F, St, _, rfl, W, hst, htr, fun s' hmv => ?_⟩)
  obtain ⟨H2, hT, J⟩ := hI s' hmv
  exact ⟨.bl _, H2, J, rfl, h3 H2 hT⟩
/-- all(x in y for x in e), e and y texts; y the def's i-th name -/
def tAllC (P : Addr) (i : Nat) (te : TE) : TE := fun σ H Q => te σ H fun v H1 => TabG H1 P ∧ ∃ a z : Str, v = .str a ∧ σ[i]? = some (some (.str z)) ∧ ∀ H2, Tabbed P H1 H2 → Q (.bl (a.cps.toList.all fun c => decide (c ∈ z.cps.toList))) H2
theorem pe_allC {c P : Addr} {iter : Expr} {x y : Str} {px p pos gpos p1 p2 p3 : Pos} {scope : Scope} {te : TE} {k i : Nat}
    (hr : Room k X.A) (hg : Gl X "all") (hm : X.mg "all" = none) (hb : bootBuiltins "all" = some (.builtin "all")) (TB : TabB X.base X.mg c P) (hcode : X.env.code = .ref c) (S : GenSc X.env.scope scope x) (hi : PE X iter te)
    (hN : X.N[i]? = some y) (hk : X.env.scope.names.lookup y = some .cell) (hfr : (y, NameKind.free) ∈ scope.names) (hy : scope.names.lookup y = some .free)
    (hs : ∀ v, genFold iter X.env v = pure v)
    (he : starEach [.GeneratorExp (.Compare (.Name x p1) [.In] [.Name y p2] p3) [⟨.Name x px, iter, [], 0⟩] scope gpos] X.env = (false, eval (.GeneratorExp (.Compare (.Name x p1) [.In] [.Name y p2] p3) [⟨.Name x px, iter, [], 0⟩] scope gpos) X.env) :: starEach [] X.env := by rfl)
    (hd : (x == ("__debug__" : Str)) = false := by decide) (hd2 : (y == ("__debug__" : Str)) = false := by decide) (hcd : (y == ("__classdict__" : Str)) = false := by decide) (hmk : behindInMarks .In (Expr.Name y p2) = false := by with_unfolding_all rfl) :
    PE X (.Call (.Name "all" p) [.GeneratorExp (.Compare (.Name x p1) [.In] [.Name y p2] p3) [⟨.Name x px, iter, [], 0⟩] scope gpos] [] pos) (tAllC P i te) := by
  refine all_go (Wf := fun v H1 σ Q => ∃ a z : Str, v = .str a ∧ σ[i]? = some (some (.str z)) ∧ ∀ H2, Tabbed P H1 H2 → Q (.bl (a.cps.toList.all fun c => decide (c ∈ z.cps.toList))) H2) hr hg hm hb TB hcode S hi hs he fun pins σ v xv H1 s1 Q hT h r1 I1 => ?_
  obtain ⟨a, z, rfl, hv, hQ⟩ := h
  obtain ⟨t, rfl⟩ := _root_.id r1
  obtain ⟨ps, hP, _⟩ := hT
  refine ⟨_, _, _, itOk_str, elt_in I1 ⟨ps, hP⟩ hN hv hk hfr S.loc hy S.kind hd hd2 hcd hmk, fun H2 h2 => ?_⟩
  rw [all_signs]
  exact hQ H2 h2
/-- all(lo <= x <= hi and x != no for x in e), e a list of ints -/
def tAllR (K : PySem.W.Frag) (P : Addr) (l h n : Int) (te : TE) : TE := fun σ H Q => te σ H fun v H1 => TabG H1 P ∧ ∃ (q : Addr) (ns : List Int), v = .ref q ∧ SqL K H1 q (ns.map V.int) ∧ ∀ H2, Tabbed P H1 H2 → Q (.bl (ns.all fun c => decide (l ≤ c ∧ c ≤ h ∧ c ≠ n))) H2
theorem pe_allR {c P : Addr} {iter : Expr} {x lo hi no : Str} {px p pos gpos p1 p2 p3 p4 p5 p6 p7 p8 : Pos} {scope : Scope} {te : TE} {k : Nat} {l h n : Int}
    (hr : Room k X.A) (hg : Gl X "all") (hm : X.mg "all" = none) (hb : bootBuiltins "all" = some (.builtin "all")) (TB : TabB X.base X.mg c P) (hcode : X.env.code = .ref c) (S : GenSc X.env.scope scope x) (hi' : PE X iter te)
    (g1 : ∃ u, X.mg lo = some u ∧ RelV (.int l) u) (g2 : ∃ u, X.mg hi = some u ∧ RelV (.int h) u) (g3 : ∃ u, X.mg no = some u ∧ RelV (.int n) u)
    (k1 : scope.names.lookup lo = some .globalImplicit) (k2 : scope.names.lookup hi = some .globalImplicit) (k3 : scope.names.lookup no = some .globalImplicit)
    (hs : ∀ v, genFold iter X.env v = pure v)
    (he : starEach [.GeneratorExp (.BoolOp .And [.Compare (.Name lo p1) [.LtE, .LtE] [.Name x p2, .Name hi p3] p4, .Compare (.Name x p5) [.NotEq] [.Name no p6] p7] p8) [⟨.Name x px, iter, [], 0⟩] scope gpos] X.env = (false, eval (.GeneratorExp (.BoolOp .And [.Compare (.Name lo p1) [.LtE, .LtE] [.Name x p2, .Name hi p3] p4, .Compare (.Name x p5) [.NotEq] [.Name no p6] p7] p8) [⟨.Name x px, iter, [], 0⟩] scope gpos) X.env) :: starEach [] X.env := by rfl)
    (d0 : (x == ("__debug__" : Str)) = false := by decide) (d1 : (lo == ("__debug__" : Str)) = false := by decide) (d2 : (hi == ("__debug__" : Str)) = false := by decide) (d3 : (no == ("__debug__" : Str)) = false := by decide) :
    PE X (.Call (.Name "all" p) [.GeneratorExp (.BoolOp .And [.Compare (.Name lo p1) [.LtE, .LtE] [.Name x p2, .Name hi p3] p4, .Compare (.Name x p5) [.NotEq] [.Name no p6] p7] p8) [⟨.Name x px, iter, [], 0⟩] scope gpos] [] pos) (tAllR X.K P l h n te) := by
  obtain ⟨u1, g1, t1, rfl⟩ := g1
  obtain ⟨u2, g2, t2, rfl⟩ := g2
  obtain ⟨u3, g3, t3, rfl⟩ := g3
  refine all_go (Wf := fun v H1 σ Q => ∃ (q : Addr) (ns : List Int), v = .ref q ∧ SqL X.K H1 q (ns.map V.int) ∧ ∀ H2, Tabbed P H1 H2 → Q (.bl (ns.all fun c => decide (l ≤ c ∧ c ≤ h ∧ c ≠ n))) H2) hr hg hm hb TB hcode S hi' hs he fun pins σ v xv H1 s1 Q hT hq r1 I1 => ?_
  obtain ⟨q, ns, rfl, hq, hQ⟩ := hq
  obtain rfl : xv = Value.ref q := r1
  obtain ⟨its, rv, pl, hsz⟩ := I1.list hq
  obtain ⟨ps, hP, _⟩ := hT
  have hqP : q ≠ P := fun e => by
    have q' : s1.heap.get? P = some { cls := .none, data := .fields ps } := I1.hok P _ hP
    obtain ⟨o, nn, e1, _, _, e2⟩ := pl
    rw [e, q'] at e1
    cases e1
    cases e2
  refine ⟨_, _, _, itOk_list pl.isList hqP, elt_rng I1 ⟨ps, hP⟩ g1 g2 g3 (by simpa using rv) S.loc k1 k2 k3 S.kind d0 d1 d2 d3, fun H2 h2 => ?_⟩
  have e := rv.length
  rw [List.length_map] at e
  rw [List.size_toArray, ← e, all_trI]
  exact hQ H2 h2
end
end WP

namespace WP
open PySem PySem.Spec PyProof.Rows L2 GxR
/-- all but the tables stay, tables stay tables -/
def NT (u : HO) : Prop := ∀ ps, u ≠ .tbl ps
structure Sm (H H' : Hp) : Prop where
  k : ∀ b u, H b = some u → NT u → H' b = some u
  t : ∀ P, TabG H P → TabG H' P
theorem Sm.refl (H : Hp) : Sm H H := ⟨fun _ _ e _ => e, fun _ h => h⟩
theorem Sm.trans {H H' H2 : Hp} (a : Sm H H') (b : Sm H' H2) : Sm H H2 := ⟨fun x u e n => b.k x u (a.k x u e n) n, fun P h => b.t P (a.t P h)⟩
theorem Sm.of {H H' : Hp} (e : Same H H') : Sm H H' := ⟨fun b u h _ => e b u h, fun P ⟨ps, h, t⟩ => ⟨ps, e P _ h, t⟩⟩
theorem Sm.tab {H H' : Hp} {P : Addr} (g : TabG H P) (h : Tabbed P H H') : Sm H H' := by
  obtain ⟨ps, hP, ht⟩ := g
  refine ⟨fun b u e n => ?_, fun Q hq => ?_⟩
  · by_cases hb : b = P
    · rw [hb, hP] at e; exact absurd (Option.some.inj e).symm (n ps)
    · rw [h.2 b hb]; exact e
  · by_cases hb : Q = P
    · rw [hb]; exact h.1
    · obtain ⟨qs, h1, h2⟩ := hq
      exact ⟨qs, by rw [h.2 Q hb]; exact h1, h2⟩
theorem nt_tup {xs : List V} : NT (.tup xs) := fun _ z => by cases z
theorem nt_lst {xs : List V} : NT (.lst xs) := fun _ z => by cases z
theorem nt_frz {o : Obj} {x : HO} : NT (.frz o x) := fun _ z => by cases z
theorem Sm.tup {K : PySem.W.Frag} {H H' : Hp} {a : Addr} {xs : List V} (e : Sm H H') (h : SqT K H a xs) : SqT K H' a xs := by
  rcases h with (h | ⟨o, h⟩) | h
  · exact .inl (.inl (e.k _ _ h nt_tup))
  · exact .inl (.inr ⟨o, e.k _ _ h nt_frz⟩)
  · exact .inr h
theorem Sm.lst {K : PySem.W.Frag} {H H' : Hp} {a : Addr} {xs : List V} (e : Sm H H') (h : SqL K H a xs) : SqL K H' a xs := by
  rcases h with (h | ⟨o, h⟩) | h
  · exact .inl (.inl (e.k _ _ h nt_lst))
  · exact .inl (.inr ⟨o, e.k _ _ h nt_frz⟩)
  · exact .inr h
/-- what comes back, tables grown -/
def MetV (v : V) (H : Hp) (Q : VK) : Prop := ∀ H', Sm H H' → Q v H'
def MetT (xs : List V) (H : Hp) (Q : VK) : Prop := ∀ p H', Sm H H' → H' p = some (.tup xs) → Q (.ref p) H'
theorem MetT.new {xs : List V} {H H' : Hp} {Q : VK} (k : MetT xs H Q) (e : Sm H H') : ∀ p, H' p = none → Q (.ref p) (upd H' p (.tup xs)) := fun p hp =>
  k p _ (e.trans (.of (same_new hp))) upd_same
/-- the def x's code object and its table -/
def cod (K : PySem.W.Frag) (x : Str) : Addr := match PySem.W.tabIn K x with
  | some (c, _) => c
  | none => 0
def tbl (K : PySem.W.Frag) (x : Str) : Addr := match PySem.W.tabIn K x with
  | some (_, P) => P
  | none => 0
theorem cod_of {K : PySem.W.Frag} {x : Str} {c P : Addr} (h : PySem.W.tabIn K x = some (c, P)) : cod K x = c := by unfold cod; rw [h]
theorem tbl_of {K : PySem.W.Frag} {x : Str} {c P : Addr} (h : PySem.W.tabIn K x = some (c, P)) : tbl K x = P := by unfold tbl; rw [h]
/-- a def whose code object is c -/
structure FunC (K : PySem.W.Frag) (x qual : Str) (st : Stmt) (f : Addr) (fd : FuncData) (c : Addr) : Prop where
  ex : ∃ (oc : Value) (od : Option Addr) (kV doc pm : Value) (an : Option Addr) (ct : Value) (osl : Array (Option Value)),
    fd = PySem.W.fnOf x qual (defArgs st) (defBody st) (defScope st) .none kV doc pm an (.ref c) ct ∧ K.lookup f = some ⟨oc, od, .func fd, osl⟩ ∧ PySem.W.codeIn K (.ref c) qual = true
section
variable {P : Program} {w : World} {K : PySem.W.Frag} {mg : Str → Option Value} {base : Heap}
theorem FunC.ok {x qual : Str} {st : Stmt} {f : Addr} {fd : FuncData} {c : Addr} {N ps : List Str} {k : Nat} {sp : Sp} (F : FunC K x qual st f fd c) (S : FnScope N ps (defScope st)) (len : ∀ vs H Q E, sp vs H Q E → vs.length = ps.length)
    (hbody : ∀ (A : Around) (outer : List Env) (s : Shared) (H : Hp) (vs : List V) (Q : VK) (E : XK), Room k (A.deeper (envOfC qual (defScope st) s.heap.objs.size f (.ref c))) → sp vs H Q E →
      ∃ t, PSs (cxOf CX0 P w K mg base N qual (defScope st) f (.ref c) A outer s H E).nox (defBody st) t ∧ t { nx := fun _ H' => Q .non H', rt := Q } (start N vs) H) : FnOk P w K mg base CX0 (k + 1) f fd ps sp := by
  obtain ⟨oc, od, kV, doc, pm, an, ct, osl, rfl, lk, hcd⟩ := F.ex
  refine fn_of lk hcd S len fun A outer s H vs Q E hr hsp => ?_
  obtain ⟨t, h, q⟩ := hbody A outer s H vs Q E hr hsp
  exact ⟨t, h.nox, q⟩
theorem funC_mk {x qual : Str} {st : Stmt} {f : Addr} {c P' : Addr} {y : Str} {oc : Value} {od an : Option Addr} {osl : Array (Option Value)} {kV doc pm ct : Value} (l : K.lookup f = some ⟨oc, od, .func (PySem.W.fnOf x qual (defArgs st) (defBody st) (defScope st) .none kV doc pm an (.ref c) ct), osl⟩)
    (hc : PySem.W.codeIn K (.ref c) qual = true) (ht : PySem.W.tabIn K y = some (c, P')) : FunC K x qual st f (PySem.W.fnOf x qual (defArgs st) (defBody st) (defScope st) .none kV doc pm an (.ref c) ct) (cod K y) := by
  rw [cod_of ht]
  exact ⟨oc, od, kV, doc, pm, an, ct, osl, rfl, l, hc⟩
end
theorem FunC.toF {K : PySem.W.Frag} {x qual : Str} {st : Stmt} {f : Addr} {fd : FuncData} {c : Addr} (F : FunC K x qual st f fd c) (k : PySem.W.keepIn K (.ref f) = true) : Fun K x qual st f fd := by
  obtain ⟨oc, od, kV, doc, pm, an, ct, osl, e, lk, hcd⟩ := F.ex
  exact ⟨⟨oc, od, kV, doc, pm, an, _, ct, osl, e, lk, hcd⟩, k⟩
theorem tabB_of {base : Heap} {mg : Str → Option Value} {K : PySem.W.Frag} {x : Str} {c P : Addr} (h : LamX.TabB base mg c P) (ht : PySem.W.tabIn K x = some (c, P)) : GxR.TabB base mg (cod K x) (tbl K x) := by
  rw [cod_of ht, tbl_of ht]
  exact ⟨h.code, h.bm, h.gP⟩
/-- the end of a row whose defs hold generator expressions -/
theorem walk_ofG {l : PySem.W.OpenLaw} {n k : Nat} {q : Program} {loose : List Str} {XP : (Str → Option Value) → Heap → Prop} {YP : World → Heap → Prop} {d : DefRec} {K : Params → PySem.W.Frag} {CX : World → CXT} {x : Str}
    (hn : l.most = some n) (hn2 : n ≤ sizeLine) (hdf : d.params.defaults = []) (hr : Room k callerA) (hY : ∀ (w : World) (h : Heap), YP w h → (K w.params).In h)
    (F : ∀ (w : World) (mg : Str → Option Value) (fa : Addr) (h : Heap), YP w h → (K w.params).In h → h.Ns mainGlobals mg → mg d.name = some (.ref fa) →
      (∀ (x : Str) (c P : Addr), ((recsOf q).any fun e => e.name == x) = true → PySem.W.tabIn (K w.params) x = some (c, P) → PySem.W.CodeHd h c P ∧ h.get? P = some { cls := .none, data := .fields #[] }) → LamX.LawAtS l w (K w.params) (CX w) k n x mg fa h)
    (hCX : ∀ (w : World) (H : Hp) (s : Shared) (e : Value) (s' : Shared), CX w [] H s (fun _ _ _ => False) e s' → False) :
    PySem.W.WalkO q loose XP YP l.row.toRowW d [] (fun f vs => PySem.call f vs) := by
  refine Att.attach_callB hn hdf fun w s₀ s₁ mg mb fa o pm cd doc a vs ns G Y ho hd hcd hmg hobj hints hlen hbits hg => ?_
  have KX := hY w _ Y
  obtain ⟨fd, cs, sp, hT, nT, C, hb, hsp, hF⟩ := F w mg fa _ Y KX G.T.g hmg fun x c P hrec ht => by
    obtain ⟨dL, hf⟩ : ∃ dL, (recsOf q).find? (fun e => e.name == x) = some dL := by
      cases e : (recsOf q).find? (fun e => e.name == x) with
      | some dL => exact ⟨dL, rfl⟩
      | none =>
        rw [List.find?_eq_none] at e
        obtain ⟨z, hz, h2⟩ := List.any_eq_true.mp hrec
        exact absurd h2 (e z hz)
    exact PySem.W.tab_of G.T KX hf ht
  exact LamX.law_callTs KX G.T.g G.T.b G.T.builtins G.T.nolimit hg hT nT C G.T.bmain hobj hints (Nat.le_trans hlen hn2) hr hF hb (fun H hH hS => hsp H a ns hlen hbits hH hS) fun H e s' => hCX w H s₁ e s'
end WP

namespace WT
open PySem PySem.Spec PyProof.Rows L2 CwR
/-! ### with a token out: tests, ifs, loops, defs -/
def PTT (X : Cx) (e : Expr) (t : TT) : Prop :=
  ∀ (pins : List (Addr × Obj)) (s : Shared) (σ : L2.St) (H : Hp) (Q : Bool → Hp → Prop), 1 ≤ s.toks → Inv X pins σ H s → t σ H Q → wpAny (model X.prog X.w) X.A (isTrue e X.env (eval e X.env)) (TP X pins σ Q) X.xe s
def PWT (X : Cx) (e : Expr) (t : TT) : Prop :=
  ∀ (whole : Sem Value) (pins : List (Addr × Obj)) (s : Shared) (σ : L2.St) (H : Hp) (Q : Bool → Hp → Prop), 1 ≤ s.toks → Inv X pins σ H s → t σ H Q → wpAny (model X.prog X.w) X.A (isTrue e X.env whole) (TP X pins σ Q) X.xe s
section
variable {X : Cx} {st : Stmt} {rest : List Stmt} {t u : TS} {a b c e f : Expr} {te tf ta tb : TE} {tA tB tc : TT} {pos p : Pos}
theorem PTT.of (h : PT X e tA) : PTT X e tA := fun pins s σ H Q _ I q => h.run pins s σ H Q I q
theorem PWT.of (h : PW X e tA) : PWT X e tA := fun wh pins s σ H Q _ I q => h.run wh pins s σ H Q I q
theorem PWT.pt (h : PWT X e tA) : PTT X e tA := h _
theorem ptt_cmp {op : CmpOp} {r : R2} (ho : OpR X (compareOp op) r) (ha : PET X a ta) (hb : PET X b tb) (hm : behindInMarks op b = false) : PTT X (.Compare a [op] [b] pos) (tTest (tOp r ta tb)) := by
  intro pins s σ H Q h0 I h
  refine wpAny_isTrue_Compare1 (wpAny_mono (PySem.wpAny_toks (ha pins s σ H _ h0 I h)) (fun v s1 q => ?_) fun _ _ z => z.2) hm
  obtain ⟨hk, x, H1, I1, r1, q1⟩ := q
  refine thn (hb pins s1 σ H1 _ (Nat.le_trans h0 hk) I1 q1) fun u s2 ⟨y, H2, I2, r2, q2⟩ => thn (ho pins s2 σ H2 x y v u _ I2 r1 r2 q2) fun c s3 ⟨z, H3, I3, r3, k, e, q3⟩ => ?_
  subst e
  cases r3
  exact wpAny_truthy_bool ⟨H3, I3, q3⟩
theorem pwt_and {rest : List Expr} {tB' : TT} (ha : PTT X a tA) (hb : PWT X (.BoolOp .And (b :: rest) pos) tB') : PWT X (.BoolOp .And (a :: b :: rest) pos) (tAnd tA tB') := by
  intro wh pins s σ H Q h0 I h
  refine isTrue_and (wpAny_mono (PySem.wpAny_toks (ha pins s σ H _ h0 I h)) (fun c s1 q => ?_) fun _ _ z => z.2)
  obtain ⟨hk, H1, I1, q1⟩ := q
  cases c with
  | true => exact hb wh pins s1 σ H1 Q (Nat.le_trans h0 hk) I1 q1
  | false => exact ⟨H1, I1, q1⟩
theorem pat_one (ha : PET X e te) (hs : starEach [e] X.env = (false, eval e X.env) :: starEach [] X.env := by rfl) : PAT X [e] (tCons te tNil) := pat_cons ha pat_nil hs
theorem pet_callB {x : Str} {id : String} {r : List V → Hp → VK → Prop} {es : List Expr} {t : TA} (hc : CallR X (.builtin id) r) (hg : Gl X x) (hm : X.mg x = none) (hv : bootBuiltins x = some (.builtin id)) (ha : PAT X (e :: es) t) (hn : x ≠ "__name__" := by decide) (hdb : (x == ("__debug__" : Str)) = false := by decide)
    (he : starEach (e :: es) X.env = (false, eval e X.env) :: starEach es X.env := by rfl) (hpl : (backTo pos (starEach es X.env)).any (·.1) = false := by rfl) : PET X (.Call (.Name x p) (e :: es) [] pos) (tCB r t) := by
  intro pins s σ H Q h0 I h
  refine wpAny_Call_Name_kw (ld_blt I hg hm hv ?_ hn hdb)
  exact PyProof.Rows.callWith_builtin1 (thn (ha pos pins s σ H _ h0 I h) fun us s1 ⟨vs, H1, I1, r1, q1⟩ => hc pins s1 σ H1 vs us Q I1 r1 q1) he hpl
theorem pst_ifT {a b : List Stmt} (hc : PTT X c tc) (ha : PSsT X a t) (hb : PSsT X b u) : PST X (.If c a b pos) (tIfS tc t u) := by
  intro pins s σ H D h0 I h
  refine wpAny_If (wpAny_mono (PySem.wpAny_toks (hc pins s σ H _ h0 I h)) (fun d s1 q => ?_) fun _ _ z => z.2)
  obtain ⟨hk, H1, I1, q1⟩ := q
  cases d with
  | true => exact ha pins s1 σ H1 D (Nat.le_trans h0 hk) I1 q1
  | false => exact hb pins s1 σ H1 D (Nat.le_trans h0 hk) I1 q1
theorem psst_cut (h1 : PST X st t) (h2 : PSsT X rest u) : PSsT X (st :: rest) (Evl.tCut t u) := by
  intro pins s σ H D h0 I h
  obtain ⟨Mid, hm, hu⟩ := h
  refine wpAny_execs_cons (wpAny_mono (PySem.wpAny_toks (h1 pins s σ H { D with nx := Mid } h0 I hm)) (fun f s1 q => ?_) fun _ _ x => x.2)
  obtain ⟨hk, q⟩ := q
  cases f with
  | next =>
    obtain ⟨σ', H', I', q⟩ := q
    exact h2 pins s1 σ' H' D (Nat.le_trans h0 hk) I' (hu σ' H' q)
  | ret v => exact q
  | brk => exact q
  | cont => exact q
/-- for, its body with a token out -/
theorem pst_forT {tg iter : Expr} {body : List Stmt} {wi : TI} {g : TG} {tb : TS} (hp : PassesOwn (model X.prog X.w) X.A X.env X.xe) (hc : X.calm = true) (hi : PI X tg iter wi) (hg : PG X tg g) (hb : PSsT X body tb)
    (hs : ∀ x, foldedSetIterable iter X.env x = pure x := by intro _; rfl) : PST X (.For tg iter body [] pos) (tFor wi g tb) := by
  intro pins s σ H D h0 I h
  refine wpAny_For (wpAny_mono (PySem.wpAny_toks (hi.run pins s σ H _ I h)) (fun v s1 h1 => ?_) fun _ _ z => z.2) hs
  obtain ⟨hk1, h1⟩ := h1
  refine wpAny_mono (PySem.wpAny_toks h1) (fun itv s2 h2 => ?_) fun _ _ z => z.2
  obtain ⟨hk2, h2⟩ := h2
  obtain ⟨it, fp, tn, J, H2, e, I2, T, st2, f2, W, ⟨m0, w0⟩, turn⟩ := h2
  subst e
  have stat : ∀ {H' : Hp}, (∀ b ∈ fp, H' b = none) → ∀ b ∈ fp, FpOk X pins H' b := fun hn b hb => ⟨hn b hb, (f2 b hb).2⟩
  refine codeAny_forLoop_any (fun n s' => ∃ i σ' H', 1 ≤ s'.toks ∧ Inv X pins σ' H' s' ∧ tn i s'.heap ∧ (∀ b ∈ fp, H' b = none) ∧ W i n σ' H') ?_ m0 ⟨0, σ, H2, Nat.le_trans h0 (Nat.le_trans hk1 hk2), I2, st2, fun b hb => (f2 b hb).1, w0⟩
  rintro n s3 ⟨i, σ3, H3, k3, I3, st3, fr3, w3⟩
  rcases turn i n σ3 H3 w3 with ⟨stop, qn⟩ | ⟨go, N, hN, step⟩
  · refine wpAny_passesOwn hp (thn (T.done X rfl rfl rfl hc i pins s3 σ3 H3 X.xe I3 (stat fr3) st3 stop) fun r s4 ⟨hr, I4⟩ => ?_)
    subst hr
    exact wpAny_execs_nil ⟨σ3, H3, I4, qn⟩
  · refine wpAny_passesOwn hp (wpAny_mono (PySem.wpAny_toks (T.item X rfl rfl rfl hc i pins s3 σ3 H3 X.xe I3 (stat fr3) st3 go)) (fun r s4 q4 => ?_) fun _ _ z => z.2)
    obtain ⟨k4, u, hr, h4⟩ := q4
    subst hr
    refine wpAny_passesOwn hp (wpAny_mono (PySem.wpAny_toks h4) (fun _ s5 q5 => ?_) fun _ _ z => z.2)
    obtain ⟨k5, x, H5, I5, r5, y5, st5, fr5⟩ := q5
    have I5' := I5.pinned (stat fr5) (T.obj _ _ st5)
    refine wpAny_passesOwn hp (wpAny_mono (PySem.wpAny_toks (hg.run _ s5 σ3 H5 x u _ I5' r5 (step x H5 y5))) (fun _ s6 q6 => ?_) fun _ _ z => z.2)
    obtain ⟨k6, σ6, H6, I6, q6⟩ := q6
    have k06 := Nat.le_trans k3 (Nat.le_trans k4 (Nat.le_trans k5 k6))
    refine wpAny_passesOwn hp (wpAny_mono (PySem.wpAny_toks (hb _ s6 σ6 H6 _ k06 I6 q6)) (fun f s7 q7 => ?_) fun _ _ z => z.2)
    obtain ⟨k7, q7⟩ := q7
    have again : ∀ {σ7 : L2.St} {H7 : Hp}, Inv X (pins ++ pinsAt fp s5.heap) σ7 H7 s7 → N σ7 H7 → ∃ m, m < n ∧ ∃ i σ' H', 1 ≤ s7.toks ∧ Inv X pins σ' H' s7 ∧ tn i s7.heap ∧ (∀ b ∈ fp, H' b = none) ∧ W i m σ' H' := fun {σ7 H7} I7 n7 => by
      obtain ⟨m', hm, w7⟩ := hN σ7 H7 n7
      refine ⟨m', hm, i + 1, σ7, H7, Nat.le_trans k06 k7, I7.unpinned, T.keep _ _ _ st5 fun b hb o e => (I7.pin (b, o) (List.mem_append_right _ (List.mem_append_right _ (mem_pinsAt hb e)))).1, fun b hb => ?_, w7⟩
      obtain ⟨o, e, d⟩ := T.obj _ _ st5 b hb
      exact (I7.pin (b, o) (List.mem_append_right _ (List.mem_append_right _ (mem_pinsAt hb e)))).2.1
    cases f with
    | next => obtain ⟨σ7, H7, I7, n7⟩ := q7; exact again I7 n7
    | cont => obtain ⟨σ7, H7, I7, n7⟩ := q7; exact again I7 n7
    | brk => obtain ⟨σ7, H7, I7, q7⟩ := q7; exact ⟨σ7, H7, I7.unpinned, q7⟩
    | ret v => obtain ⟨x7, σ7, H7, I7, r7, q7⟩ := q7; exact ⟨x7, σ7, H7, I7.unpinned, r7, q7⟩
end
section
variable {P : Program} {w : World} {K : PySem.W.Frag} {mg : Str → Option Value} {base : Heap}
/-- a def with a parameter: at its entry a token is out -/
theorem okT {x qual : Str} {st : Stmt} {f : Addr} {fd : FuncData} {N ps : List Str} {k : Nat} {sp : Sp} (F : Fun K x qual st f fd) (S : FnScope N ps (defScope st)) (hnc : ∀ y ∈ (defScope st).names, y.2 ≠ .cell) (hps : 1 ≤ ps.length) (len : ∀ vs H Q E, sp vs H Q E → vs.length = ps.length)
    (hbody : ∀ (cdv : Value) (A : Around) (outer : List Env) (s : Shared) (H : Hp) (vs : List V) (Q : VK) (E : XK), Room k (A.deeper (envOfC qual (defScope st) s.heap.objs.size f cdv)) → sp vs H Q E →
      ∃ t, PSsT (cxOf CX0 P w K mg base N qual (defScope st) f cdv A outer s H E).nox (defBody st) t ∧ t { nx := fun _ H' => Q .non H', rt := Q } (start N vs) H) : FnOk P w K mg base CX0 (k + 1) f fd ps sp := by
  obtain ⟨oc, od, kV, doc, pm, an, cdv, ct, osl, rfl, lk, hcd⟩ := F.ex
  refine fn_ofT lk hcd S hnc hps len fun A outer s H vs Q E hr hsp => ?_
  obtain ⟨t, h, q⟩ := hbody cdv A outer s H vs Q E hr hsp
  exact ⟨t, fun pins s σ H D h0 I hw => wpAny_mono (h pins s σ H D h0 (I.wish _) hw) (fun _ _ q => q.unwish) fun _ _ z => False.elim z, q⟩
end
/-! ### the same as structures (so that they are not unfolded) -/
structure ET (X : Cx) (e : Expr) (t : TE) : Prop where
  run : PET X e t
structure TT1 (X : Cx) (e : Expr) (t : TT) : Prop where
  run : PTT X e t
structure TW (X : Cx) (e : Expr) (t : TT) : Prop where
  run : PWT X e t
structure ST (X : Cx) (st : Stmt) (t : TS) : Prop where
  run : PST X st t
structure SsT (X : Cx) (st : List Stmt) (t : TS) : Prop where
  run : PSsT X st t
section
variable {X : Cx} {st : Stmt} {rest : List Stmt} {t u : TS} {a b c e f : Expr} {te tf ta tb : TE} {tA tB tc : TT} {pos p apos c0 c1 : Pos} {y z : Str} {j k : Nat} {o : Expr} {to : TE}
theorem ET.of (h : PE X e te) : ET X e te := ⟨PET.of h⟩
theorem TT1.of (h : PT X e tA) : TT1 X e tA := ⟨PTT.of h⟩
theorem TW.of (h : PW X e tA) : TW X e tA := ⟨PWT.of h⟩
theorem TW.pt (h : TW X e tA) : TT1 X e tA := ⟨h.run.pt⟩
theorem ST.of (h : PS X st t) : ST X st t := ⟨PST.of h⟩
theorem SsT.of (h : PSs X rest t) : SsT X rest t := ⟨PSsT.of h⟩
theorem ss_cons (h1 : ST X st t) (h2 : SsT X rest u) : SsT X (st :: rest) (tSeq t u) := ⟨psst_cons h1.run h2.run⟩
theorem ss_cut (h1 : ST X st t) (h2 : SsT X rest u) : SsT X (st :: rest) (Evl.tCut t u) := ⟨psst_cut h1.run h2.run⟩
theorem ss_one (h : ST X st t) : SsT X [st] t := ⟨psst_one h.run⟩
theorem s_if {a b : List Stmt} (hc : TT1 X c tc) (ha : SsT X a t) (hb : SsT X b u) : ST X (.If c a b pos) (tIfS tc t u) := ⟨pst_ifT hc.run ha.run hb.run⟩
theorem s_for {tg iter : Expr} {body : List Stmt} {wi : TI} {g : TG} {tb : TS} (hp : PassesOwn (model X.prog X.w) X.A X.env X.xe) (hc : X.calm = true) (hi : PI X tg iter wi) (hg : PG X tg g) (hb : SsT X body tb)
    (hs : ∀ x, foldedSetIterable iter X.env x = pure x := by intro _; rfl) : ST X (.For tg iter body [] pos) (tFor wi g tb) := ⟨pst_forT hp hc hi hg hb.run hs⟩
theorem s_ret (he : ET X e te) : ST X (.Return (some e) pos) (tRet te) := ⟨pst_ret he.run⟩
theorem t_cmp {op : CmpOp} {r : R2} (ho : OpR X (compareOp op) r) (ha : ET X a ta) (hb : ET X b tb) (hm : behindInMarks op b = false) : TT1 X (.Compare a [op] [b] pos) (tTest (tOp r ta tb)) := ⟨ptt_cmp ho ha.run hb.run hm⟩
theorem w_and {rest : List Expr} {tB' : TT} (ha : TT1 X a tA) (hb : TW X (.BoolOp .And (b :: rest) pos) tB') : TW X (.BoolOp .And (a :: b :: rest) pos) (tAnd tA tB') := ⟨pwt_and ha.run hb.run⟩
theorem e_len {x : Str} {id : String} {r : List V → Hp → VK → Prop} (hc : CallR X (.builtin id) r) (hg : Gl X x) (hm : X.mg x = none) (hv : bootBuiltins x = some (.builtin id)) (ha : ET X e te) (hns : WP.noStar e = true := by rfl) (hn : x ≠ "__name__" := by decide) (hdb : (x == ("__debug__" : Str)) = false := by decide)
    (hpl : (backTo pos (starEach ([] : List Expr) X.env)).any (·.1) = false := by rfl) : ET X (.Call (.Name x p) [e] [] pos) (tCB r (tCons te tNil)) := ⟨pet_callB hc hg hm hv (pat_one ha.run (WP.starEach_no hns)) hn hdb (WP.starEach_no hns) hpl⟩
theorem e_op {op : Operator} {r : R2} (ho : OpR X (binaryOp op) r) (ha : ET X e te) (hb : ET X f tf) : ET X (.BinOp e op f pos) (tOp r te tf) := ⟨pet_op ho ha.run hb.run⟩
theorem e_replC (ho : PE X o to) (hyz : (y == z) = false := by decide)
    (hst : starEach [.Constant (.str y) j c0, .Constant (.str z) k c1] X.env = [(false, eval (.Constant (.str y) j c0) X.env), (false, eval (.Constant (.str z) k c1) X.env)] := by rfl)
    (hbase : attributeBase o "replace" X.env (eval o X.env) = eval o X.env := by rfl) (hline : (apos.endLine == pos.line) = true := by rfl) :
    ET X (.Call (.Attribute o "replace" apos) [.Constant (.str y) j c0, .Constant (.str z) k c1] [] pos) (tReplC to y z) := ⟨pet_replC ho hyz hst hbase hline⟩
theorem e_replT (ho : ET X o to) (hyz : (y == z) = false := by decide)
    (hst : starEach [.Constant (.str y) j c0, .Constant (.str z) k c1] X.env = [(false, eval (.Constant (.str y) j c0) X.env), (false, eval (.Constant (.str z) k c1) X.env)] := by rfl)
    (hbase : attributeBase o "replace" X.env (eval o X.env) = eval o X.env := by rfl) (hline : (apos.endLine == pos.line) = true := by rfl) :
    ET X (.Call (.Attribute o "replace" apos) [.Constant (.str y) j c0, .Constant (.str z) k c1] [] pos) (tReplC to y z) := ⟨pet_replT ho.run hyz hst hbase hline⟩
end
section
variable {P : Program} {w : World} {K : PySem.W.Frag} {mg : Str → Option Value} {base : Heap}
theorem okS {x qual : Str} {st : Stmt} {f : Addr} {fd : FuncData} {N ps : List Str} {k : Nat} {sp : Sp} (F : Fun K x qual st f fd) (S : FnScope N ps (defScope st)) (hnc : ∀ y ∈ (defScope st).names, y.2 ≠ .cell) (hps : 1 ≤ ps.length) (len : ∀ vs H Q E, sp vs H Q E → vs.length = ps.length)
    (hbody : ∀ (cdv : Value) (A : Around) (outer : List Env) (s : Shared) (H : Hp) (vs : List V) (Q : VK) (E : XK), Room k (A.deeper (envOfC qual (defScope st) s.heap.objs.size f cdv)) → sp vs H Q E →
      ∃ t, SsT (cxOf CX0 P w K mg base N qual (defScope st) f cdv A outer s H E).nox (defBody st) t ∧ t { nx := fun _ H' => Q .non H', rt := Q } (start N vs) H) : FnOk P w K mg base CX0 (k + 1) f fd ps sp :=
  okT F S hnc hps len fun cdv A outer s H vs Q E hr hsp => by
    obtain ⟨t, h, q⟩ := hbody cdv A outer s H vs Q E hr hsp
    exact ⟨t, h.run, q⟩
end
end WT
namespace WT
open PySem PySem.Spec PyProof.Rows L2 CwR
theorem repl {to : TE} {y z : Str} {σ : L2.St} {H : Hp} {Q : VK} (h : to σ H fun v H1 => ∃ x, v = .str x ∧ x.length + (x.length + 1) * z.length ≤ 16777216 ∧ Q (.str (Txt.replace x y z)) H1) : tReplC to y z σ H Q := h
end WT

namespace WZ
open PySem PySem.Spec PyProof.Rows L2
/-! ### zip of two texts -/
structure Ap (o ti to p q : Addr) : Prop where
  a1 : ti ≠ o
  a2 : to ≠ o
  a3 : p ≠ o
  a4 : q ≠ o
  b1 : ti ≠ to
  b2 : ti ≠ p
  b3 : ti ≠ q
  b4 : to ≠ p
  b5 : to ≠ q
  c1 : p ≠ q
theorem ap_new (n : Nat) : Ap (n + 4) (n + 2) (n + 3) n (n + 1) := by
  constructor <;> exact (show (_ : Nat) ≠ _ by omega)
abbrev Dr (P : Program) (w : World) (it : Addr) (x : Str) (St : Nat → Heap → Prop) : Prop :=
  ∀ A : Around, A.handled = none → Draws P w A it [it] x.cps.size (SignAt x) St
section
variable {P : Program} {w : World} {A : Around} {E : Value → Shared → Prop} {s : Shared}
theorem stE {St : Nat → Heap → Prop} {it : Addr} {x : Str} {i : Nat} {h h' : Heap} {c : Addr} (D : Dr P w it x St) (hA : A.handled = none) (st : St i h) (e : Heap.ExtBut c h h') (n : it ≠ c) : St i h' :=
  (D A hA).frame i h h' st fun b hb o ho => e b o (by rw [List.mem_singleton.mp hb]; exact n) ho
theorem live_lt {St : Nat → Heap → Prop} {it : Addr} {x : Str} {i : Nat} {h : Heap} (D : Dr P w it x St) (hA : A.handled = none) (st : St i h) : it < h.objs.size := by
  obtain ⟨o, ho⟩ := (D A hA).live i h st
  exact Heap.lt_size ho
/-- the next pair -/
theorem next_item {o ti to p q : Addr} {i j : Nat} {x y : Str} {S T : Nat → Heap → Prop} {a b : Value} {Q : Value → Shared → Prop} (hA : A.handled = none) (ap : Ap o ti to p q) (D1 : Dr P w p x S) (D2 : Dr P w q y T)
    (zo : IsZip s.heap o ti to .none) (pI : IsPair s.heap ti (.ref p) (.ref q)) (pO : IsPair s.heap to a b) (k1 : S i s.heap) (k2 : T j s.heap) (l1 : i < x.cps.size) (l2 : j < y.cps.size)
    (fin : ∀ u v h' tk, SignAt x i u → SignAt y j v → IsZip h' o ti to (rawInt s.heap.objs.size) → IsPair h' to u v → S (i + 1) h' → T (j + 1) h' → IsPair h' s.heap.objs.size u v → h'.objs.size = s.heap.objs.size + 1 →
      (∀ c ob, c ≠ o → c ≠ to → c ≠ p → c ≠ q → s.heap.get? c = some ob → h'.get? c = some ob) → Q (.ref s.heap.objs.size) { s with heap := h', toks := tk }) :
    wpAny (model P w) A (Builtin.«zip.__next__» ⟨[.ref o], []⟩) (fun f s' => ∃ v, f = .done (.ret v) ∧ Q v s') E s := by
  obtain ⟨hp, g, dn, t0, os⟩ := s
  show wpAny _ _ (field (.ref o) 2 >>= _) _ _ _
  refine wpAny_bind (wpAny_field zo rfl (x := .bool false) rfl ?_)
  show wpAny _ _ (field (.ref o) 3 >>= _) _ _ _
  refine wpAny_bind (wpAny_field zo rfl (x := .ref ti) rfl ?_)
  refine wpAny_bind (wpAny_seqItems pI rfl ?_)
  show wpAny _ _ (Builtin.SmallTypes.ownedTupleIsFree (.ref o) >>= _) _ _ _
  refine wpAny_bind (m := Builtin.SmallTypes.ownedTupleIsFree (.ref o)) ?_
  unfold Builtin.SmallTypes.ownedTupleIsFree
  refine wpAny_bind (wpAny_field zo rfl (x := .none) rfl (wpAny_pure ?_))
  simp only [if_true]
  refine wpAny_bind (wpAny_rule (wpAny_bind (wpAny_field zo rfl (x := .ref to) rfl (wpAny_bind (wpAny_setField_rec zo (by simp) fun h₁ z₁ e₁ => ?_)))))
  replace z₁ : IsZip h₁ o ti to .ellipsis := z₁
  replace e₁ : Heap.SameBut o hp h₁ := e₁
  refine wpAny_bind (m := forIn _ _ _) ?_
  simp only [List.zipIdx_cons, List.zipIdx_nil, List.forIn_cons, List.forIn_nil]
  refine wpAny_bind (wpAny_bind (wpAny_onRaise ?_))
  show wpAny _ _ (Builtin.SmallTypes.nextOf (.ref p) >>= _) _ _ ⟨h₁, g, dn, t0, os⟩
  refine wpAny_bind ((D1 _ hA).item i _ _ _ l1 (stE D1 hA k1 e₁.extBut ap.a3) fun u h₂ t1 hu s₂ e₂ => wpAny_pure ?_)
  replace e₂ : Heap.SameBut p h₁ h₂ := e₂
  have o₂ : IsPair h₂ to a b := e₂.extBut _ _ ap.b4 (e₁.extBut _ _ ap.a2 pO)
  refine wpAny_bind (wpAny_seqItems (s := ⟨h₂, g, dn, t1, os⟩) o₂ rfl ?_)
  refine wpAny_bind (wpAny_updateSeq_pair (s := ⟨h₂, g, dn, t1, os⟩) o₂ fun h₃ o₃ e₃ => ?_)
  replace o₃ : IsPair h₃ to u b := o₃
  replace e₃ : Heap.SameBut to h₂ h₃ := e₃
  refine wpAny_bind (wpAny_letGo (wpAny_pure ?_))
  refine wpAny_bind (wpAny_bind (wpAny_onRaise ?_))
  show wpAny _ _ (Builtin.SmallTypes.nextOf (.ref q) >>= _) _ _ ⟨h₃, g, dn, t1, os⟩
  have st2 : T j h₃ := stE D2 hA (stE D2 hA (stE D2 hA k2 e₁.extBut ap.a4) e₂.extBut ap.c1.symm) e₃.extBut ap.b5.symm
  refine wpAny_bind ((D2 _ hA).item j ⟨h₃, g, dn, t1, os⟩ _ _ l2 st2 fun v h₄ t2 hv s₄ e₄ => wpAny_pure ?_)
  replace e₄ : Heap.SameBut q h₃ h₄ := e₄
  have o₄ : IsPair h₄ to u b := e₄.extBut _ _ ap.b5 o₃
  refine wpAny_bind (wpAny_seqItems (s := ⟨h₄, g, dn, t2, os⟩) o₄ rfl ?_)
  refine wpAny_bind (wpAny_updateSeq_pair (s := ⟨h₄, g, dn, t2, os⟩) o₄ fun h₅ o₅ e₅ => ?_)
  replace o₅ : IsPair h₅ to u v := o₅
  replace e₅ : Heap.SameBut to h₄ h₅ := e₅
  refine wpAny_bind (wpAny_letGo (wpAny_pure (wpAny_pure ?_)))
  refine wpAny_bind (wpAny_seqItems (s := ⟨h₅, g, dn, t2, os⟩) o₅ rfl (wpAny_bind (wpAny_newTuple ?_)))
  have sz : h₅.objs.size = hp.objs.size := by rw [e₅.1, e₄.1, e₃.1, e₂.1, e₁.1]
  have z₅ : IsZip h₅ o ti to .ellipsis := e₅.extBut _ _ ap.a2.symm (e₄.extBut _ _ ap.a4.symm (e₃.extBut _ _ ap.a2.symm (e₂.extBut _ _ ap.a3.symm z₁)))
  have up5 : ∀ c ob, c ≠ o → c ≠ to → c ≠ p → c ≠ q → hp.get? c = some ob → h₅.get? c = some ob := fun c ob n1 n2 n3 n4 h =>
    e₅.extBut _ _ n2 (e₄.extBut _ _ n4 (e₃.extBut _ _ n2 (e₂.extBut _ _ n3 (e₁.extBut _ _ n1 h))))
  have s1₅ : S (i + 1) h₅ := stE D1 hA (stE D1 hA (stE D1 hA s₂ e₃.extBut ap.b4.symm) e₄.extBut ap.c1) e₅.extBut ap.b4.symm
  have s2₅ : T (j + 1) h₅ := stE D2 hA s₄ e₅.extBut ap.b5.symm
  have lo : o < h₅.objs.size := Heap.lt_size z₅
  have lt : to < h₅.objs.size := Heap.lt_size o₅
  have lp := live_lt D1 hA s1₅
  have lq := live_lt D2 hA s2₅
  show wpAny _ _ (Builtin.SmallTypes.ownedTupleHandOut (.ref o) (.ref h₅.objs.size) >>= _) _ _ _
  refine wpAny_bind (m := Builtin.SmallTypes.ownedTupleHandOut (.ref o) (.ref h₅.objs.size)) ?_
  unfold Builtin.SmallTypes.ownedTupleHandOut
  have z₆ : IsZip (h₅.push { cls := .type "tuple", data := .seq #[u, v] }) o ti to .ellipsis := Heap.get?_push_of_some _ z₅
  refine wpAny_bind (wpAny_setField_rec (s := ⟨h₅.push { cls := .type "tuple", data := .seq #[u, v] }, g, dn, t2, os⟩) z₆ (by simp) fun h₇ z₇ e₇ => ?_)
  replace z₇ : IsZip h₇ o ti to (rawInt h₅.objs.size) := z₇
  replace e₇ : Heap.SameBut o (h₅.push { cls := .type "tuple", data := .seq #[u, v] }) h₇ := e₇
  refine wpAny_setField_rec (s := ⟨h₇, g, dn, t2, os⟩) z₇ (by simp) fun h₈ z₈ e₈ => ?_
  replace z₈ : IsZip h₈ o ti to (rawInt h₅.objs.size) := z₈
  replace e₈ : Heap.SameBut o h₇ h₈ := e₈
  have up : ∀ c ob, c ≠ o → h₅.get? c = some ob → h₈.get? c = some ob := fun c ob n1 h => e₈.extBut _ _ n1 (e₇.extBut _ _ n1 (Heap.get?_push_of_some _ h))
  have t₈ : IsPair h₈ h₅.objs.size u v := e₈.extBut _ _ (Nat.ne_of_gt lo) (e₇.extBut _ _ (Nat.ne_of_gt lo) (Heap.get?_push_size _ rfl))
  have sz8 : h₈.objs.size = h₅.objs.size + 1 := by rw [e₈.1, e₇.1, Heap.size_push]
  rw [sz] at z₈ t₈ sz8
  refine wpAny_pure ⟨_, rfl, ?_⟩
  show Q (.ref h₅.objs.size) _
  rw [sz]
  have fr1 : S (i + 1) h₈ := (D1 A hA).frame _ _ _ s1₅ fun b hb ob h => by
    rw [List.mem_singleton.mp hb] at h ⊢
    exact up _ _ ap.a3 h
  have fr2 : T (j + 1) h₈ := (D2 A hA).frame _ _ _ s2₅ fun b hb ob h => by
    rw [List.mem_singleton.mp hb] at h ⊢
    exact up _ _ ap.a4 h
  exact fin u v h₈ t2 hu hv z₈ (up _ _ ap.a2 o₅) fr1 fr2 t₈ sz8 fun c ob n1 n2 n3 n4 h => up c ob n1 (up5 c ob n1 n2 n3 n4 h)
/-- no next pair -/
theorem next_end {o ti to p q : Addr} {i j : Nat} {x y : Str} {S T : Nat → Heap → Prop} {a b : Value} {Q : Fin → Shared → Prop} (hA : A.handled = none) (ap : Ap o ti to p q) (D1 : Dr P w p x S) (D2 : Dr P w q y T)
    (zo : IsZip s.heap o ti to .none) (pI : IsPair s.heap ti (.ref p) (.ref q)) (pO : IsPair s.heap to a b) (k1 : S i s.heap) (k2 : T j s.heap) (l : i = x.cps.size ∨ i < x.cps.size ∧ j = y.cps.size)
    (fin : ∀ h' e tk, (∀ c ob, c ≠ o → c ≠ to → c ≠ p → c ≠ q → s.heap.get? c = some ob → h'.get? c = some ob) → (∃ oe, h'.get? e = some oe ∧ oe.cls = .type "StopIteration") → E (.ref e) { s with heap := h', toks := tk }) :
    wpAny (model P w) A (Builtin.«zip.__next__» ⟨[.ref o], []⟩) Q E s := by
  obtain ⟨hp, g, dn, t0, os⟩ := s
  show wpAny _ _ (field (.ref o) 2 >>= _) _ _ _
  refine wpAny_bind (wpAny_field zo rfl (x := .bool false) rfl ?_)
  show wpAny _ _ (field (.ref o) 3 >>= _) _ _ _
  refine wpAny_bind (wpAny_field zo rfl (x := .ref ti) rfl ?_)
  refine wpAny_bind (wpAny_seqItems pI rfl ?_)
  show wpAny _ _ (Builtin.SmallTypes.ownedTupleIsFree (.ref o) >>= _) _ _ _
  refine wpAny_bind (m := Builtin.SmallTypes.ownedTupleIsFree (.ref o)) ?_
  unfold Builtin.SmallTypes.ownedTupleIsFree
  refine wpAny_bind (wpAny_field zo rfl (x := .none) rfl (wpAny_pure ?_))
  simp only [if_true]
  refine wpAny_bind (wpAny_rule (wpAny_bind (wpAny_field zo rfl (x := .ref to) rfl (wpAny_bind (wpAny_setField_rec zo (by simp) fun h₁ z₁ e₁ => ?_)))))
  replace z₁ : IsZip h₁ o ti to .ellipsis := z₁
  replace e₁ : Heap.SameBut o hp h₁ := e₁
  refine wpAny_bind (m := forIn _ _ _) ?_
  simp only [List.zipIdx_cons, List.zipIdx_nil, List.forIn_cons, List.forIn_nil]
  refine wpAny_bind (wpAny_bind (wpAny_onRaise ?_))
  show wpAny _ _ (Builtin.SmallTypes.nextOf (.ref p) >>= _) _ _ ⟨h₁, g, dn, t0, os⟩
  rcases l with rfl | ⟨l1, rfl⟩
  · refine wpAny_bind ((D1 _ hA).done ⟨h₁, g, dn, t0, os⟩ _ _ (stE D1 hA k1 e₁.extBut ap.a3) fun h₂ e e₂ he => ?_)
    obtain ⟨oe, hoe, hce⟩ := he
    have z₂ : IsZip h₂ o ti to .ellipsis := e₂ _ _ ap.a3.symm z₁
    have ez : e ≠ o := fun c => by subst c; rw [z₂] at hoe; cases hoe; simp at hce
    exact wpAny_setField_rec (s := ⟨h₂, g, dn, t0, os⟩) z₂ (by simp) fun h₃ _ e₃ => fin h₃ e t0 (fun c ob n1 _ n3 _ h => e₃.extBut _ _ n1 (e₂ _ _ n3 (e₁.extBut _ _ n1 h))) ⟨oe, e₃.extBut _ _ ez hoe, hce⟩
  · refine wpAny_bind ((D1 _ hA).item i ⟨h₁, g, dn, t0, os⟩ _ _ l1 (stE D1 hA k1 e₁.extBut ap.a3) fun u h₂ t1 hu s₂ e₂ => wpAny_pure ?_)
    replace e₂ : Heap.SameBut p h₁ h₂ := e₂
    have o₂ : IsPair h₂ to a b := e₂.extBut _ _ ap.b4 (e₁.extBut _ _ ap.a2 pO)
    refine wpAny_bind (wpAny_seqItems (s := ⟨h₂, g, dn, t1, os⟩) o₂ rfl ?_)
    refine wpAny_bind (wpAny_updateSeq_pair (s := ⟨h₂, g, dn, t1, os⟩) o₂ fun h₃ o₃ e₃ => ?_)
    replace e₃ : Heap.SameBut to h₂ h₃ := e₃
    refine wpAny_bind (wpAny_letGo (wpAny_pure ?_))
    refine wpAny_bind (wpAny_bind (wpAny_onRaise ?_))
    show wpAny _ _ (Builtin.SmallTypes.nextOf (.ref q) >>= _) _ _ ⟨h₃, g, dn, t1, os⟩
    have st2 := stE D2 hA (stE D2 hA (stE D2 hA k2 e₁.extBut ap.a4) e₂.extBut ap.c1.symm) e₃.extBut ap.b5.symm
    refine wpAny_bind ((D2 _ hA).done ⟨h₃, g, dn, t1, os⟩ _ _ st2 fun h₄ e e₄ he => ?_)
    obtain ⟨oe, hoe, hce⟩ := he
    have z₄ : IsZip h₄ o ti to .ellipsis := e₄ _ _ ap.a4.symm (e₃.extBut _ _ ap.a2.symm (e₂.extBut _ _ ap.a3.symm z₁))
    have ez : e ≠ o := fun c => by subst c; rw [z₄] at hoe; cases hoe; simp at hce
    exact wpAny_setField_rec (s := ⟨h₄, g, dn, t1, os⟩) z₄ (by simp) fun h₅ _ e₅ => fin h₅ e t1 (fun c ob n1 n2 n3 n4 h => e₅.extBut _ _ n1 (e₄ _ _ n4 (e₃.extBut _ _ n2 (e₂.extBut _ _ n3 (e₁.extBut _ _ n1 h))))) ⟨oe, e₅.extBut _ _ ez hoe, hce⟩
theorem py_item {o ti to p q : Addr} {i j : Nat} {x y : Str} {S T : Nat → Heap → Prop} {a b : Value} {Q : Option Value → Shared → Prop} (hA : A.handled = none) (ap : Ap o ti to p q) (D1 : Dr P w p x S) (D2 : Dr P w q y T)
    (zo : IsZip s.heap o ti to .none) (pI : IsPair s.heap ti (.ref p) (.ref q)) (pO : IsPair s.heap to a b) (k1 : S i s.heap) (k2 : T j s.heap) (l1 : i < x.cps.size) (l2 : j < y.cps.size)
    (fin : ∀ u v h' tk, SignAt x i u → SignAt y j v → IsZip h' o ti to (rawInt s.heap.objs.size) → IsPair h' to u v → S (i + 1) h' → T (j + 1) h' → IsPair h' s.heap.objs.size u v → h'.objs.size = s.heap.objs.size + 1 →
      (∀ c ob, c ≠ o → c ≠ to → c ≠ p → c ≠ q → s.heap.get? c = some ob → h'.get? c = some ob) → Q (some (.ref s.heap.objs.size)) { s with heap := h', toks := tk }) :
    wpAny (model P w) A (pyNext (.ref o)) Q E s := by
  have ty : s.TypeIs (.ref o) "zip" := ⟨_, zo, rfl⟩
  unfold pyNext
  refine wpAny_bind (wpAny_attempt (wpAny_callSpecial?_slot (name := Str.ofString "__next__") ty F.slot_zip_next (wpAny_call_entry F.slot_zip_next ty F.entry_zip_next ?_ (F.args_zip_next_1 _))))
  exact next_item hA ap D1 D2 zo pI pO k1 k2 l1 l2 fun u v h' tk b1 b2 b3 b4 b5 b6 b7 b8 b9 => wpAny_pure (fin u v h' tk b1 b2 b3 b4 b5 b6 b7 b8 b9)
theorem py_end {o ti to p q : Addr} {i j : Nat} {x y : Str} {S T : Nat → Heap → Prop} {a b : Value} {Q : Option Value → Shared → Prop} (hA : A.handled = none) (ap : Ap o ti to p q) (D1 : Dr P w p x S) (D2 : Dr P w q y T)
    (zo : IsZip s.heap o ti to .none) (pI : IsPair s.heap ti (.ref p) (.ref q)) (pO : IsPair s.heap to a b) (k1 : S i s.heap) (k2 : T j s.heap) (l : i = x.cps.size ∨ i < x.cps.size ∧ j = y.cps.size)
    (fin : ∀ h' tk, (∀ c ob, c ≠ o → c ≠ to → c ≠ p → c ≠ q → s.heap.get? c = some ob → h'.get? c = some ob) → Q none { s with heap := h', toks := tk }) : wpAny (model P w) A (pyNext (.ref o)) Q E s := by
  have ty : s.TypeIs (.ref o) "zip" := ⟨_, zo, rfl⟩
  unfold pyNext
  refine wpAny_bind (wpAny_attempt (wpAny_callSpecial?_slot (name := Str.ofString "__next__") ty F.slot_zip_next (wpAny_call_entry F.slot_zip_next ty F.entry_zip_next (next_end hA ap D1 D2 zo pI pO k1 k2 l fun h' e tk hk he => ?_) (F.args_zip_next_1 _))))
  obtain ⟨oe, hoe, hce⟩ := he
  exact wpAny_bind (wpAny_isInstance (T := "StopIteration") (b := true) ⟨oe, hoe, hce⟩ isSubtype_stop (wpAny_pure (fin _ _ hk)))
end
/-- the iterator of a text -/
def itTy (x : Str) : String := if x.cps.all (· < 128) = true then "str_ascii_iterator" else "str_iterator"
theorem dr_str {P : Program} {w : World} {it : Addr} {x : Str} {t : Tok} : Dr P w it x (fun i h => h.IsStrIter it (itTy x) x t i) := fun A hA => by
  unfold itTy
  by_cases h : x.cps.all (· < 128) = true
  · simp only [h, if_true]
    exact Draws.strAscii hA it x t
  · simp only [h, if_false]
    exact Draws.strWide hA it x t
section
variable {P : Program} {w : World} {A : Around} {E : Value → Shared → Prop} {s : Shared}
theorem iter_str {x : Str} {t : Tok} {Q : Value → Shared → Prop} (fin : Q (.ref s.heap.objs.size) { s with heap := s.heap.push { cls := .type (itTy x), data := .fields #[.str x t, .int 0 0] } }) : wpAny (model P w) A (pyIter (.str x t)) Q E s := by
  unfold itTy at fin
  cases h : x.cps.all (· < 128)
  · rw [h] at fin
    exact wpAny_pyIter_wide h fin
  · rw [h] at fin
    exact wpAny_pyIter_ascii h fin
end
abbrev P1 (h : Heap) (x : Str) (t : Tok) : Heap := h.push { cls := .type (itTy x), data := .fields #[.str x t, .int 0 0] }
abbrev P2 (h : Heap) (x y : Str) (t u : Tok) : Heap := (P1 h x t).push { cls := .type (itTy y), data := .fields #[.str y u, .int 0 0] }
abbrev P3 (h : Heap) (x y : Str) (t u : Tok) : Heap := (P2 h x y t u).push { cls := .type "tuple", data := .seq #[.ref h.objs.size, .ref (P1 h x t).objs.size] }
abbrev P4 (h : Heap) (x y : Str) (t u : Tok) : Heap := (P3 h x y t u).push { cls := .type "tuple", data := .seq #[.none, .none] }
abbrev P5 (h : Heap) (x y : Str) (t u : Tok) : Heap := (P4 h x y t u).push { cls := .type "zip", data := .fields #[.none, .bool false, .bool false, .ref (P2 h x y t u).objs.size, .ref (P3 h x y t u).objs.size] }
theorem new_str (x y : Str) (t u : Tok) : Meets (Builtin.«zip.__new__» ⟨[.type "zip", .str x t, .str y u], []⟩) (fun _ R s => R (.ok (.ret (.ref (P4 s.heap x y t u).objs.size))) { s with heap := P5 s.heap x y t u }) :=
  .of_wp fun prog w A R s h => by
    obtain ⟨hp, g, d, tk, os⟩ := s
    have hsub := sub_zip
    wp_walk using iter_str, iter_str
    exact ⟨_, rfl, h⟩
section
variable {P : Program} {w : World} {A : Around} {E : Value → Shared → Prop} {s : Shared}
theorem call_str {x y : Str} {t u : Tok} {Q : Value → Shared → Prop}
    (fin : ∀ h', IsZip h' (s.heap.objs.size + 4) (s.heap.objs.size + 2) (s.heap.objs.size + 3) .none → IsPair h' (s.heap.objs.size + 2) (.ref s.heap.objs.size) (.ref (s.heap.objs.size + 1)) → IsPair h' (s.heap.objs.size + 3) .none .none →
      h'.IsStrIter s.heap.objs.size (itTy x) x t 0 → h'.IsStrIter (s.heap.objs.size + 1) (itTy y) y u 0 → (∀ c ob, s.heap.get? c = some ob → h'.get? c = some ob) → Q (.ref (s.heap.objs.size + 4)) { s with heap := h' }) :
    wpAny (model P w) A (call (.type "zip") [.str x t, .str y u]) Q E s := by
  refine callType_new F.called_zip (by decide) (F.typeCall_zip_2 _ _) (F.newCall_zip_2 _ _) (fun obj => F.args_object_init_3 obj _ _) F.entry_zip_new (new_str x y t u) ?_
  have z1 : (P1 s.heap x t).objs.size = s.heap.objs.size + 1 := Heap.size_push ..
  have z2 : (P2 s.heap x y t u).objs.size = s.heap.objs.size + 2 := (Heap.size_push ..).trans (by rw [z1])
  have z3 : (P3 s.heap x y t u).objs.size = s.heap.objs.size + 3 := (Heap.size_push ..).trans (by rw [z2])
  have z4 : (P4 s.heap x y t u).objs.size = s.heap.objs.size + 4 := (Heap.size_push ..).trans (by rw [z3])
  have w5 : (P5 s.heap x y t u).get? (P4 s.heap x y t u).objs.size = some _ := Heap.get?_push_size _ rfl
  have w4 : (P5 s.heap x y t u).get? (P3 s.heap x y t u).objs.size = some _ := Heap.get?_push_of_some _ (Heap.get?_push_size _ rfl)
  have w3 : (P5 s.heap x y t u).get? (P2 s.heap x y t u).objs.size = some _ := Heap.get?_push_of_some _ (Heap.get?_push_of_some _ (Heap.get?_push_size _ rfl))
  have w2 : (P5 s.heap x y t u).get? (P1 s.heap x t).objs.size = some _ := Heap.get?_push_of_some _ (Heap.get?_push_of_some _ (Heap.get?_push_of_some _ (Heap.get?_push_size _ rfl)))
  have w1 : (P5 s.heap x y t u).get? s.heap.objs.size = some _ := Heap.get?_push_of_some _ (Heap.get?_push_of_some _ (Heap.get?_push_of_some _ (Heap.get?_push_of_some _ (Heap.get?_push_size _ rfl))))
  show _ ∧ _
  rw [z2, z3, z4] at w5
  rw [z1, z2] at w3
  rw [z3] at w4
  rw [z1] at w2
  rw [z4]
  refine ⟨⟨_, w5, rfl⟩, fin _ w5 w3 w4 ⟨_, w1, rfl, rfl⟩ ⟨_, w2, rfl, rfl⟩ fun c ob h => ?_⟩
  exact Heap.get?_push_of_some _ (Heap.get?_push_of_some _ (Heap.get?_push_of_some _ (Heap.get?_push_of_some _ (Heap.get?_push_of_some _ h))))
end
/-- the signs of two texts, side by side -/
def ItzS (x y : Str) : It :=
  ⟨fun i _ => i < x.cps.size ∧ i < y.cps.size,
    fun i H v H' => ∃ (T : Addr) (c d : Nat), v = .ref T ∧ H T = none ∧ x.cps[i]? = some c ∧ y.cps[i]? = some d ∧ H' = upd H T (.tup [.str ⟨#[c]⟩, .str ⟨#[d]⟩]),
    fun i _ => i = x.cps.size ∨ i < x.cps.size ∧ i = y.cps.size⟩
theorem turn_zipS {P : Program} {w : World} {K : PySem.W.Frag} {elts : List Expr} {kk : Nat} {tpos : Pos} {x y : Str} {t u : Tok} {o ti to p q : Addr} (ap : Ap o ti to p q) :
    Turn P w K (.Tuple elts kk tpos) (ItzS x y) [o, ti, to, p, q] o (fun i h => IsZip h o ti to .none ∧ IsPair h ti (.ref p) (.ref q) ∧ (∃ a b, IsPair h to a b) ∧ h.IsStrIter p (itTy x) x t i ∧ h.IsStrIter q (itTy y) y u i) where
  mem := .head _
  obj := fun i h st c hc => by
    obtain ⟨k1, k2, ⟨a, b, k3⟩, ⟨o1, e1, _, d1⟩, ⟨o2, e2, _, d2⟩⟩ := st
    have hc' : c = o ∨ c = ti ∨ c = to ∨ c = p ∨ c = q := by simpa using hc
    rcases hc' with rfl | rfl | rfl | rfl | rfl
    · exact ⟨_, k1, fun v n => nomatch n⟩
    · exact ⟨_, k2, fun v n => nomatch n⟩
    · exact ⟨_, k3, fun v n => nomatch n⟩
    · exact ⟨o1, e1, fun v n => by rw [d1] at n; cases n⟩
    · exact ⟨o2, e2, fun v n => by rw [d2] at n; cases n⟩
  keep := fun i h h' st k => by
    obtain ⟨k1, k2, ⟨a, b, k3⟩, ⟨o1, e1, r1⟩, ⟨o2, e2, r2⟩⟩ := st
    exact ⟨k o (by simp) _ k1, k ti (by simp) _ k2, ⟨a, b, k to (by simp) _ k3⟩, ⟨o1, k p (by simp) _ e1, r1⟩, ⟨o2, k q (by simp) _ e2, r2⟩⟩
  item := by
    intro X hP hw hK hc i pins s σ H E I hf st hg
    subst hP hw hK
    obtain ⟨k1, k2, ⟨a, b, k3⟩, k4, k5⟩ := st
    obtain ⟨l1, l2⟩ := hg
    have ol : o < s.heap.objs.size := Heap.lt_size k1
    refine py_item (I.ok.hd hc) ap dr_str dr_str k1 k2 k3 k4 k5 l1 l2 fun c d h' tk hcu hdv z' o' s1' s2' hT hsz hk => ?_
    obtain ⟨cc, tc, hcc, rfl⟩ := hcu
    obtain ⟨dd, td, hdd, rfl⟩ := hdv
    refine ⟨_, rfl, wpAny_letOwnedTupleGo_zip (s := { s with heap := h', toks := tk }) z' fun h'' z'' sb => ?_⟩
    have hT2 : h''.get? s.heap.objs.size = some { cls := .type "tuple", data := .seq #[.str ⟨#[cc]⟩ tc, .str ⟨#[dd]⟩ td] } := (sb.2 _ (Nat.ne_of_gt ol)).trans hT
    have new : ObjOk X.prog X.w (upd H s.heap.objs.size (.tup [.str ⟨#[cc]⟩, .str ⟨#[dd]⟩])) h'' s.heap.objs.size (.tup [.str ⟨#[cc]⟩, .str ⟨#[dd]⟩]) :=
      ⟨by show 2 ≤ sizeLine; decide, [.str ⟨#[cc]⟩ tc, .str ⟨#[dd]⟩ td], .cons ⟨tc, rfl⟩ (.cons ⟨td, rfl⟩ .nil), ⟨_, hT2, rfl, _, rfl⟩⟩
    have I1 : Inv X pins σ (upd H s.heap.objs.size (.tup [.str ⟨#[cc]⟩, .str ⟨#[dd]⟩])) { s with heap := h'', toks := tk } :=
      I.turnedNew (t' := tk) (ch := [o, ti, to, p, q]) (fun c ob hb e => (sb.2 c (fun n => hb (by simp [n]))).trans (hk c ob (fun n => hb (by simp [n])) (fun n => hb (by simp [n])) (fun n => hb (by simp [n])) (fun n => hb (by simp [n])) e)) hf (Nat.le_refl _) new
    refine ⟨.ref s.heap.objs.size, _, I1, rfl, ⟨_, cc, dd, rfl, I.hok.fresh (Nat.le_refl _), hcc, hdd, rfl⟩, ⟨z'', ?_, ⟨_, _, (sb.2 _ ap.a2).trans o'⟩, ?_, ?_⟩, fun c hcm => ?_⟩
    · exact (sb.2 _ ap.a1).trans (hk _ _ ap.a1 ap.b1 ap.b2 ap.b3 k2)
    · obtain ⟨ob, e, r⟩ := s1'
      exact ⟨ob, (sb.2 _ ap.a3).trans e, r⟩
    · obtain ⟨ob, e, r⟩ := s2'
      exact ⟨ob, (sb.2 _ ap.a4).trans e, r⟩
    · have lt : c < s.heap.objs.size := by
        have hc' : c = o ∨ c = ti ∨ c = to ∨ c = p ∨ c = q := by simpa using hcm
        rcases hc' with rfl | rfl | rfl | rfl | rfl
        · exact ol
        · exact Heap.lt_size k2
        · exact Heap.lt_size k3
        · obtain ⟨_, e, _⟩ := k4; exact Heap.lt_size e
        · obtain ⟨_, e, _⟩ := k5; exact Heap.lt_size e
      rw [upd_ne (Nat.ne_of_lt lt)]
      exact (hf c hcm).1
  done := by
    intro X hP hw hK hc i pins s σ H E I hf st hg
    subst hP hw hK
    obtain ⟨k1, k2, ⟨a, b, k3⟩, k4, k5⟩ := st
    refine py_end (I.ok.hd hc) ap dr_str dr_str k1 k2 k3 k4 k5 hg fun h' tk hk => ⟨rfl, I.turnedL (t' := tk) (ch := [o, ti, to, p, q]) (fun c ob hb e => ?_) hf⟩
    exact hk c ob (fun n => hb (by simp [n])) (fun n => hb (by simp [n])) (fun n => hb (by simp [n])) (fun n => hb (by simp [n])) e
  self := fun A i s Q E st h => wpAny_pyIter_zip st.1 h
def iZipS (ta : TA) : TI := fun σ H R => ta σ H fun vs H1 => ∃ x y : Str, vs = [.str x, .str y] ∧ R (ItzS x y) H1
theorem pi_zipS {X : Cx} {e e2 : Expr} {ta : TA} {p pos tpos : Pos} {elts : List Expr} {kk : Nat} (hg : Gl X "zip") (hm : X.mg "zip" = none) (ha : PA X [e, e2] ta)
    (h1 : starEach [e, e2] X.env = (false, eval e X.env) :: starEach [e2] X.env := by rfl) (h2 : (backTo pos (starEach [e2] X.env)).any (·.1) = false := by rfl) : PI X (.Tuple elts kk tpos) (.Call (.Name "zip" p) [e, e2] [] pos) (iZipS ta) := by
  refine ⟨fun pins s σ H R I h => ?_⟩
  refine Call_ (ld_blt I hg hm PyProof.Rows.boot_zip (PyProof.Rows.callWith_type1 (thn (ha.run pos pins s σ H _ I h) fun us s1 ⟨vs, H1, I1, r1, x, y, ex, q⟩ => ?_) h1 h2))
  subst ex
  cases r1 with
  | cons r rr =>
    cases rr with
    | cons r' rr =>
      cases rr
      obtain ⟨t, rfl⟩ := r
      obtain ⟨u, rfl⟩ := r'
      refine call_str fun h' k1 k2 k3 k4 k5 hk => wpAny_pyIter_zip k1 ?_
      have I2 : Inv X pins σ H1 { s1 with heap := h' } := I1.kept (t' := s1.toks) hk
      refine ⟨s1.heap.objs.size + 4, [s1.heap.objs.size + 4, s1.heap.objs.size + 2, s1.heap.objs.size + 3, s1.heap.objs.size, s1.heap.objs.size + 1], _, _, H1, rfl, I2, turn_zipS (t := t) (u := u) (ap_new _), ⟨k1, k2, ⟨_, _, k3⟩, k4, k5⟩, fun c hc => ?_, q⟩
      have le : s1.heap.objs.size ≤ c := by
        simp only [List.mem_cons, List.not_mem_nil, or_false] at hc
        rcases hc with e | e | e | e | e <;> subst e <;> first | exact Nat.le_refl _ | exact Nat.le_add_right _ _
      exact I1.fpOk le (I1.hok.fresh le)
/-- a loop over zip of two texts of one length -/
theorem for_zipS {l m : List Nat} {g : TG} {tb : TS} {D : Ends} {σ : L2.St} {H : Hp} (hl : l.length = m.length) (Pv : Nat → L2.St → Hp → Prop) (h0 : Pv 0 σ H)
    (hs : ∀ (i c d : Nat) (T : Addr) (σ : L2.St) (H : Hp), l[i]? = some c → m[i]? = some d → Pv i σ H → H T = none → g (.ref T) σ (upd H T (.tup [.str (SX.S [c]), .str (SX.S [d])])) fun σ2 H2 => tb { D with nx := Pv (i + 1), ct := Pv (i + 1), bk := D.nx } σ2 H2) (hd : ∀ σ H, Pv l.length σ H → D.nx σ H) :
    ∃ W : Nat → Nat → L2.St → Hp → Prop, (∃ m, W 0 m σ H) ∧ ∀ i n σ H, W i n σ H →
      ((ItzS (SX.S l) (SX.S m)).stop i H ∧ D.nx σ H) ∨ ((ItzS (SX.S l) (SX.S m)).go i H ∧ ∃ N : L2.St → Hp → Prop, (∀ σ' H', N σ' H' → ∃ m', m' < n ∧ W (i + 1) m' σ' H') ∧ ∀ v H', (ItzS (SX.S l) (SX.S m)).yld i H v H' → g v σ H' fun σ2 H2 => tb { D with nx := N, ct := N, bk := D.nx } σ2 H2) := by
  refine ⟨fun i n σ H => n = l.length - i ∧ i ≤ l.length ∧ Pv i σ H, ⟨l.length, rfl, Nat.zero_le _, h0⟩, ?_⟩
  rintro i n σ H ⟨rfl, hi, pv⟩
  by_cases lt : i < l.length
  · refine .inr ⟨⟨show i < l.length from lt, show i < m.length by omega⟩, Pv (i + 1), fun σ' H' p' => ⟨l.length - (i + 1), by omega, rfl, lt, p'⟩, fun v H' y => ?_⟩
    obtain ⟨T, c, d, rfl, hT, hc, hd', rfl⟩ := y
    exact hs i c d T σ H (by rw [← hc]; simp [SX.S]) (by rw [← hd']; simp [SX.S]) pv hT
  · have e : i = l.length := by omega
    subst e
    exact .inl ⟨.inl rfl, hd σ H pv⟩
end WZ
namespace WP
open PySem PySem.Spec PyProof.Rows L2 WZ
theorem zipS {ta : TA} {σ : L2.St} {H : Hp} {R : It → Hp → Prop} (h : ta σ H fun vs H1 => ∃ x y : Str, vs = [.str x, .str y] ∧ R (ItzS x y) H1) : iZipS ta σ H R := h
theorem Sm.mut {H H' : Hp} {p : Addr} {xs ys : List V} (e : Sm H H') (h : H p = none) (hp : H' p = some (.lst xs)) : Sm H (upd H' p (.lst ys)) := by
  refine ⟨fun b u hb nt => ?_, fun P hP => ?_⟩
  · rw [upd_ne (ne_of_none hb h)]
    exact e.k b u hb nt
  · obtain ⟨ps, h1, h2⟩ := e.t P hP
    have n : P ≠ p := fun z => by rw [z, hp] at h1; cases h1
    exact ⟨ps, by rw [upd_ne n]; exact h1, h2⟩
/-- a comprehension over zip of two texts of one length -/
theorem lc_zipS {l m : List Nat} {g : TG} {tt : TT} {te : TE} {vs : List Nat} {σ : L2.St} {H1 : Hp} {D : Addr} {Qd : Hp → Prop} (hl : l.length = m.length) (Pv : Nat → Hp → Prop) (h0 : Pv 0 (upd H1 D (.lst [])))
    (hs : ∀ (i c d : Nat) (T : Addr) (H : Hp), l[i]? = some c → m[i]? = some d → Pv i H → H T = none → g (.ref T) (wipe σ vs) (upd H T (.tup [.str (SX.S [c]), .str (SX.S [d])])) fun σ2 H2 => wipe σ2 vs = wipe σ vs ∧ tt σ2 H2 fun b H3 =>
      if b = true then te σ2 H3 fun y H4 => ∃ acc, H4 D = some (.lst acc) ∧ acc.length < sizeLine ∧ Pv (i + 1) (upd H4 D (.lst (acc ++ [y]))) else Pv (i + 1) H3) (hd : ∀ H, Pv l.length H → Qd H) :
    ∃ W : Nat → Nat → Hp → Prop, (∃ m, W 0 m (upd H1 D (.lst []))) ∧ ∀ i n H, W i n H →
      ((ItzS (SX.S l) (SX.S m)).stop i H ∧ Qd H) ∨ ((ItzS (SX.S l) (SX.S m)).go i H ∧ ∃ Nx : Hp → Prop, (∀ H', Nx H' → ∃ m', m' < n ∧ W (i + 1) m' H') ∧ ∀ x H', (ItzS (SX.S l) (SX.S m)).yld i H x H' → g x (wipe σ vs) H' fun σ2 H2 => wipe σ2 vs = wipe σ vs ∧ tt σ2 H2 fun b H3 =>
        if b = true then te σ2 H3 fun y H4 => ∃ acc, H4 D = some (.lst acc) ∧ acc.length < sizeLine ∧ Nx (upd H4 D (.lst (acc ++ [y]))) else Nx H3) := by
  refine ⟨fun i n H => n = l.length - i ∧ i ≤ l.length ∧ Pv i H, ⟨l.length, rfl, Nat.zero_le _, h0⟩, ?_⟩
  rintro i n H ⟨rfl, hi, pv⟩
  by_cases lt : i < l.length
  · refine .inr ⟨⟨show i < l.length from lt, show i < m.length by omega⟩, Pv (i + 1), fun H' p' => ⟨l.length - (i + 1), by omega, rfl, lt, p'⟩, fun v H' y => ?_⟩
    obtain ⟨T, c, d, rfl, hT, hc, hd', rfl⟩ := y
    exact hs i c d T H (by rw [← hc]; simp [SX.S]) (by rw [← hd']; simp [SX.S]) pv hT
  · have e : i = l.length := by omega
    subst e
    exact .inl ⟨.inl rfl, hd H pv⟩
end WP

namespace WP
open PySem PySem.Spec PyProof.Rows L2
/-! ### a display of three pairs -/
theorem disp3 {σ : L2.St} {H : Hp} {Q : VK} {a b c : Str} {v u t : V} (n1 : ¬ a = b) (n2 : ¬ a = c) (n3 : ¬ b = c) (q : ∀ p, H p = none → Q (.ref p) (upd (upd H p (.dK [])) p (.dK [(.inr a, v), (.inr b, u), (.inr c, t)]))) : tDisp [(tC (.str a), tC v), (tC (.str b), tC u), (tC (.str c), tC t)] σ H Q := fun p hp =>
  ⟨upd_same, [(.inr a, v), (.inr b, u), (.inr c, t)], rfl, show 3 ≤ 15 by decide, by
    have e : mergeK [] [((Sum.inr a : Key), v), ((Sum.inr b : Key), u), ((Sum.inr c : Key), t)] = [((Sum.inr a : Key), v), ((Sum.inr b : Key), u), ((Sum.inr c : Key), t)] := by
      show putK (putK (putK ([] : List (Key × V)) (Sum.inr a) v) (Sum.inr b) u) (Sum.inr c) t = _
      have e1 : putK ([] : List (Key × V)) (Sum.inr a) v = [((Sum.inr a : Key), v)] := rfl
      have e2 : putK [((Sum.inr a : Key), v)] (Sum.inr b) u = [((Sum.inr a : Key), v), ((Sum.inr b : Key), u)] := by
        unfold putK
        rw [if_neg (by simp [n1])]
        rfl
      rw [e1, e2]
      unfold putK
      rw [if_neg (by simp [n2, n3])]
      rfl
    rw [e]; exact q p hp⟩
theorem valV3 {a b c d : List Nat} {v u t : V} : valV [((Sum.inr (SX.S a) : Key), v), ((Sum.inr (SX.S b) : Key), u), ((Sum.inr (SX.S c) : Key), t)] (Sum.inr (SX.S d)) = if a = d then some v else if b = d then some u else if c = d then some t else none := by
  by_cases h : a = d
  · subst h; rw [if_pos rfl]; exact valV_pos rfl
  · rw [if_neg h]; exact (valV_neg fun e => h (SX.S_inj (Sum.inr.inj e))).trans valV2
end WP

namespace WP
open PySem PySem.Spec PyProof.Rows L2
/-! ### own classes -/
structure ClsOk (K : PySem.W.Frag) (mg : MG) (nm : Str) (at' : List Str) : Prop where
  m : mg nm = some (.ref (ca mg nm))
  c : Cls K (ca mg nm)
  n : ∀ f ∈ at', NoAttr K (ca mg nm) f
theorem ClsOk.mk' {K : PySem.W.Frag} {mg : MG} {nm : Str} {at' : List Str} {C : Addr} (h : mg nm = some (.ref C)) (c : Cls K C) (n : ∀ f ∈ at', NoAttr K C f) : ClsOk K mg nm at' := by
  have e := ca_of h
  exact ⟨by rw [e]; exact h, by rw [e]; exact c, by rw [e]; exact n⟩
/-- a method that may be called -/
structure CalleeM (P : Program) (w : World) (K : PySem.W.Frag) (mg : MG) (base : Heap) (CX : CXT) (lv : Nat) (nm m : Str) (ps : List Str) (sp : Sp) : Prop where
  ex : ∃ (f : Addr) (fd : FuncData), FnOk P w K mg base CX lv f fd ps sp ∧ Meth K (ca mg nm) m f ∧ Binds K fd ps []
theorem CalleeM.mk' {P : Program} {w : World} {K : PySem.W.Frag} {mg : MG} {base : Heap} {CX : CXT} {lv : Nat} {nm m : Str} {ps : List Str} {sp : Sp} {C f : Addr} {fd : FuncData}
    (h : FnOk P w K mg base CX lv f fd ps sp) (hc : mg nm = some (.ref C)) (hm : Meth K C m f) (b : Binds K fd ps []) : CalleeM P w K mg base CX lv nm m ps sp := ⟨⟨f, fd, h, by rw [ca_of hc]; exact hm, b⟩⟩
/-- a class that may be made -/
structure CalleeI (P : Program) (w : World) (K : PySem.W.Frag) (mg : MG) (base : Heap) (CX : CXT) (lv : Nat) (nm : Str) (ps : List Str) (sp : Sp) : Prop where
  ex : ∃ (f : Addr) (fd : FuncData), FnOk P w K mg base CX lv f fd ps sp ∧ Mk K (ca mg nm) f ∧ Binds K fd ps []
theorem CalleeI.mk' {P : Program} {w : World} {K : PySem.W.Frag} {mg : MG} {base : Heap} {CX : CXT} {lv : Nat} {nm : Str} {ps : List Str} {sp : Sp} {C f : Addr} {fd : FuncData}
    (h : FnOk P w K mg base CX lv f fd ps sp) (hc : mg nm = some (.ref C)) (hm : Mk K C f) (b : Binds K fd ps []) : CalleeI P w K mg base CX lv nm ps sp := ⟨⟨f, fd, h, by rw [ca_of hc]; exact hm, b⟩⟩
section
variable {K : PySem.W.Frag} {σ : L2.St} {H : Hp} {Q : VK} {ta tv : TE} {t : TA} {f m : Str} {p C dx : Addr} {fs : List (Str × V)} {v : V} {D : Ends} {sp : Sp} {dvs : List V} {E : XK} {mg : MG} {nm : Str} {at' : List Str}
/-- steps -/
theorem fld (h : ta σ H fun x H1 => ∃ a C dx fs v, x = .ref a ∧ H1 a = some (.ins C dx fs) ∧ Cls K C ∧ NoAttr K C f ∧ fs.lookup f = some v ∧ Q v H1) : tFld K ta f σ H Q := h
theorem fldA (k : ClsOk K mg nm at') (hp : H p = some (.ins (ca mg nm) dx fs)) (hl : fs.lookup f = some v) (q : Q v H) (hm : f ∈ at' := by decide +kernel) :
    ∃ a C dx fs v, V.ref p = .ref a ∧ H a = some (.ins C dx fs) ∧ Cls K C ∧ NoAttr K C f ∧ fs.lookup f = some v ∧ Q v H := ⟨p, _, dx, fs, v, rfl, hp, k.c, k.n f hm, hl, q⟩
theorem sfld (h : tv σ H fun y H1 => ta σ H1 fun x H2 => ∃ a C dx fs, x = .ref a ∧ H2 a = some (.ins C dx fs) ∧ Cls K C ∧ NoAttr K C f ∧ fs.length < 1000 ∧ D.nx σ (upd H2 a (.ins C dx (putF f y fs)))) : sFld K ta tv f D σ H := h
theorem sfldA {R : Hp → Prop} (k : ClsOk K mg nm at') (hp : H p = some (.ins (ca mg nm) dx fs)) (hl : fs.length < 1000) (q : R (upd H p (.ins (ca mg nm) dx (putF f v fs)))) (hm : f ∈ at' := by decide +kernel) :
    ∃ a C dx fs, V.ref p = .ref a ∧ H a = some (.ins C dx fs) ∧ Cls K C ∧ NoAttr K C f ∧ fs.length < 1000 ∧ R (upd H a (.ins C dx (putF f v fs))) := ⟨p, _, dx, fs, rfl, hp, k.c, k.n f hm, hl, q⟩
theorem meth (h : ta σ H fun x H1 => ∃ a dx fs, x = .ref a ∧ H1 a = some (.ins C dx fs) ∧ fs.lookup m = none ∧ t σ H1 fun vs H2 => sp (x :: (vs ++ dvs)) H2 Q E) : tMeth C m sp dvs E ta t σ H Q := h
theorem methA {R : Hp → Prop} (hp : H p = some (.ins C dx fs)) (hl : fs.lookup m = none) (q : R H) : ∃ a dx fs, V.ref p = .ref a ∧ H a = some (.ins C dx fs) ∧ fs.lookup m = none ∧ R H := ⟨p, dx, fs, rfl, hp, hl, q⟩
theorem make (h : t σ H fun vs H1 => ∀ x dx, H1 x = none → H1 dx = none → dx ≠ x → sp (.ref x :: (vs ++ dvs)) (upd (upd H1 dx (.own x)) x (.ins C dx [])) (fun v H2 => v = .non ∧ Q (.ref x) H2) E) : tMake C sp dvs E t σ H Q := h
end
theorem same_made {H : Hp} {x dx C : Addr} (nx : H x = none) (nd : H dx = none) : Same H (upd (upd H dx (.own x)) x (.ins C dx [])) := fun b o e => by
  rw [upd_ne (ne_of_none e nx), upd_ne (ne_of_none e nd)]
  exact e
/-! ### list of a text -/
def rListS : List V → Hp → VK → Prop := fun xs H Q => ∃ l : List Nat, xs = [.str (SX.S l)] ∧ l.length ≤ sizeLine ∧ ∀ p, H p = none → Q (.ref p) (upd H p (.lst ((l.map fun c => SX.S [c]).map V.str)))
theorem signs_vals {l : List Nat} {acc : Array Value} (h : ItemsOf (SignAt (SX.S l)) acc (SX.S l).cps.size) : Vals ((l.map fun c => SX.S [c]).map V.str) acc.toList := by
  obtain ⟨h1, h2⟩ := h
  have hs : (SX.S l).cps.size = l.length := by simp [SX.S]
  rw [hs] at h1
  have g : ∀ (xs : List Nat) (us : List Value), xs.length = us.length → (∀ (j : Nat) (u : Value), us[j]? = some u → ∃ (c : Nat) (t : Tok), xs[j]? = some c ∧ u = .str ⟨#[c]⟩ t) → Vals ((xs.map fun c => SX.S [c]).map V.str) us := by
    intro xs
    induction xs with
    | nil =>
      intro us hl _
      have : us = [] := List.length_eq_zero_iff.mp hl.symm
      subst this
      exact .nil
    | cons x xs ih =>
      intro us hl hu
      match us, hl, hu with
      | u :: us, hl, hu =>
        obtain ⟨c, t, hc, rfl⟩ := hu 0 u rfl
        cases hc
        exact .cons ⟨t, rfl⟩ (ih us (by simpa using hl) fun j u' hj => hu (j + 1) u' hj)
  refine g l acc.toList (h1.symm.trans Array.length_toList.symm) fun j u hj => ?_
  rw [Array.getElem?_toList] at hj
  obtain ⟨c, t, hc, e⟩ := h2 j u hj
  refine ⟨c, t, ?_, e⟩
  rw [← hc]; simp [SX.S]
theorem c_listS {X : Cx} (hc : X.calm = true) : CallR X (.type "list") rListS := by
  intro pins s σ H xs us Q I r h
  obtain ⟨l, rfl, hl, q⟩ := h
  obtain ⟨u, rfl, rx⟩ := vals1 r
  obtain ⟨t, rfl⟩ := rx
  have hz : (SX.S l).cps.size ≤ sizeLine := by
    have : (SX.S l).cps.size = l.length := by simp [SX.S]
    omega
  refine call_list_str (I.ok.hd hc) (SX.S l) t (fun h' tk acc' c' kp e hit => ?_) hz
  refine ⟨.ref s.heap.objs.size, _, I.laid (t' := tk) kp (Nat.le_refl _) (show ObjOk X.prog X.w _ h' _ (.lst ((l.map fun c => SX.S [c]).map V.str)) from ⟨?_, acc'.toList, c', signs_vals hit, ?_⟩), rfl, q _ (I.hok.fresh (Nat.le_refl _))⟩
  · rw [List.length_map, List.length_map]; exact hl
  · exact e
theorem listS {l : List Nat} {H : Hp} {Q : VK} (hl : l.length ≤ sizeLine) (q : ∀ p, H p = none → Q (.ref p) (upd H p (.lst ((l.map fun c => SX.S [c]).map V.str)))) : rListS [.str (SX.S l)] H Q := ⟨l, rfl, hl, q⟩
/-! ### xs[a:b] = ys -/
def gSl (to : TE) (tl th : TO) : TG := fun v σ H QS => to σ H fun o H1 => tl σ H1 fun a H2 => th σ H2 fun c H3 => ∃ (p b : Addr) (xs ys : List V) (i j : Int), o = .ref p ∧ a = some i ∧ c = some j ∧ v = .ref b ∧ H3 p = some (.lst xs) ∧ H3 b = some (.lst ys) ∧ p ≠ b ∧ 0 ≤ i ∧ i ≤ j ∧ j ≤ xs.length ∧ xs.length + ys.length ≤ sizeLine ∧
  QS σ (upd H3 p (.lst (xs.take i.toNat ++ ys ++ xs.drop j.toNat)))
theorem pg_sl {X : Cx} {o : Expr} {lo hi : Option Expr} {p2 pos : Pos} {to : TE} {tl th : TO} (ho : PE X o to) (hl : PO X lo tl) (hu : PO X hi th)
    (ha : ∀ v, assign (.Subscript o (.Slice lo hi none p2) pos) X.env v = (do
      let q ← holding [v] (eval o X.env)
      let z ← holding [v, q] (eval (.Slice lo hi none p2) X.env)
      standAt pos
      holding [v, q, z] (setItem q z v)
      release [z, v, q] []) := by intro _; rfl) : PG X (.Subscript o (.Slice lo hi none p2) pos) (gSl to tl th) := by
  refine ⟨fun pins s σ H v u Q I r h => ?_⟩
  rw [ha]
  refine wpAny_bind (wpAny_holding (thn (ho.run pins s σ H _ I h) fun ov s1 ⟨x, H1, I1, r1, q1⟩ => ?_))
  refine wpAny_bind (wpAny_holding (wpAny_Slice (thn (hl.run pins s1 σ H1 _ I1 q1) fun vl s2 ⟨l, H2, I2, pl, q2⟩ => thn (hu.run pins s2 σ H2 _ I2 q2) fun vu s3 ⟨w, H3, I3, pu, q3⟩ => ?_)))
  rw [evalPart_none]
  refine wpAny_pure ?_
  obtain ⟨p, b, xs, ys, i, j, e1, e2, e3, e4, h1, h2, n, b0, b1, b2, hz, q⟩ := q3
  subst e1 e2 e3 e4
  have I4 : Inv X pins σ H3 { s3 with heap := s3.heap.push { cls := .type "slice", data := .fields #[vl, vu, .none] } } := I3.kept (t' := s3.toks) fun _ _ e => Heap.get?_push_of_some _ e
  cases r1
  cases r
  have ri : RelV (.int i) vl := by cases pl; exact ⟨_, rfl⟩
  have rj : RelV (.int j) vu := by cases pu; exact ⟨_, rfl⟩
  refine wpAny_bind (wpAny_standAt (wpAny_bind (wpAny_holding (set_slice I4 h1 h2 n (Heap.IsSliceOf.new ..) ri rj b0 b1 b2 hz fun s' I5 => ?_))))
  exact wpAny_release ⟨σ, _, I5, q⟩
theorem gsl {to : TE} {tl th : TO} {v : V} {σ : L2.St} {H : Hp} {QS : L2.St → Hp → Prop} (h : to σ H fun o H1 => tl σ H1 fun a H2 => th σ H2 fun c H3 => ∃ (p b : Addr) (xs ys : List V) (i j : Int), o = .ref p ∧ a = some i ∧ c = some j ∧ v = .ref b ∧ H3 p = some (.lst xs) ∧ H3 b = some (.lst ys) ∧ p ≠ b ∧ 0 ≤ i ∧ i ≤ j ∧ j ≤ xs.length ∧ xs.length + ys.length ≤ sizeLine ∧
  QS σ (upd H3 p (.lst (xs.take i.toNat ++ ys ++ xs.drop j.toNat)))) : gSl to tl th v σ H QS := h
/-- a list's slice -/
theorem slL {K : PySem.W.Frag} {p : Addr} {xs : List V} {lo hi : Option Int} {H : Hp} {Q : VK} (h : SqL K H p xs) (q : ∀ a, H a = none → Q (.ref a) (upd H a (.lst (cutV xs lo hi)))) : rSlL K (.ref p) lo hi H Q := ⟨p, xs, rfl, h, q⟩
theorem cut_nat {xs : List V} {i j : Nat} (h : i ≤ j) (hj : j ≤ xs.length) : cutV xs (some (i : Int)) (some (j : Int)) = (xs.drop i).take (j - i) := by
  have e1 : HT.sIx xs.length 0 (some (i : Int)) = i := by
    show (if (i : Int) < 0 then ((i : Int) + (xs.length : Int)).toNat else min (i : Int).toNat xs.length) = i
    rw [if_neg (by omega)]; omega
  have e2 : HT.sIx xs.length xs.length (some (j : Int)) = j := by
    show (if (j : Int) < 0 then ((j : Int) + (xs.length : Int)).toNat else min (j : Int).toNat xs.length) = j
    rw [if_neg (by omega)]; omega
  unfold cutV
  rw [e1, e2]
/-- all(xs) -/
theorem allL {K : PySem.W.Frag} {p : Addr} {bs : List Bool} {H : Hp} {Q : VK} (h : SqL K H p (bs.map V.bl)) (q : Q (.bl (bs.all _root_.id)) H) : rAll K [.ref p] H Q := ⟨p, bs, rfl, h, q⟩
theorem lookS {f : Str} {v : V} : List.lookup f [(f, v)] = some v := by
  show (match f == f with | true => some v | false => _) = some v
  rw [beq_self_eq_true]
section
variable {K : PySem.W.Frag} {σ : L2.St} {H : Hp} {Q : VK} {ta : TE} {f m : Str} {p dx C : Addr} {fs : List (Str × V)} {v : V} {mg : MG} {nm : Str} {at' : List Str} {i : Nat} {sp : Sp} {dvs : List V} {E : XK} {t : TA}
theorem fldV (k : ClsOk K mg nm at') (hv : σ[i]? = some (some (.ref p))) (hp : H p = some (.ins (ca mg nm) dx fs)) (hl : fs.lookup f = some v) (hm : f ∈ at') (q : Q v H) : tFld K (tVar i) f σ H Q := ⟨.ref p, hv, p, _, dx, fs, v, rfl, hp, k.c, k.n f hm, hl, q⟩
theorem fldG (k : ClsOk K mg nm at') (hm : f ∈ at') (q : ta σ H fun x H1 => ∃ p dx fs v, x = .ref p ∧ H1 p = some (.ins (ca mg nm) dx fs) ∧ fs.lookup f = some v ∧ Q v H1) (mono : ∀ (R R' : VK), (∀ x H, R x H → R' x H) → ta σ H R → ta σ H R') : tFld K ta f σ H Q :=
  mono _ _ (fun x H1 ⟨p, dx, fs, v, e, hp, hl, q⟩ => ⟨p, _, dx, fs, v, e, hp, k.c, k.n f hm, hl, q⟩) q
theorem methV (hv : σ[i]? = some (some (.ref p))) (hp : H p = some (.ins C dx fs)) (hl : fs.lookup m = none) (q : t σ H fun vs H2 => sp (.ref p :: (vs ++ dvs)) H2 Q E) : tMeth C m sp dvs E (tVar i) t σ H Q := ⟨.ref p, hv, p, dx, fs, rfl, hp, hl, q⟩
end
end WP

namespace MD
open WP
/-- the least scale: zeros at the end are dropped -/
def nrm : Int → Nat → Int × Nat
  | u, 0 => (u, 0)
  | u, s + 1 => if u % 10 = 0 then nrm (u / 10) s else (u, s + 1)
theorem nrm_le : ∀ (s : Nat) (u : Int), (nrm u s).2 ≤ s
  | 0, u => Nat.le_refl _
  | s + 1, u => by
    unfold nrm
    split
    · exact Nat.le_succ_of_le (nrm_le s _)
    · exact Nat.le_refl _
theorem nrm_val : ∀ (s : Nat) (u : Int), (nrm u s).1 * 10 ^ (s - (nrm u s).2) = u
  | 0, u => by unfold nrm; simp
  | s + 1, u => by
    unfold nrm
    split
    · rename_i h
      have ih := nrm_val s (u / 10)
      have l := nrm_le s (u / 10)
      have e : s + 1 - (nrm (u / 10) s).2 = (s - (nrm (u / 10) s).2) + 1 := by omega
      rw [e, Int.pow_succ, ← Int.mul_assoc, ih]
      omega
    · simp
/-- a decimal: the scale is the least one -/
def Dec (u : Int) (s : Nat) : Prop := s = 0 ∨ u % 10 ≠ 0
theorem nrm_dec : ∀ (s : Nat) (u : Int), Dec (nrm u s).1 (nrm u s).2
  | 0, u => .inl rfl
  | s + 1, u => by
    unfold nrm
    split
    · exact nrm_dec s _
    · rename_i h; exact .inr h
theorem nrm_self {u : Int} {s : Nat} (h : Dec u s) : nrm u s = (u, s) := by
  cases s with
  | zero => rfl
  | succ s =>
    unfold nrm
    rcases h with h | h
    · cases h
    · rw [if_neg h]
theorem nrm_up : ∀ (m s : Nat) (u : Int), nrm (u * 10 ^ m) (s + m) = nrm u s
  | 0, s, u => by simp
  | m + 1, s, u => by
    have e : u * 10 ^ (m + 1) = u * 10 ^ m * 10 := by rw [Int.pow_succ, Int.mul_assoc]
    rw [← Nat.add_assoc, e]
    show (if (u * 10 ^ m * 10) % 10 = 0 then nrm (u * 10 ^ m * 10 / 10) (s + m) else _) = _
    rw [if_pos (Int.mul_emod_left _ _), Int.mul_ediv_cancel _ (by decide)]
    exact nrm_up m s u
theorem nrm_abs : ∀ (s : Nat) (u : Int), (nrm u s).1.natAbs ≤ u.natAbs
  | 0, u => Nat.le_refl _
  | s + 1, u => by
    unfold nrm
    split
    · have := nrm_abs s (u / 10)
      omega
    · exact Nat.le_refl _
theorem nrm_bt {u : Int} {s a : Nat} (h : Bt u a) : Bt (nrm u s).1 a := h.le (nrm_abs s u)
end MD
namespace MD
theorem nrm_eq (u : Int) (s : Nat) : (nrm u s).1 * 10 ^ s = u * 10 ^ (nrm u s).2 := by
  have h := nrm_val s u
  have l := nrm_le s u
  have e : (10 : Int) ^ s = 10 ^ (s - (nrm u s).2) * 10 ^ (nrm u s).2 := by rw [← Int.pow_add]; congr 1; omega
  rw [e, ← Int.mul_assoc, h]
end MD

namespace MQ
/-- above / below, cut off or rounded -/
def qsz (a b : Nat) (r : Bool) : Nat := if r = true ∧ b ≤ 2 * (a % b) then a / b + 1 else a / b
def quot (x y : Int) (r : Bool) : Int := if decide (x < 0) != decide (y < 0) then -(qsz x.natAbs y.natAbs r : Int) else (qsz x.natAbs y.natAbs r : Int)
/-- q is due for x / y -/
structure Right (q x y : Int) (r : Bool) : Prop where
  sg : q ≠ 0 → decide (q < 0) = (decide (x < 0) != decide (y < 0))
  ct : r = false → q.natAbs * y.natAbs ≤ x.natAbs ∧ x.natAbs < (q.natAbs + 1) * y.natAbs
  rd : r = true → 2 * q.natAbs * y.natAbs ≤ 2 * x.natAbs + y.natAbs ∧ 2 * x.natAbs < (2 * q.natAbs + 1) * y.natAbs
theorem quot_abs (x y : Int) (r : Bool) : (quot x y r).natAbs = qsz x.natAbs y.natAbs r := by
  unfold quot; split <;> omega
theorem right_quot {x y : Int} {r : Bool} (h : y ≠ 0) : Right (quot x y r) x y r := by
  have hy : 0 < y.natAbs := by omega
  have e := Nat.div_add_mod x.natAbs y.natAbs
  have l := Nat.mod_lt x.natAbs hy
  refine ⟨fun hq => ?_, fun hr => ?_, fun hr => ?_⟩
  · have : qsz x.natAbs y.natAbs r ≠ 0 := by
      intro z; apply hq; unfold quot; rw [z]; split <;> rfl
    unfold quot
    split
    · rename_i c
      rw [c]; exact decide_eq_true (by omega)
    · rename_i c
      rw [Bool.not_eq_true] at c
      rw [c]; exact decide_eq_false (by omega)
  · rw [quot_abs]; unfold qsz; rw [if_neg (by rw [hr]; simp)]
    rw [Nat.mul_comm] at e
    rw [Nat.add_mul]; omega
  · rw [quot_abs]; unfold qsz
    rw [Nat.mul_comm] at e
    split
    · rename_i c
      constructor
      · rw [Nat.mul_assoc, Nat.add_mul]; omega
      · rw [show (2 * (x.natAbs / y.natAbs + 1) + 1) * y.natAbs = 2 * (x.natAbs / y.natAbs * y.natAbs) + 3 * y.natAbs by rw [show 2 * (x.natAbs / y.natAbs + 1) + 1 = 2 * (x.natAbs / y.natAbs) + 3 by omega, Nat.add_mul, Nat.mul_assoc]]
        omega
    · rename_i c
      have c2 : ¬ y.natAbs ≤ 2 * (x.natAbs % y.natAbs) := fun z => c ⟨hr, z⟩
      constructor
      · rw [Nat.mul_assoc]; omega
      · rw [Nat.add_mul, Nat.mul_assoc]; omega
theorem right_scale {q x y c : Int} {r : Bool} (hc : 0 < c) (h : Right q x y r) : Right q (x * c) (y * c) r := by
  have s : ∀ z : Int, decide (z * c < 0) = decide (z < 0) := fun z => by
    by_cases k : z < 0
    · rw [decide_eq_true k, decide_eq_true (Int.mul_neg_of_neg_of_pos k hc)]
    · rw [decide_eq_false k, decide_eq_false (Int.not_lt.mpr (Int.mul_nonneg (Int.not_lt.mp k) (Int.le_of_lt hc)))]
  have hp : 0 < c.natAbs := by omega
  refine ⟨fun hq => by rw [s, s]; exact h.sg hq, fun hr => ?_, fun hr => ?_⟩
  · obtain ⟨a, b⟩ := h.ct hr
    rw [Int.natAbs_mul, Int.natAbs_mul, ← Nat.mul_assoc, ← Nat.mul_assoc]
    exact ⟨Nat.mul_le_mul_right _ a, Nat.mul_lt_mul_of_pos_right b hp⟩
  · obtain ⟨a, b⟩ := h.rd hr
    rw [Int.natAbs_mul, Int.natAbs_mul, ← Nat.mul_assoc, ← Nat.mul_assoc, ← Nat.mul_assoc, ← Nat.add_mul]
    exact ⟨Nat.mul_le_mul_right _ a, Nat.mul_lt_mul_of_pos_right b hp⟩
theorem right_exact {q y : Int} {r : Bool} (hy : 0 < y) : Right q (q * y) y r := by
  have hp : 0 < y.natAbs := by omega
  refine ⟨fun hq => ?_, fun hr => ?_, fun hr => ?_⟩
  · rw [show decide (y < 0) = false from decide_eq_false (by omega)]
    by_cases k : q < 0
    · rw [decide_eq_true k, decide_eq_true (Int.mul_neg_of_neg_of_pos k hy)]; rfl
    · rw [decide_eq_false k, decide_eq_false (Int.not_lt.mpr (Int.mul_nonneg (Int.not_lt.mp k) (Int.le_of_lt hy)))]; rfl
  · rw [Int.natAbs_mul, Nat.add_mul]; omega
  · rw [Int.natAbs_mul, Nat.add_mul, Nat.mul_assoc]; omega
end MQ

namespace MP
open PySem PySem.Spec PyProof.Rows L2
open SX (S)
/-- a picture with digits: a number picture or an edited one -/
inductive Pic where
  | num (sg : Bool) (w f : Nat)
  | ed (body : List Nat) (w f : Nat) (sign : List Nat)
def Pic.wh : Pic → Nat
  | .num _ w _ => w
  | .ed _ w _ _ => w
def Pic.fr : Pic → Nat
  | .num _ _ f => f
  | .ed _ _ f _ => f
def Pic.n (p : Pic) : Nat := p.wh + p.fr
def Pic.sgd : Pic → Bool
  | .num sg _ _ => sg
  | .ed _ _ _ s => !decide (s = [])
/-- the sign as the text is written -/
def Pic.sgn : Pic → List Nat
  | .num sg _ _ => if sg then [43] else []
  | .ed _ _ _ s => s
def Pic.vs : Pic → List V
  | .num sg w f => [.str (S [110, 117, 109, 98, 101, 114]), .bl sg, .int (w : Int), .int (f : Int)]
  | .ed b w f s => [.str (S [101, 100, 105, 116, 101, 100]), .str (S b), .int (w : Int), .int (f : Int), .str (S s)]
/-- z * 9 -/
def isD (c : Nat) : Bool := c == 122 || c == 42 || c == 57
/-- , b 0 / -/
def isI (c : Nat) : Bool := c == 44 || c == 98 || c == 48 || c == 47
def okM (c : Nat) : Bool := isD c || c == 46 || isI c
def signs : List (List Nat) := [[], [45], [43], [46, 45], [46, 43], [99, 114], [100, 98]]
structure Body (b : List Nat) (n : Nat) : Prop where
  hd : ∃ c r, b = c :: r ∧ isD c = true
  ok : ∀ c ∈ b, okM c = true
  ct : (b.filter isD).length = n
  ln : b.length ≤ 60
def Pic.Ok : Pic → Prop
  | .num _ w f => 1 ≤ w + f ∧ w + f ≤ 18
  | .ed b w f s => 1 ≤ w + f ∧ w + f ≤ 18 ∧ Body b (w + f) ∧ s ∈ signs
theorem Pic.Ok.n1 {p : Pic} (h : p.Ok) : 1 ≤ p.n ∧ p.n ≤ 18 := by
  cases p with
  | num sg w f => exact h
  | ed b w f s => exact ⟨h.1, h.2.1⟩
/-- what an inserted mark becomes -/
def insM (c : Nat) : Nat := if c = 98 then 32 else c
def bodyF (fill : Nat) : Bool → List Nat → List Nat → List Nat
  | _, [], _ => []
  | hid, m :: ms, fs =>
    if isD m then
      (match fs with
      | [] => []
      | c :: cs => let h := hid && (!(m == 57)) && (c == 48); (if h then fill else c) :: bodyF fill h ms cs)
    else if m = 46 then 46 :: bodyF fill false ms fs
    else (if hid then fill else insM m) :: bodyF fill hid ms fs
def hd (b : List Nat) : Nat := b.headD 0
def fillOf (b : List Nat) : Nat := if hd b = 42 then 42 else 32
def bodyText (b fs : List Nat) : List Nat := bodyF (fillOf b) (!(hd b == 57)) b fs
def signText (s : List Nat) (neg : Bool) : List Nat :=
  if s = [99, 114] then (if neg then [67, 82] else [32, 32]) else if s = [100, 98] then (if neg then [68, 66] else [32, 32])
  else if s = [] then [] else if neg then [45] else if s = [43] ∨ s = [46, 43] then [43] else [32]
/-- the text of a field -/
def writ : Pic → Int → List Nat
  | .num sg w f, u => signText (if sg then [43] else []) (decide (u < 0)) ++ WP.padL (w + f) u.natAbs
  | .ed b w f s, u => if s = [45] ∨ s = [43] then signText s (decide (u < 0)) ++ bodyText b (WP.padL (w + f) u.natAbs) else bodyText b (WP.padL (w + f) u.natAbs) ++ signText s (decide (u < 0))
def Suits (p : Pic) (u : Int) : Prop := u.natAbs < 10 ^ p.n ∧ (0 ≤ u ∨ p.sgd = true)
instance {p : Pic} {u : Int} : Decidable (Suits p u) := by unfold Suits; infer_instance
end MP
namespace MP
theorem drop_some {l : List Nat} {i c : Nat} (h : l[i]? = some c) : l.drop i = c :: l.drop (i + 1) := by
  obtain ⟨hi, e⟩ := List.getElem?_eq_some_iff.mp h
  rw [List.drop_eq_getElem_cons hi, e]
theorem memD (c : Nat) : decide ([c] ∈ [[122], [42], [57]]) = isD c := by
  unfold isD
  by_cases h1 : c = 122
  · subst h1; rfl
  by_cases h2 : c = 42
  · subst h2; rfl
  by_cases h3 : c = 57
  · subst h3; rfl
  rw [decide_eq_false (by simp [h1, h2, h3])]
  simp [h1, h2, h3]
theorem memH {c : Nat} (h : isD c = true) : decide ([c] ∈ [[122], [42]]) = !(c == 57) := by
  have h' : c = 122 ∨ c = 42 ∨ c = 57 := by simpa [isD, or_assoc] using h
  rcases h' with rfl | rfl | rfl <;> rfl
theorem bodyF_D {fill m : Nat} {hid : Bool} {ms cs : List Nat} {c : Nat} (h : isD m = true) : bodyF fill hid (m :: ms) (c :: cs) = (if (hid && (!(m == 57)) && (c == 48)) = true then fill else c) :: bodyF fill (hid && (!(m == 57)) && (c == 48)) ms cs := by
  rw [bodyF, if_pos h]
theorem bodyF_P {fill : Nat} {hid : Bool} {ms fs : List Nat} : bodyF fill hid (46 :: ms) fs = 46 :: bodyF fill false ms fs := by
  conv => lhs; unfold bodyF
  show (if isD 46 = true then _ else if (46 : Nat) = 46 then _ else _) = _
  rw [if_neg (by decide), if_pos rfl]
theorem bodyF_I {fill m : Nat} {hid : Bool} {ms fs : List Nat} (h : isD m = false) (h2 : m ≠ 46) : bodyF fill hid (m :: ms) fs = (if hid = true then fill else insM m) :: bodyF fill hid ms fs := by
  conv => lhs; unfold bodyF
  show (if isD m = true then _ else if m = 46 then _ else _) = _
  rw [if_neg (by rw [h]; decide), if_neg h2]
end MP
namespace MP
def bodies : List (List Nat) := [[122, 122, 57], [122, 122, 122], [122, 57], [57], [42, 42, 42], [42, 42, 57], [122, 122, 44, 122, 122, 57], [42, 42, 44, 42, 42, 42], [57, 57, 47, 57, 57], [122, 44, 122, 122, 57, 98, 57], [57, 98, 57], [122, 48, 122], [57, 57], [122, 98, 57]]
theorem bodies_ok : ∀ b ∈ bodies, ∀ f < 4, (b ++ [46] ++ [57, 57, 57].take f).head?.any isD = true ∧ (b ++ [46] ++ [57, 57, 57].take f).all okM = true ∧ (b ++ [46] ++ [57, 57, 57].take f).length ≤ 60 ∧
    ((b ++ [46] ++ [57, 57, 57].take f).filter isD).length = (b.filter isD).length + f ∧ 1 ≤ (b.filter isD).length ∧ (b.filter isD).length ≤ 5 ∧ b.head?.any isD = true ∧ b.all okM = true ∧ b.length ≤ 60 := by decide
theorem body_of {b : List Nat} {n : Nat} (h1 : b.head?.any isD = true) (h2 : b.all okM = true) (h3 : b.length ≤ 60) (h4 : (b.filter isD).length = n) : Body b n := by
  refine ⟨?_, fun c hc => List.all_eq_true.mp h2 c hc, h4, h3⟩
  cases b with
  | nil => cases h1
  | cons c r => exact ⟨c, r, rfl, h1⟩
theorem memI (c : Nat) : decide (c ∈ [122, 42, 57]) = isD c := by
  rw [← memD]
  congr 1
  simp
end MP
namespace MP
open PySem PySem.Spec PyProof.Rows L2
open SX (S)
theorem at_w (p : Pic) : atI p.vs (2 : Int) = some (.int (p.wh : Int)) := by cases p <;> exact WP.at2
theorem at_f (p : Pic) : atI p.vs (3 : Int) = some (.int (p.fr : Int)) := by cases p <;> exact WP.at3
/-- picture[1] if picture[0] == 'number' else picture[4] != '' -/
theorem sgdE {K : PySem.W.Frag} {σ : L2.St} {H : Hp} {Q : VK} {i : Nat} {p : Addr} {pic : Pic} (hv : σ[i]? = some (some (.ref p))) (hp : SqT K H p pic.vs) (q : Q (.bl pic.sgd) H) :
    tIf (tTest (tOp rEq (tOp (rIxT K) (tVar i) (tC (.int 0))) (tC (.str (S [110, 117, 109, 98, 101, 114]))))) (tOp (rIxT K) (tVar i) (tC (.int 1))) (tOp rNe (tOp (rIxT K) (tVar i) (tC (.int 4))) (tC (.str (S [])))) σ H Q := by
  refine WP.ifE (WP.test (WP.op (WP.op (WP.var hv (WP.con ?_)))))
  cases pic with
  | num sg a b =>
    refine WP.ixT hp WP.at0 (WP.con (WP.eqTS ?_))
    refine WP.isbV (R := fun b => if b = true then _ else _) ?_
    refine WP.brT (by decide) (WP.op (WP.var hv (WP.con (WP.ixT hp WP.at1 q))))
  | ed m a b s =>
    refine WP.ixT hp WP.at0 (WP.con (WP.eqTS ?_))
    refine WP.isbV (R := fun b => if b = true then _ else _) ?_
    refine WP.brF (by decide) (WP.op (WP.op (WP.var hv (WP.con (WP.ixT hp WP.at4 (WP.con (WP.neTS q)))))))
theorem ten_cast (n : Nat) : ((10 ^ n : Nat) : Int) = (10 : Int) ^ n := by rw [Int.natCast_pow]; rfl
theorem suits_abs {pic : Pic} {u : Int} (h0 : 0 ≤ u) (h : u < 10 ^ pic.n) : Suits pic u := ⟨by have := ten_cast pic.n; omega, .inl h0⟩
end MP
namespace MP
theorem memJ (c : Nat) : decide (c ∈ [44, 98, 48, 47]) = isI c := by
  unfold isI
  by_cases h1 : c = 44
  · subst h1; rfl
  by_cases h2 : c = 98
  · subst h2; rfl
  by_cases h3 : c = 48
  · subst h3; rfl
  by_cases h4 : c = 47
  · subst h4; rfl
  rw [decide_eq_false (by simp [h1, h2, h3, h4])]
  simp [h1, h2, h3, h4]
theorem bodyF_lt (fill : Nat) (hf : fill < 128) : ∀ (ms : List Nat) (hid : Bool) (fs : List Nat), (∀ c ∈ ms, okM c = true) → (∀ c ∈ fs, c < 128) → ∀ c ∈ bodyF fill hid ms fs, c < 128
  | [], hid, fs, _, _, c, hc => by unfold bodyF at hc; cases hc
  | m :: ms, hid, fs, h1, h2, c, hc => by
    have ok := h1 m (.head _)
    have h1' : ∀ c ∈ ms, okM c = true := fun c hc => h1 c (.tail _ hc)
    cases hD : isD m with
    | true =>
      cases fs with
      | nil =>
        unfold bodyF at hc
        rw [if_pos hD] at hc
        cases hc
      | cons d ds =>
        rw [bodyF_D hD] at hc
        have h2' : ∀ c ∈ ds, c < 128 := fun c hc => h2 c (.tail _ hc)
        rcases List.mem_cons.mp hc with e | e
        · rw [e]
          split
          · exact hf
          · exact h2 d (.head _)
        · exact bodyF_lt fill hf ms _ ds h1' h2' c e
    | false =>
      by_cases h46 : m = 46
      · subst h46
        rw [bodyF_P] at hc
        rcases List.mem_cons.mp hc with e | e
        · rw [e]; decide
        · exact bodyF_lt fill hf ms _ fs h1' h2 c e
      · rw [bodyF_I hD h46] at hc
        rcases List.mem_cons.mp hc with e | e
        · rw [e]
          split
          · exact hf
          · have hI : m = 44 ∨ m = 98 ∨ m = 48 ∨ m = 47 := by
              have : (m == 46) = false := beq_eq_false_iff_ne.mpr h46
              simpa [okM, hD, this, isI, or_assoc] using ok
            rcases hI with rfl | rfl | rfl | rfl <;> decide
        · exact bodyF_lt fill hf ms _ fs h1' h2 c e
theorem padL_lt : ∀ (k n c : Nat), c ∈ WP.padL k n → c < 128
  | 0, _, _, h => by cases h
  | k + 1, n, c, h => by
    rcases List.mem_append.mp (show c ∈ WP.padL k (n / 10) ++ [48 + n % 10] from h) with e | e
    · exact padL_lt k _ c e
    · rw [List.mem_singleton.mp e]; omega
theorem signText_lt : ∀ s ∈ signs, ∀ neg : Bool, ∀ c ∈ signText s neg, c < 128 := by decide
theorem writ_ok {pic : Pic} {u : Int} (h : pic.Ok) : WP.SOk (SX.S (writ pic u)) := WP.sok_S fun c hc => by
  have : c < 128 := by
    cases pic with
    | num sg w f =>
      rcases List.mem_append.mp (show c ∈ signText (if sg then [43] else []) (decide (u < 0)) ++ WP.padL (w + f) u.natAbs from hc) with e | e
      · refine signText_lt _ ?_ _ c e
        cases sg
        · exact (show ([] : List Nat) ∈ signs by decide)
        · exact (show ([43] : List Nat) ∈ signs by decide)
      · exact padL_lt _ _ c e
    | ed b w f s =>
      have hb : ∀ c ∈ bodyText b (WP.padL (w + f) u.natAbs), c < 128 := bodyF_lt _ (by unfold fillOf; split <;> decide) _ _ _ h.2.2.1.ok (fun c hc => padL_lt _ _ c hc)
      have hs := signText_lt s h.2.2.2 (decide (u < 0))
      have hc' : c ∈ (if s = [45] ∨ s = [43] then signText s (decide (u < 0)) ++ bodyText b (WP.padL (w + f) u.natAbs) else bodyText b (WP.padL (w + f) u.natAbs) ++ signText s (decide (u < 0))) := hc
      split at hc'
      · rcases List.mem_append.mp hc' with e | e
        · exact hs c e
        · exact hb c e
      · rcases List.mem_append.mp hc' with e | e
        · exact hb c e
        · exact hs c e
  omega
end MP
namespace MP
theorem due_eq {pic : Pic} {u : Int} : (decide ((u.natAbs : Int) < 10 ^ pic.n) && (decide (0 ≤ u) || pic.sgd)) = decide (Suits pic u) := by
  have c := ten_cast pic.n
  have e : ((u.natAbs : Int) < 10 ^ pic.n) ↔ u.natAbs < 10 ^ pic.n := by omega
  rw [Bool.eq_iff_iff, Bool.and_eq_true, Bool.or_eq_true, decide_eq_true_eq, decide_eq_true_eq, decide_eq_true_eq]
  unfold Suits
  rw [e]
end MP

namespace MP
theorem suits_cut {pic : Pic} {u : Int} : Suits pic (if u < 0 ∧ pic.sgd = true then -((u.natAbs : Int) % 10 ^ pic.n) else (u.natAbs : Int) % 10 ^ pic.n) := by
  have c := ten_cast pic.n
  have hT : (0 : Int) < 10 ^ pic.n := Int.pow_pos (by decide)
  have h0 := Int.emod_nonneg (u.natAbs : Int) (show (10 : Int) ^ pic.n ≠ 0 by omega)
  have h1 := Int.emod_lt_of_pos (u.natAbs : Int) hT
  generalize (u.natAbs : Int) % 10 ^ pic.n = x at h0 h1 ⊢
  split
  · rename_i h
    exact ⟨by omega, .inr h.2⟩
  · exact ⟨by omega, .inl h0⟩
end MP

namespace MW
open PySem PySem.Spec PyProof.Rows L2
open SX (S)
def FIG : List Nat := [48, 49, 50, 51, 52, 53, 54, 55, 56, 57]
def LET : List Nat := [97, 98, 99, 100, 101, 102, 103, 104, 105, 106, 107, 108, 109, 110, 111, 112, 113, 114, 115, 116, 117, 118, 119, 120, 121, 122]
/-- the printable signs -/
def PRN : List Nat := [32, 33, 34, 35, 36, 38, 39, 40, 41, 42, 43, 44, 45, 46, 47, 48, 49, 50, 51, 52, 53, 54, 55, 56, 57, 58, 59, 60, 61, 62, 63, 64, 65, 66, 67, 68, 69, 70, 71, 72, 73, 74, 75, 76, 77, 78, 79, 80, 81, 82, 83, 84, 85, 86, 87, 88, 89, 90, 91, 92, 93, 94, 95, 96, 97, 98, 99, 100, 101, 102, 103, 104, 105, 106, 107, 108, 109, 110, 111, 112, 113, 114, 115, 116, 117, 118, 119, 120, 121, 122, 123, 124, 125, 126]
def allIn (l cs : List Nat) : Bool := l.all fun c => decide (c ∈ cs)
def figs (l : List Nat) : Bool := !decide (l = []) && allIn l FIG
def prn (l : List Nat) : Bool := l.all fun c => decide (32 ≤ c ∧ c ≤ 126 ∧ c ≠ 37)
theorem allIn_nil (cs : List Nat) : allIn [] cs = true := rfl
theorem figs_all {l : List Nat} (h : figs l = true) : l ≠ [] ∧ l.all (fun c => decide (48 ≤ c) && decide (c ≤ 57)) = true := by
  unfold figs at h
  rw [Bool.and_eq_true, Bool.not_eq_true', decide_eq_false_iff_not] at h
  refine ⟨h.1, List.all_eq_true.mpr fun c hc => ?_⟩
  have := List.all_eq_true.mp h.2 c hc
  have m : c ∈ FIG := of_decide_eq_true this
  have : c = 48 ∨ c = 49 ∨ c = 50 ∨ c = 51 ∨ c = 52 ∨ c = 53 ∨ c = 54 ∨ c = 55 ∨ c = 56 ∨ c = 57 := by simpa [FIG] using m
  rw [Bool.and_eq_true, decide_eq_true_eq, decide_eq_true_eq]
  omega
/-- some value of the law: a text, or something else -/
inductive Wd (K : PySem.W.Frag) (H : Hp) : V → Prop
  | str {l : List Nat} (hl : l.length ≤ 1000) (ok : ∀ c ∈ l, c < 128) : Wd K H (.str (S l))
  | non : Wd K H .non
  | int (i : Int) : Wd K H (.int i)
  | bl (b : Bool) : Wd K H (.bl b)
  | tup {p : Addr} {xs : List V} (h : SqT K H p xs) : Wd K H (.ref p)
  | lst {p : Addr} {xs : List V} (h : SqL K H p xs) : Wd K H (.ref p)
theorem Wd.sm {K : PySem.W.Frag} {H H' : Hp} {v : V} (e : WP.Sm H H') (h : Wd K H v) : Wd K H' v := by
  cases h with
  | str hl ok => exact .str hl ok
  | non => exact .non
  | int i => exact .int i
  | bl b => exact .bl b
  | tup h => exact .tup (e.tup h)
  | lst h => exact .lst (e.lst h)
def isS : V → Bool
  | .str _ => true
  | _ => false
theorem tyL {K : PySem.W.Frag} {H : Hp} {p : Addr} {xs : List V} (h : SqL K H p xs) : TyX K H (.ref p) (.type "list") := by
  rcases h with (h | ⟨o, h⟩) | h
  · exact .base (.lst h)
  · exact .base (.frz h)
  · obtain ⟨o, its, n, h1, h2, h3⟩ := h
    exact .kList h1 h2
/-- isinstance(v, str) -/
theorem Wd.isStr {K : PySem.W.Frag} {H : Hp} {v : V} {Q : VK} (h : Wd K H v) (q : Q (.bl (isS v)) H) : rIsi K [v, .ty "str"] H Q := by
  cases h with
  | str hl ok => exact WP.isY (.base (.str _)) q
  | non => exact WP.isN (.base .non) q
  | int i => exact WP.isN (.base (.int i)) q
  | bl b => exact WP.isN (.base (.bl b)) q
  | tup h => exact WP.isN (WP.tyT h) q
  | lst h => exact WP.isN (tyL h) q
/-- what is asked of a text, False of another value -/
def onS (f : List Nat → Bool) : V → Bool
  | .str z => f z.cps.toList
  | _ => false
theorem onS_S {f : List Nat → Bool} {l : List Nat} : onS f (.str (S l)) = f l := rfl
theorem Wd.cases {K : PySem.W.Frag} {H : Hp} {v : V} (h : Wd K H v) : (∃ l, v = .str (S l) ∧ l.length ≤ 1000 ∧ ∀ c ∈ l, c < 128) ∨ (isS v = false ∧ ∀ f, onS f v = false) := by
  cases h with
  | str hl ok => exact .inl ⟨_, rfl, hl, ok⟩
  | _ => exact .inr ⟨rfl, fun _ => rfl⟩
/-- the reserved words -/
def RES : List (List Nat) := [[112, 114, 111, 103, 114, 97, 109], [100, 97, 116, 97], [102, 105, 108, 101, 115], [112, 114, 111, 99, 101, 100, 117, 114, 101], [112, 105, 99, 116, 117, 114, 101], [111, 99, 99, 117, 114, 115], [118, 97, 108, 117, 101], [105, 110, 112, 117, 116], [111, 117, 116, 112, 117, 116], [114, 101, 99, 111, 114, 100], [109, 111, 118, 101], [116, 111], [115, 101, 116], [114, 111, 117, 110, 100, 101, 100], [101, 108, 115, 101], [101, 110, 100], [100, 105, 118, 105, 100, 101], [98, 121], [103, 105, 118, 105, 110, 103], [114, 101, 109, 97, 105, 110, 100, 101, 114], [105, 102], [116, 104, 101, 110], [112, 101, 114, 102, 111, 114, 109], [116, 104, 114, 117], [116, 105, 109, 101, 115], [117, 110, 116, 105, 108], [118, 97, 114, 121, 105, 110, 103], [102, 114, 111, 109], [114, 101, 97, 100], [97, 116], [98, 97, 100], [119, 114, 105, 116, 101], [115, 104, 111, 119], [115, 111, 114, 116], [100, 101, 115, 99, 101, 110, 100, 105, 110, 103], [99, 108, 101, 97, 114], [115, 116, 111, 112], [110, 111, 116], [97, 110, 100], [111, 114], [100, 105, 103, 105, 116, 115], [116, 101, 120, 116]]
def nameB (l : List Nat) : Bool :=
  decide (1 ≤ l.length ∧ l.length ≤ 20) && (!decide (l ∈ RES) && (decide (l.headD 0 ∈ LET) && (!decide ((l.getLast?).getD 0 = 45) && allIn l (LET ++ FIG ++ [45]))))
theorem ends {l : List Nat} (h : 1 ≤ l.length) : atI l (0 : Int) = some (l.headD 0) ∧ atI l (-1 : Int) = some ((l.getLast?).getD 0) := by
  cases l with
  | nil => exact absurd h (by decide)
  | cons c r =>
    refine ⟨WP.at0, ?_⟩
    have e : ixN (c :: r).length (-1) = some r.length := by
      unfold ixN
      rw [if_neg (by decide)]
      rw [List.length_cons]
      first | (rw [if_pos (by omega)]; congr 1; omega) | (simp; omega)
    unfold atI
    rw [e]
    show (c :: r)[r.length]? = _
    have e2 : (c :: r).getLast? = (c :: r)[(c :: r).length - 1]? := List.getLast?_eq_getElem?
    rw [show (c :: r).length - 1 = r.length from rfl] at e2
    rw [← e2]
    simp [List.getLast?_cons]
theorem cps_S (l : List Nat) : (S l).cps.toList = l := rfl
theorem prn_codes (l : List Nat) : ((l.map fun c => ((c : Nat) : Int)).all fun c => decide ((32 : Int) ≤ c ∧ c ≤ 126 ∧ c ≠ 37)) = prn l := by
  unfold prn
  rw [List.all_map]
  congr 1
  funext c
  show decide _ = decide _
  congr 1
  exact propext ⟨fun (h : (32 : Int) ≤ (c : Int) ∧ (c : Int) ≤ 126 ∧ (c : Int) ≠ 37) => by omega, fun h => show (32 : Int) ≤ (c : Int) ∧ (c : Int) ≤ 126 ∧ (c : Int) ≠ 37 by omega⟩
theorem prn_in (l : List Nat) : allIn l PRN = prn l := by
  unfold allIn prn
  congr 1
  funext c
  congr 1
  refine propext ⟨fun h => ?_, fun ⟨h1, h2, h3⟩ => ?_⟩
  · have : ∀ c ∈ PRN, 32 ≤ c ∧ c ≤ 126 ∧ c ≠ 37 := by decide
    exact this c h
  · have : ∀ c < 127, 32 ≤ c → c ≠ 37 → c ∈ PRN := by decide
    exact this c (by omega) h1 h3
/-- the reserved words as data -/
def resD : List PyData := RES.map fun a => PyData.str (S a)
theorem dpAll_S {K : PySem.W.Frag} {H : Hp} : ∀ ls : List (List Nat), DpAll K H (ls.map fun a => V.str (S a)) (ls.map fun a => PyData.str (S a))
  | [] => .nil
  | _ :: r => .cons (.str _) (dpAll_S r)
theorem dpRes {K : PySem.W.Frag} (H : Hp) : DpAll K H (RES.map fun a => V.str (S a)) resD := dpAll_S RES
theorem resSh : SeqAt.shaped (.list resD) = true := by decide +kernel
theorem resLay : (PyData.list resD).canLay0 = true := by decide +kernel
end MW

namespace MT
open PySem PySem.Spec PyProof.Rows L2 MW
open SX (S)
/-! ### a text cut at the first sign c -/
def cutW (c : Nat) (l : List Nat) : List Nat := l.takeWhile (· != c)
def cutR (c : Nat) (l : List Nat) : Option (List Nat) := match l.dropWhile (· != c) with
  | [] => none
  | _ :: r => some r
theorem dw_head {c : Nat} : ∀ {l : List Nat} {x : Nat} {r : List Nat}, l.dropWhile (· != c) = x :: r → x = c
  | [], _, _, h => by cases h
  | y :: l, x, r, h => by
    by_cases e : y = c
    · subst e
      rw [List.dropWhile_cons_of_neg (by simp)] at h
      cases h; rfl
    · rw [List.dropWhile_cons_of_pos (by simp [e])] at h
      exact dw_head h
theorem cutW_free (c : Nat) (l : List Nat) : c ∉ cutW c l := fun h => by
  have := List.all_eq_true.mp (List.all_takeWhile (l := l) (p := (· != c))) c h
  simp at this
theorem cut_none {c : Nat} {l : List Nat} (h : cutR c l = none) : cutW c l = l ∧ c ∉ l := by
  have e := List.takeWhile_append_dropWhile (p := (· != c)) (l := l)
  have hd : l.dropWhile (· != c) = [] := by
    unfold cutR at h
    split at h
    · rename_i z; exact z
    · cases h
  rw [hd, List.append_nil] at e
  have e : cutW c l = l := e
  exact ⟨e, by have := cutW_free c l; rw [e] at this; exact this⟩
theorem cut_some {c : Nat} {l r : List Nat} (h : cutR c l = some r) : l = cutW c l ++ c :: r := by
  have e := List.takeWhile_append_dropWhile (p := (· != c)) (l := l)
  unfold cutR at h
  split at h
  · cases h
  · rename_i x r' z
    cases h
    rw [z, dw_head z] at e
    exact e.symm
theorem cut_of {c : Nat} : ∀ {p q : List Nat}, c ∉ p → cutW c (p ++ c :: q) = p ∧ cutR c (p ++ c :: q) = some q
  | [], q, _ => by
    unfold cutW cutR
    simp
  | x :: p, q, h => by
    have hx : x ≠ c := fun e => h (by rw [e]; exact List.mem_cons_self ..)
    obtain ⟨h1, h2⟩ := cut_of (q := q) (c := c) (p := p) fun m => h (List.mem_cons_of_mem _ m)
    unfold cutW cutR at *
    rw [List.cons_append, List.takeWhile_cons_of_pos (by simp [hx]), List.dropWhile_cons_of_pos (by simp [hx])]
    exact ⟨by rw [h1], h2⟩
theorem cut_of_none {c : Nat} {p : List Nat} (h : c ∉ p) : cutW c p = p ∧ cutR c p = none := by
  cases e : cutR c p with
  | none => exact ⟨(cut_none e).1, rfl⟩
  | some r =>
    have := cut_some e
    exact absurd (by rw [this]; exact List.mem_append_right _ (List.mem_cons_self ..)) h
/-- partition -/
theorem part_S (c : Nat) (l : List Nat) : Txt.partition (S l) (S [c]) = (S (cutW c l), S (match cutR c l with | none => [] | some _ => [c]), S ((cutR c l).getD [])) := by
  cases h : cutR c l with
  | none =>
    obtain ⟨e, n⟩ := cut_none h
    rw [SX.partition_none (List.cons_ne_nil _ _) (SX.par_head_none n), e]
    rfl
  | some r =>
    have e := cut_some h
    have n := cutW_free c l
    have q : TL.par [c] [] l = some (cutW c l, r) := (congrArg (TL.par [c] []) e).trans (SX.par_head r n)
    rw [SX.partition_some (List.cons_ne_nil _ _) q]
    rfl
/-- split -/
theorem spl_none {c : Nat} {l : List Nat} (h : cutR c l = none) : TL.spl [c] 0 [] l = [l] := by
  have := (cut_none h).2
  have q := TL.spl_last1 (S := []) (acc := []) this
  exact q
theorem spl_some {c : Nat} {l r : List Nat} (h : cutR c l = some r) : TL.spl [c] 0 [] l = cutW c l :: TL.spl [c] 0 [] r := by
  have e := cut_some h
  have n := cutW_free c l
  have q := TL.spl_part1 (S := []) (acc := []) (rest := r) n
  have key : ∀ p, l = p ++ c :: r → TL.spl [c] 0 [] (p ++ c :: r) = p :: TL.spl [c] 0 [] r → TL.spl [c] 0 [] l = p :: TL.spl [c] 0 [] r := fun p e q => by rw [e]; exact q
  exact key _ e q
theorem spl_ne {c : Nat} (l : List Nat) : 1 ≤ (TL.spl [c] 0 [] l).length := by
  cases h : cutR c l with
  | none => rw [spl_none h]; exact Nat.le_refl 1
  | some r => rw [spl_some h]; simp
theorem spl_count {c : Nat} (n : Nat) : ∀ l : List Nat, l.length ≤ n → (TL.spl [c] 0 [] l).length ≤ l.length + 1 := by
  induction n with
  | zero =>
    intro l h
    have : l = [] := List.length_eq_zero_iff.mp (by omega)
    subst this
    rw [TL.spl_nil]
    exact Nat.le_refl _
  | succ n ih =>
    intro l h
    cases e : cutR c l with
    | none => rw [spl_none e]; simp
    | some r =>
      have e2 := congrArg List.length (cut_some e)
      rw [List.length_append, List.length_cons] at e2
      rw [spl_some e, List.length_cons]
      have := ih r (by omega)
      omega
theorem spl_flat {c : Nat} (n : Nat) : ∀ l : List Nat, l.length ≤ n → (TL.spl [c] 0 [] l).flatten.length ≤ l.length := by
  induction n with
  | zero =>
    intro l h
    have : l = [] := List.length_eq_zero_iff.mp (by omega)
    subst this
    rw [TL.spl_nil]
    exact Nat.le_refl _
  | succ n ih =>
    intro l h
    cases e : cutR c l with
    | none => rw [spl_none e]; simp
    | some r =>
      have e2 := congrArg List.length (cut_some e)
      rw [List.length_append, List.length_cons] at e2
      rw [spl_some e, List.flatten_cons, List.length_append]
      have := ih r (by omega)
      omega
/-! ### what a text spells -/
def whole (l : List Nat) : Bool := figs l && (decide (l = [48]) || !decide (l.headD 0 = 48))
def sgn (neg : Bool) (n : Nat) : Int := if neg then -(n : Int) else (n : Int)
def spellB (neg : Bool) (w : List Nat) : Option (List Nat) → Option (Int × Nat)
  | none => if whole w = true ∧ w.length ≤ 18 then some (sgn neg (NumText.digitsVal w), 0) else none
  | some f => if whole w = true ∧ figs f = true ∧ w.length + f.length ≤ 18 then some (MD.nrm (sgn neg (NumText.digitsVal (w ++ f))) f.length) else none
theorem spellB_none {neg : Bool} {w : List Nat} : spellB neg w none = if whole w = true ∧ w.length ≤ 18 then some (sgn neg (NumText.digitsVal w), 0) else none := rfl
theorem spellB_some {neg : Bool} {w f : List Nat} : spellB neg w (some f) = if whole w = true ∧ figs f = true ∧ w.length + f.length ≤ 18 then some (MD.nrm (sgn neg (NumText.digitsVal (w ++ f))) f.length) else none := rfl
def isNeg (l : List Nat) : Bool := decide (l.head? = some 45)
def bodyOf (l : List Nat) : List Nat := if isNeg l = true then l.drop 1 else l
def spell (l : List Nat) : Option (Int × Nat) := spellB (isNeg l) (cutW 46 (bodyOf l)) (cutR 46 (bodyOf l))
theorem spl_filter {c : Nat} (n : Nat) : ∀ l : List Nat, l.length ≤ n → (TL.spl [c] 0 [] l).flatten = l.filter (fun x => !decide (x = c)) := by
  have keep : ∀ w : List Nat, c ∉ w → w.filter (fun x => !decide (x = c)) = w := fun w h => List.filter_eq_self.mpr fun x hx => by
    have : x ≠ c := fun e => h (by rw [← e]; exact hx)
    simp [this]
  induction n with
  | zero =>
    intro l h
    have : l = [] := List.length_eq_zero_iff.mp (by omega)
    subst this
    rw [TL.spl_nil]
    rfl
  | succ n ih =>
    intro l h
    cases e : cutR c l with
    | none =>
      rw [spl_none e, keep l (cut_none e).2]
      simp
    | some r =>
      have e1 := cut_some e
      have e2 := congrArg List.length e1
      rw [List.length_append, List.length_cons] at e2
      rw [spl_some e, List.flatten_cons, ih r (by omega)]
      have k := keep _ (cutW_free c l)
      have e3 := congrArg (List.filter (fun x => !decide (x = c))) e1
      rw [List.filter_append, k] at e3
      rw [e3, List.filter_cons]
      simp
theorem joinL0 : ∀ l : List (List Nat), TL.joinL [] l = l.flatten
  | [] => rfl
  | [p] => by simp [TL.joinL]
  | p :: q :: r => by rw [TL.joinL, joinL0 (q :: r)]; simp
/-- text.replace(c, '') -/
theorem repl_S {c : Nat} (hc : c < 256) (l : List Nat) : Txt.replace (S l) (S [c]) (S []) = S (l.filter (fun x => !decide (x = c))) := by
  have h := StrLaws.replace_one (S l) (S []) c
  have e : (⟨#[c]⟩ : Str) = S [c] := rfl
  rw [e] at h
  rw [h, SX.split_S (List.cons_ne_nil _ _) (by simpa using hc), ← TL.join_eq, SX.join_S, joinL0, spl_filter l.length l (Nat.le_refl _)]
/-! ### figures -/
theorem all_figs {l : List Nat} (h : NumText.AllDigits l) (ne : l ≠ []) : figs l = true := by
  unfold figs
  rw [decide_eq_false ne]
  refine List.all_eq_true.mpr fun c hc => decide_eq_true ?_
  have := h c hc
  have : c = 48 ∨ c = 49 ∨ c = 50 ∨ c = 51 ∨ c = 52 ∨ c = 53 ∨ c = 54 ∨ c = 55 ∨ c = 56 ∨ c = 57 := by omega
  simpa [FIG] using this
theorem numL_hd (n : Nat) : n = 0 ∨ (TL.numL n).headD 0 ≠ 48 := by
  induction n using Nat.strongRecOn with
  | ind n ih =>
    by_cases h : n < 10
    · rw [TL.numL_lt h]
      show n = 0 ∨ 48 + n ≠ 48
      omega
    · rw [TL.numL_step (by omega)]
      rcases ih (n / 10) (by omega) with e | e
      · omega
      · refine .inr ?_
        have ne := TL.numL_ne (n / 10)
        cases hx : TL.numL (n / 10) with
        | nil => exact absurd hx ne
        | cons a r => rw [hx] at e; exact e
theorem digits_zero (k : Nat) (l : List Nat) : NumText.digitsVal (List.replicate k 48 ++ l) = NumText.digitsVal l := by
  induction k with
  | zero => rfl
  | succ k ih => rw [List.replicate_succ, List.cons_append]; exact ih
theorem digits_app : ∀ l, NumText.AllDigits l → ∀ c ∈ l, 48 ≤ c ∧ c ≤ 57 := fun l h c hc => h c hc
end MT
namespace MT
open PySem PySem.Spec PyProof.Rows L2 MW
open SX (S)
/-- the figures of a decimal, and its text (as the program's show makes it) -/
def dF (u : Int) (s : Nat) : List Nat := List.replicate (s + 1 - (TL.numL u.natAbs).length) 48 ++ TL.numL u.natAbs
def dT (u : Int) (s : Nat) : List Nat := (if u < 0 then [45] else []) ++ (if s = 0 then dF u s else (dF u s).take ((dF u s).length - s) ++ [46] ++ (dF u s).drop ((dF u s).length - s))
theorem dF_dig (u : Int) (s : Nat) : NumText.AllDigits (dF u s) := fun c hc => by
  rcases List.mem_append.mp hc with h | h
  · rw [List.eq_of_mem_replicate h]; decide
  · exact TL.numL_digits _ c h
theorem dF_len (u : Int) (s : Nat) : s + 1 ≤ (dF u s).length := by
  have := List.length_pos_iff.mpr (TL.numL_ne u.natAbs)
  unfold dF
  rw [List.length_append, List.length_replicate]
  omega
theorem dF_val (u : Int) (s : Nat) : NumText.digitsVal (dF u s) = u.natAbs := by
  unfold dF
  rw [digits_zero, TL.numL_val]
/-- the part ahead of the point -/
theorem dF_whole (u : Int) (s : Nat) : whole ((dF u s).take ((dF u s).length - s)) = true := by
  have hl := dF_len u s
  have hn := List.length_pos_iff.mpr (TL.numL_ne u.natAbs)
  have ne : (dF u s).take ((dF u s).length - s) ≠ [] := fun e => by
    have := congrArg List.length e
    rw [List.length_take, List.length_nil] at this
    omega
  have dg : NumText.AllDigits ((dF u s).take ((dF u s).length - s)) := fun c hc => dF_dig u s c (List.mem_of_mem_take hc)
  unfold whole
  rw [all_figs dg ne, Bool.true_and, Bool.or_eq_true]
  by_cases h : (TL.numL u.natAbs).length ≤ s
  · left
    have e : (dF u s).length - s = 1 := by
      unfold dF
      rw [List.length_append, List.length_replicate]; omega
    rw [e]
    unfold dF
    obtain ⟨k, hk⟩ : ∃ k, s + 1 - (TL.numL u.natAbs).length = k + 1 := ⟨s - (TL.numL u.natAbs).length, by omega⟩
    rw [hk, List.replicate_succ]
    rfl
  · have e : dF u s = TL.numL u.natAbs := by
      unfold dF
      rw [show s + 1 - (TL.numL u.natAbs).length = 0 by omega]
      rfl
    rw [e]
    rcases numL_hd u.natAbs with z | z
    · left
      rw [z] at h ⊢
      have e0 : TL.numL 0 = [48] := TL.numL_lt (by decide)
      rw [e0] at h ⊢
      have : s = 0 := by have : ¬ (1 ≤ s) := h; omega
      subst this
      rfl
    · right
      obtain ⟨k, hk⟩ : ∃ k, (TL.numL u.natAbs).length - s = k + 1 := ⟨(TL.numL u.natAbs).length - s - 1, by omega⟩
      rw [hk]
      cases hx : TL.numL u.natAbs with
      | nil => exact absurd hx (TL.numL_ne _)
      | cons a r =>
        rw [hx] at z
        have z' : a ≠ 48 := z
        rw [List.take_succ_cons]
        show (!decide (a = 48)) = true
        rw [decide_eq_false z']; rfl
theorem dig_no {l : List Nat} (h : NumText.AllDigits l) {c : Nat} (hc : c < 48) : c ∉ l := fun m => by have := h c m; omega
theorem dT_neg (u : Int) (s : Nat) : isNeg (dT u s) = decide (u < 0) := by
  unfold isNeg dT
  by_cases h : u < 0
  · rw [if_pos h, decide_eq_true h]; rfl
  · rw [if_neg h, decide_eq_false h, List.nil_append]
    refine decide_eq_false fun e => ?_
    have hl := dF_len u s
    have m : (45 : Nat) ∈ dF u s := by
      split at e
      · exact List.mem_of_head? e
      · rename_i h0
        rw [List.append_assoc, List.head?_append] at e
        cases hx : ((dF u s).take ((dF u s).length - s)).head? with
        | none =>
          have : (dF u s).take ((dF u s).length - s) = [] := List.head?_eq_none_iff.mp hx
          have := congrArg List.length this
          rw [List.length_take, List.length_nil] at this
          omega
        | some a =>
          rw [hx] at e
          cases e
          exact List.mem_of_mem_take (List.mem_of_head? hx)
    exact dig_no (dF_dig u s) (by decide) m
theorem dT_body (u : Int) (s : Nat) : bodyOf (dT u s) = if s = 0 then dF u s else (dF u s).take ((dF u s).length - s) ++ 46 :: (dF u s).drop ((dF u s).length - s) := by
  unfold bodyOf
  rw [dT_neg]
  have e : ∀ a b : List Nat, a ++ [46] ++ b = a ++ 46 :: b := fun a b => by rw [List.append_assoc]; rfl
  by_cases h : u < 0
  · rw [if_pos (decide_eq_true h)]
    unfold dT
    rw [if_pos h, e]
    rfl
  · rw [if_neg (by rw [decide_eq_false h]; exact Bool.false_ne_true)]
    unfold dT
    rw [if_neg h, e]
    rfl
/-- the read-back -/
theorem spell_dT {u : Int} {s : Nat} (hd : MD.Dec u s) (hl : (dF u s).length ≤ 18) : spell (dT u s) = some (u, s) := by
  have hs : sgn (decide (u < 0)) u.natAbs = u := by
    unfold sgn
    by_cases h : u < 0
    · rw [if_pos (decide_eq_true h)]; omega
    · rw [if_neg (by rw [decide_eq_false h]; exact Bool.false_ne_true)]; omega
  unfold spell
  rw [dT_neg, dT_body]
  by_cases h0 : s = 0
  · subst h0
    rw [if_pos rfl]
    obtain ⟨e1, e2⟩ := cut_of_none (dig_no (dF_dig u 0) (show 46 < 48 by decide))
    rw [e1, e2]
    have hw := dF_whole u 0
    rw [Nat.sub_zero, List.take_length] at hw
    rw [spellB_none, if_pos ⟨hw, hl⟩, dF_val, hs]
  · rw [if_neg h0]
    obtain ⟨e1, e2⟩ := cut_of (c := 46) (p := (dF u s).take ((dF u s).length - s)) (q := (dF u s).drop ((dF u s).length - s)) fun m => dig_no (dF_dig u s) (show 46 < 48 by decide) (List.mem_of_mem_take m)
    rw [e1, e2]
    have len := dF_len u s
    have hf : figs ((dF u s).drop ((dF u s).length - s)) = true := all_figs (fun c hc => dF_dig u s c (List.mem_of_mem_drop hc)) fun e => by
      have := congrArg List.length e
      rw [List.length_drop, List.length_nil] at this
      omega
    rw [spellB_some, if_pos ⟨dF_whole u s, hf, by rw [List.length_take, List.length_drop]; omega⟩, List.take_append_drop, dF_val, hs, List.length_drop, show (dF u s).length - ((dF u s).length - s) = s by omega, MD.nrm_self hd]
/-- the figures alone -/
theorem dT_figs (u : Int) (s : Nat) : (((dT u s).filter (fun x => !decide (x = 45))).filter (fun x => !decide (x = 46))).length = (dF u s).length := by
  have key : ∀ l : List Nat, NumText.AllDigits l → (l.filter (fun x => !decide (x = 45))).filter (fun x => !decide (x = 46)) = l := fun l h => by
    rw [List.filter_filter]
    refine List.filter_eq_self.mpr fun x hx => ?_
    have := h x hx
    simp; omega
  have kd := dF_dig u s
  have e : ((dT u s).filter (fun x => !decide (x = 45))).filter (fun x => !decide (x = 46)) = dF u s := by
    unfold dT
    rw [List.filter_append, List.filter_append]
    have e1 : (((if u < 0 then [45] else [] : List Nat)).filter (fun x => !decide (x = 45))).filter (fun x => !decide (x = 46)) = [] := by split <;> rfl
    rw [e1, List.nil_append]
    split
    · exact key _ kd
    · rw [List.filter_append, List.filter_append, List.filter_append, List.filter_append, key _ (fun c hc => kd c (List.mem_of_mem_take hc)), key _ (fun c hc => kd c (List.mem_of_mem_drop hc))]
      rw [show ([46] : List Nat).filter (fun x => !decide (x = 45)) = [46] from rfl, show ([46] : List Nat).filter (fun x => !decide (x = 46)) = [] from rfl, List.append_nil, List.take_append_drop]
  rw [e]
end MT
namespace MT
open PySem PySem.Spec PyProof.Rows L2 MW
open SX (S)
theorem starts_S {c : Nat} {l : List Nat} : Txt.startswith (S l) (S [c]) = decide (l.head? = some c) := by
  unfold Txt.startswith
  have h := StrLaws.subAt_one (S l) c 0
  have e : (S l).cps.toList[0]? = l.head? := by rw [List.head?_eq_getElem?]
  rw [e] at h
  rw [Bool.eq_iff_iff, Bool.and_eq_true, decide_eq_true_eq, decide_eq_true_eq]
  exact h
theorem spell_def (l : List Nat) : spell l = spellB (isNeg l) (cutW 46 (bodyOf l)) (cutR 46 (bodyOf l)) := rfl
theorem body_len (l : List Nat) : (bodyOf l).length ≤ l.length := by
  unfold bodyOf
  split
  · rw [List.length_drop]; omega
  · exact Nat.le_refl _
theorem body_mem {l : List Nat} {c : Nat} (h : c ∈ bodyOf l) : c ∈ l := by
  unfold bodyOf at h
  split at h
  · exact List.mem_of_mem_drop h
  · exact h
theorem cutW_mem {k : Nat} {l : List Nat} {c : Nat} (h : c ∈ cutW k l) : c ∈ l := (List.takeWhile_sublist _).subset h
theorem cutR_mem {k : Nat} {l r : List Nat} (e : cutR k l = some r) {c : Nat} (h : c ∈ r) : c ∈ l := by
  rw [cut_some e]
  exact List.mem_append_right _ (List.mem_cons_of_mem _ h)
theorem cutR_len {k : Nat} {l r : List Nat} (e : cutR k l = some r) : (cutW k l).length + 1 + r.length = l.length := by
  have := congrArg List.length (cut_some e)
  rw [List.length_append, List.length_cons] at this
  omega
/-- figures == text -/
theorem body_eq (l : List Nat) : decide (bodyOf l = l) = !isNeg l := by
  unfold bodyOf
  cases h : isNeg l with
  | true =>
    rw [if_pos rfl]
    refine decide_eq_false fun e => ?_
    have h := of_decide_eq_true h
    cases l with
    | nil => cases h
    | cons a r => have := congrArg List.length e; simp at this
  | false => rw [if_neg Bool.false_ne_true]; exact decide_eq_true rfl
end MT
namespace MT
open PySem PySem.Spec PyProof.Rows L2 MW
open SX (S)
/-- more than one point -/
theorem not_figs {f : List Nat} {c : Nat} (h : c ∈ f) (hc : c < 48) : figs f = false := by
  cases e : figs f with
  | false => rfl
  | true =>
    have := List.all_eq_true.mp (figs_all e).2 c h
    rw [Bool.and_eq_true, decide_eq_true_eq] at this
    omega
theorem cutR_in {c : Nat} {l r : List Nat} (e : cutR c l = some r) : c ∈ l := by
  rw [cut_some e]
  exact List.mem_append_right _ (List.mem_cons_self ..)
theorem spl_len2 {c : Nat} (l : List Nat) : (TL.spl [c] 0 [] l).length = 1 ↔ cutR c l = none := by
  cases h : cutR c l with
  | none => rw [spl_none h]; simp
  | some r =>
    rw [spl_some h]
    have := spl_ne (c := c) r
    simp only [List.length_cons]
    exact ⟨fun e => by omega, fun e => by cases e⟩
/-- the law's reader, by the parts -/
def readP (neg : Bool) (ps : List (List Nat)) : Option (Int × Nat) :=
  if ps.length > 2 ∨ ps.flatten.length > 18 then none else
  if ps.all figs = false then none else
  if (ps.headD []).length > 1 ∧ (ps.headD []).headD 0 = 48 then none else
  some (MD.nrm (sgn neg (NumText.digitsVal ps.flatten)) (if ps.length = 2 then (ps.getD 1 []).length else 0))
theorem whole_iff (w : List Nat) : whole w = (figs w && !decide (w.length > 1 ∧ w.headD 0 = 48)) := by
  unfold whole
  cases hf : figs w with
  | false => rfl
  | true =>
    rw [Bool.true_and, Bool.true_and]
    have hne := (figs_all hf).1
    cases w with
    | nil => exact absurd rfl hne
    | cons a r =>
      cases r with
      | nil =>
        show (decide ([a] = [48]) || !decide (a = 48)) = !decide ((1 : Nat) > 1 ∧ a = 48)
        by_cases h : a = 48
        · subst h; rfl
        · rw [decide_eq_false (show ¬ [a] = [48] from fun e => h (by simpa using e)), decide_eq_false h, decide_eq_false (fun z => h z.2)]; rfl
      | cons b r =>
        show (decide (a :: b :: r = [48]) || !decide (a = 48)) = !decide ((a :: b :: r).length > 1 ∧ a = 48)
        rw [decide_eq_false (show ¬ a :: b :: r = [48] from fun e => by simp at e), Bool.false_or]
        congr 1
        congr 1
        exact propext ⟨fun h => ⟨by simp, h⟩, fun h => h.2⟩
theorem read_spell (neg : Bool) (b : List Nat) : spellB neg (cutW 46 b) (cutR 46 b) = readP neg (TL.spl [46] 0 [] b) := by
  cases h : cutR 46 b with
  | none =>
    rw [spl_none h, (cut_none h).1, spellB_none]
    unfold readP
    have e1 : [b].flatten = b := by simp
    have e2 : [b].all figs = figs b := by simp
    rw [e1, e2]
    show _ = if ((1 : Nat) > 2 ∨ b.length > 18) then none else _
    by_cases hl : b.length > 18
    · rw [if_neg (fun z => by have := z.2; omega), if_pos (.inr hl)]
    · rw [if_neg (show ¬ ((1 : Nat) > 2 ∨ b.length > 18) from fun z => z.elim (fun z => by omega) hl)]
      rw [whole_iff]
      cases hf : figs b with
      | false => rw [if_neg (fun z => by cases z.1), if_pos rfl]
      | true =>
        rw [if_neg (show ¬ (true = false) by simp)]
        show _ = if b.length > 1 ∧ b.headD 0 = 48 then none else some (MD.nrm (sgn neg (NumText.digitsVal b)) 0)
        by_cases hz : b.length > 1 ∧ b.headD 0 = 48
        · rw [if_neg (fun z => by rw [decide_eq_true hz] at z; cases z.1), if_pos hz]
        · rw [if_neg hz, if_pos ⟨by rw [decide_eq_false hz]; rfl, by omega⟩]
          rfl
  | some f =>
    rw [spl_some h, spellB_some]
    cases h2 : cutR 46 f with
    | some g =>
      rw [spl_some h2]
      have hn := not_figs (cutR_in h2) (by decide)
      rw [if_neg (fun z => by rw [hn] at z; cases z.2.1)]
      unfold readP
      rw [if_pos (.inl (by have := spl_ne (c := 46) g; simp only [List.length_cons]; omega))]
    | none =>
      rw [spl_none h2]
      unfold readP
      have e1 : [cutW 46 b, f].flatten = cutW 46 b ++ f := by simp
      have e2 : [cutW 46 b, f].all figs = (figs (cutW 46 b) && figs f) := by simp
      rw [e1, e2]
      show _ = if ((2 : Nat) > 2 ∨ (cutW 46 b ++ f).length > 18) then none else _
      generalize cutW 46 b = w
      rw [List.length_append]
      by_cases hl : w.length + f.length > 18
      · rw [if_neg (fun z => by have := z.2; omega), if_pos (.inr hl)]
      · rw [if_neg (show ¬ ((2 : Nat) > 2 ∨ w.length + f.length > 18) from fun z => z.elim (fun z => by omega) hl), whole_iff]
        cases hf : figs f with
        | false => rw [if_neg (fun z => by cases z.2.1), if_pos (by simp)]
        | true =>
          cases hw : figs w with
          | false => rw [if_neg (fun z => by cases z.1), if_pos (show (false && true) = false from rfl)]
          | true =>
            rw [if_neg (show ¬ ((true && true) = false) by simp)]
            show _ = if w.length > 1 ∧ w.headD 0 = 48 then none else some (MD.nrm (sgn neg (NumText.digitsVal (w ++ f))) f.length)
            by_cases hz : w.length > 1 ∧ w.headD 0 = 48
            · rw [if_neg (fun z => by rw [decide_eq_true hz] at z; cases z.1), if_pos hz]
            · rw [if_neg hz, if_pos ⟨by rw [decide_eq_false hz]; rfl, rfl, by omega⟩]
end MT
namespace MT
open PySem PySem.Spec PyProof.Rows L2 MW
open SX (S)
theorem repl_dash (l : List Nat) : Txt.replace (S l) ("-" : Str) ("" : Str) = S (l.filter (fun x => !decide (x = 45))) := by
  have e1 : ("-" : Str) = S [45] := by decide +kernel
  have e2 : ("" : Str) = S [] := by decide +kernel
  rw [e1, e2]; exact repl_S (by decide) l
theorem repl_dot (l : List Nat) : Txt.replace (S l) ("." : Str) ("" : Str) = S (l.filter (fun x => !decide (x = 46))) := by
  have e1 : ("." : Str) = S [46] := by decide +kernel
  have e2 : ("" : Str) = S [] := by decide +kernel
  rw [e1, e2]; exact repl_S (by decide) l
theorem empty_len : ("" : Str).length = 0 := by decide +kernel
theorem dF_le {u : Int} {s : Nat} (hu : u.natAbs ≤ 10 ^ 18) (hs : s ≤ 18) : (dF u s).length ≤ 19 := by
  have := TL.numL_len (k := 19) (by decide) (show u.natAbs < 10 ^ 19 from Nat.lt_of_le_of_lt hu (by decide))
  unfold dF
  rw [List.length_append, List.length_replicate]
  omega
theorem dT_ok {u : Int} {s : Nat} (hu : u.natAbs ≤ 10 ^ 18) (hs : s ≤ 18) : (dT u s).length ≤ 21 ∧ ∀ c ∈ dT u s, c < 128 := by
  have hl := dF_le hu hs
  have kd := dF_dig u s
  have kd' : ∀ c ∈ dF u s, c < 128 := fun c h => by have := kd c h; omega
  unfold dT
  constructor
  · rw [List.length_append]
    have e1 : (if u < 0 then [45] else [] : List Nat).length ≤ 1 := by split <;> decide
    have e2 : (if s = 0 then dF u s else (dF u s).take ((dF u s).length - s) ++ [46] ++ (dF u s).drop ((dF u s).length - s) : List Nat).length ≤ 20 := by
      split
      · omega
      · rw [List.length_append, List.length_append, List.length_take, List.length_drop]
        show _ + 1 + _ ≤ _
        omega
    omega
  · intro c hc
    rcases List.mem_append.mp hc with h | h
    · split at h
      · rw [List.mem_singleton.mp h]; decide
      · cases h
    · split at h
      · exact kd' c h
      · rcases List.mem_append.mp h with h | h
        · rcases List.mem_append.mp h with h | h
          · exact kd' c (List.mem_of_mem_take h)
          · rw [List.mem_singleton.mp h]; decide
        · exact kd' c (List.mem_of_mem_drop h)
end MT

namespace MR
open PySem PySem.Spec PyProof.Rows L2 MW MT
open SX (S)
/-! ### text.find(c, at) -/
theorem occ_full (s sub : Str) (hi : Nat) : ∀ (l : List Nat) (st : Array Nat × Nat), 1 ≤ st.fst.size → (forIn l st (StrLaws.occBody s sub hi 1)).run.fst = st.fst
  | [], st, _ => rfl
  | a :: l, st, h => by
    rw [List.forIn_cons]
    unfold StrLaws.occBody
    rw [if_neg (fun z => by have := z.1.1.1; omega)]
    exact occ_full s sub hi l _ h
theorem occ_first (s sub : Str) (hi : Nat) : ∀ (l : List Nat) (free : Nat), (∀ i ∈ l, free ≤ i) →
    (forIn l ((#[] : Array Nat), free) (StrLaws.occBody s sub hi 1)).run.fst.toList = (match l.find? (fun i => decide (i + sub.length ≤ hi ∧ Builtin.Str.subAt s sub i = true)) with | none => [] | some i => [i])
  | [], free, _ => rfl
  | a :: l, free, hf => by
    rw [List.forIn_cons]
    have ha : free ≤ a := hf a (List.mem_cons_self ..)
    by_cases hc : a + sub.length ≤ hi ∧ Builtin.Str.subAt s sub a = true
    · rw [List.find?_cons_of_pos (by simpa using hc)]
      unfold StrLaws.occBody
      rw [if_pos ⟨⟨⟨by simp, ha⟩, hc.1⟩, hc.2⟩]
      have := occ_full s sub hi l ((#[] : Array Nat).push a, a + sub.length) (by simp)
      show (forIn l ((#[] : Array Nat).push a, a + sub.length) (StrLaws.occBody s sub hi 1)).run.fst.toList = [a]
      rw [this]
      rfl
    · rw [List.find?_cons_of_neg (by simpa using hc)]
      unfold StrLaws.occBody
      rw [if_neg (fun h => hc ⟨h.1.2, h.2⟩)]
      exact occ_first s sub hi l free (fun i hi' => hf i (List.mem_cons_of_mem _ hi'))
theorem cut_consEq {c : Nat} {r : List Nat} : cutW c (c :: r) = [] ∧ cutR c (c :: r) = some r := cut_of (p := []) (fun h => by cases h)
theorem cut_consNe {c x : Nat} {r : List Nat} (h : x ≠ c) : cutW c (x :: r) = x :: cutW c r ∧ cutR c (x :: r) = cutR c r := by
  unfold cutW cutR
  rw [List.takeWhile_cons_of_pos (by simp [h]), List.dropWhile_cons_of_pos (by simp [h])]
  exact ⟨rfl, rfl⟩
theorem find_drop (c : Nat) (l : List Nat) : ∀ n lo, lo + n = l.length + 1 → (List.range' lo n).find? (fun i => decide (l[i]? = some c)) = (match cutR c (l.drop lo) with | none => none | some _ => some (lo + (cutW c (l.drop lo)).length))
  | 0, lo, h => by
    rw [List.drop_eq_nil_of_le (by omega)]
    rfl
  | n + 1, lo, h => by
    rw [List.range'_succ]
    by_cases hl : lo < l.length
    · rw [List.drop_eq_getElem_cons hl]
      by_cases hx : l[lo] = c
      · rw [List.find?_cons_of_pos (by rw [List.getElem?_eq_getElem hl, hx]; simp), hx, cut_consEq.1, cut_consEq.2]
        rfl
      · rw [List.find?_cons_of_neg (by rw [List.getElem?_eq_getElem hl]; simp [hx]), (cut_consNe hx).1, (cut_consNe hx).2, find_drop c l n (lo + 1) (by omega)]
        cases cutR c (l.drop (lo + 1)) with
        | none => rfl
        | some r => show some _ = some _; rw [List.length_cons]; congr 1; omega
    · rw [List.find?_cons_of_neg (by rw [List.getElem?_eq_none (by omega)]; simp), find_drop c l n (lo + 1) (by omega), List.drop_eq_nil_of_le (by omega), List.drop_eq_nil_of_le (by omega)]
      rfl
theorem find_S (c : Nat) (l : List Nat) (at0 : Nat) (h : at0 ≤ l.length) : Txt.find3 (S l) (S [c]) (at0 : Int) = (match cutR c (l.drop at0) with | none => -1 | some _ => ((at0 + (cutW c (l.drop at0)).length : Nat) : Int)) := by
  unfold Txt.find3
  have e0 : fromIndex (S l).length (at0 : Int) = at0 := by
    unfold fromIndex
    rw [if_neg (by omega)]
    omega
  rw [e0, StrLaws.occ_eq, occ_first _ _ _ _ _ (fun i hi => by have := List.mem_range'.mp hi; obtain ⟨k, _, e⟩ := this; omega)]
  have e1 : (fun i => decide (i + (S [c]).length ≤ (S l).length ∧ Builtin.Str.subAt (S l) (S [c]) i = true)) = (fun i => decide (l[i]? = some c)) := by
    funext i
    congr 1
    exact propext (StrLaws.subAt_one (S l) c i)
  rw [e1, SX.S_len, find_drop c l _ at0 (by omega)]
  cases cutR c (l.drop at0) with
  | none => rfl
  | some r => rfl
/-! ### lstrip of one sign -/
theorem dw_eq {c : Nat} : ∀ l : List Nat, (∃ k, l = List.replicate k c ++ l.dropWhile (· == c)) 
  | [] => ⟨0, rfl⟩
  | x :: l => by
    by_cases h : x = c
    · subst h
      obtain ⟨k, e⟩ := dw_eq (c := x) l
      refine ⟨k + 1, ?_⟩
      rw [List.dropWhile_cons_of_pos (by simp), List.replicate_succ, List.cons_append, ← e]
    · exact ⟨0, by rw [List.dropWhile_cons_of_neg (by simp [h])]; rfl⟩
/-! ### the spread row -/
def okC (w : List Nat) : Bool := figs w && (decide (w.length ≤ 2) && !decide (w.headD 0 = 48))
def cnt (r : List Nat) : Option (Nat × Nat) :=
  if r.head? = some 40 then
    match cutR 41 (r.drop 1) with
    | none => none
    | some _ => if okC (cutW 41 (r.drop 1)) = true then some (NumText.digitsVal (cutW 41 (r.drop 1)), (cutW 41 (r.drop 1)).length + 2) else none
  else some (1, 0)
def spr : Nat → List Nat → Option (List Nat)
  | 0, l => if l = [] then some [] else none
  | _ + 1, [] => some []
  | n + 1, m :: r => match cnt r with
    | none => none
    | some (c, k) => (spr n (r.drop k)).map (List.replicate c m ++ ·)
theorem spr_nil (n : Nat) : spr n [] = some [] := by cases n <;> rfl
theorem spr_fuel : ∀ (n m : Nat) (l : List Nat), l.length ≤ n → l.length ≤ m → spr n l = spr m l
  | _, _, [], _, _ => by rw [spr_nil, spr_nil]
  | 0, _, _ :: _, h, _ => absurd h (by simp)
  | _, 0, _ :: _, _, h => absurd h (by simp)
  | n + 1, m + 1, x :: r, hn, hm => by
    show (match cnt r with | none => none | some (c, k) => (spr n (r.drop k)).map (List.replicate c x ++ ·)) = (match cnt r with | none => none | some (c, k) => (spr m (r.drop k)).map (List.replicate c x ++ ·))
    cases cnt r with
    | none => rfl
    | some ck =>
      obtain ⟨c, k⟩ := ck
      show (spr n (r.drop k)).map _ = (spr m (r.drop k)).map _
      rw [spr_fuel n m (r.drop k) (by rw [List.length_drop]; simp at hn; omega) (by rw [List.length_drop]; simp at hm; omega)]
def spread (l : List Nat) : Option (List Nat) := spr l.length l
theorem spread_nil : spread [] = some [] := rfl
theorem spread_cons (x : Nat) (r : List Nat) : spread (x :: r) = match cnt r with
    | none => none
    | some (c, k) => (spread (r.drop k)).map (List.replicate c x ++ ·) := by
  show (match cnt r with | none => none | some (c, k) => (spr r.length (r.drop k)).map (List.replicate c x ++ ·)) = _
  cases cnt r with
  | none => rfl
  | some ck =>
    obtain ⟨c, k⟩ := ck
    show (spr r.length (r.drop k)).map _ = (spr (r.drop k).length (r.drop k)).map _
    rw [spr_fuel r.length (r.drop k).length (r.drop k) (by rw [List.length_drop]; omega) (Nat.le_refl _)]
theorem digits2 {w : List Nat} (h : okC w = true) : NumText.digitsVal w ≤ 99 := by
  unfold okC at h
  rw [Bool.and_eq_true, Bool.and_eq_true, decide_eq_true_eq] at h
  have hf := (figs_all h.1).2
  match w, h.2.1, hf with
  | [], _, _ => decide
  | [a], _, hf =>
    have := List.all_eq_true.mp hf a (by simp)
    rw [Bool.and_eq_true, decide_eq_true_eq, decide_eq_true_eq] at this
    show 0 * 10 + (a - 48) ≤ 99
    omega
  | [a, b], _, hf =>
    have h1 := List.all_eq_true.mp hf a (by simp)
    have h2 := List.all_eq_true.mp hf b (by simp)
    rw [Bool.and_eq_true, decide_eq_true_eq, decide_eq_true_eq] at h1 h2
    show (0 * 10 + (a - 48)) * 10 + (b - 48) ≤ 99
    omega
theorem cnt_le {r : List Nat} {c k : Nat} (h : cnt r = some (c, k)) : c ≤ 99 ∧ k ≤ r.length := by
  unfold cnt at h
  split at h
  · rename_i h40
    cases e : cutR 41 (r.drop 1) with
    | none => rw [e] at h; cases h
    | some q =>
      rw [e] at h
      by_cases ho : okC (cutW 41 (r.drop 1)) = true
      · rw [show (match some q with | none => none | some _ => if okC (cutW 41 (r.drop 1)) = true then some (NumText.digitsVal (cutW 41 (r.drop 1)), (cutW 41 (r.drop 1)).length + 2) else none) = some (NumText.digitsVal (cutW 41 (r.drop 1)), (cutW 41 (r.drop 1)).length + 2) from if_pos ho] at h
        cases h
        refine ⟨digits2 ho, ?_⟩
        have := cutR_len e
        rw [List.length_drop] at this
        omega
      · rw [show (match some q with | none => none | some _ => if okC (cutW 41 (r.drop 1)) = true then some (NumText.digitsVal (cutW 41 (r.drop 1)), (cutW 41 (r.drop 1)).length + 2) else none) = none from if_neg ho] at h
        cases h
  · cases h
    exact ⟨by decide, Nat.zero_le _⟩
theorem spread_len : ∀ (n : Nat) (l row : List Nat), l.length ≤ n → spread l = some row → row.length ≤ 99 * l.length
  | _, [], row, _, h => by rw [spread_nil] at h; cases h; exact Nat.zero_le _
  | 0, x :: r, _, hn, _ => absurd hn (by simp)
  | n + 1, x :: r, row, hn, h => by
    rw [spread_cons] at h
    cases e : cnt r with
    | none => rw [e] at h; cases h
    | some ck =>
      obtain ⟨c, k⟩ := ck
      rw [e] at h
      have h : (spread (r.drop k)).map (List.replicate c x ++ ·) = some row := h
      cases e2 : spread (r.drop k) with
      | none => rw [e2] at h; cases h
      | some q =>
        rw [e2] at h
        cases h
        have h1 := spread_len n (r.drop k) q (by rw [List.length_drop]; simp at hn; omega) e2
        have h2 := (cnt_le e).1
        rw [List.length_drop] at h1
        rw [List.length_append, List.length_replicate, List.length_cons]
        have : 99 * (r.length - k) ≤ 99 * r.length := Nat.mul_le_mul_left _ (by omega)
        omega
end MR
namespace MR
open PySem PySem.Spec PyProof.Rows L2 MW MT
open SX (S)
/-! ### the program's reading, written out -/
def allM (c : Nat) (l : List Nat) : Bool := l.all (fun x => decide (x = c))
theorem rep_iff {c : Nat} {l : List Nat} : decide (l = List.replicate l.length c) = allM c l := by
  unfold allM
  rw [Bool.eq_iff_iff, decide_eq_true_eq, List.all_eq_true]
  constructor
  · intro h x hx
    rw [h] at hx
    exact decide_eq_true (List.eq_of_mem_replicate hx)
  · intro h
    exact List.eq_replicate_of_mem fun x hx => of_decide_eq_true (h x hx)
def numP (l : List Nat) : Option MP.Pic :=
  let sg := decide (l.head? = some 115)
  let b := if sg = true then l.drop 1 else l
  if cutR 118 b = some [] then none else
  if allM 57 (cutW 118 b ++ (cutR 118 b).getD []) = true ∧ 1 ≤ (cutW 118 b ++ (cutR 118 b).getD []).length ∧ (cutW 118 b ++ (cutR 118 b).getD []).length ≤ 18
  then some (.num sg (cutW 118 b).length ((cutR 118 b).getD []).length) else none
def INS : List Nat := [44, 98, 48, 47]
def dig (a : List Nat) : List Nat := a.filter (fun x => !decide (x ∈ INS))
def wh (d : List Nat) : List Nat := if d.head? = some 122 then d.dropWhile (· == 122) else d.dropWhile (· == 42)
def edP (m sign : List Nat) : Option MP.Pic :=
  let A := cutW 46 m
  let B := (cutR 46 m).getD []
  if ¬ (m.take 1 ∈ [[122], [42], [57]]) ∨ allM 57 (wh (dig A)) = false then none else
  if allM 57 B = false ∨ cutR 46 m = some [] then none else
  if (dig A).length + B.length > 18 then none else
  if sign = [] ∧ allM 57 m = true then none else
  some (.ed m (dig A).length B.length sign)
def last1 (l : List Nat) : Nat := (l.getLast?).getD 0
def partP (l : List Nat) : List Nat × List Nat :=
  if l.headD 0 = 45 ∨ l.headD 0 = 43 then (l.drop 1, [l.headD 0])
  else if last1 l = 45 ∨ last1 l = 43 then (l.take (l.length - 1), [46, last1 l])
  else if l.drop (l.length - 2) = [99, 114] ∨ l.drop (l.length - 2) = [100, 98] then (l.take (l.length - 2), l.drop (l.length - 2))
  else (l, [])
inductive Res where
  | txt (n : Nat)
  | pic (p : MP.Pic)
def Res.vs : Res → List V
  | .txt n => [.str (S [116, 101, 120, 116]), .int (n : Int)]
  | .pic p => p.vs
/-- of the spread row -/
def rowP (row : List Nat) : Option Res :=
  if 1 ≤ row.length ∧ row.length ≤ 80 then
    if allM 120 row = true then some (.txt row.length) else
    match numP row with
    | some p => some (.pic p)
    | none => (edP (partP row).1 (partP row).2).map .pic
  else none
def readPic (l : List Nat) : Option Res := match spread l with
  | none => none
  | some row => rowP row
/-- a picture or none comes back -/
def RetO (o : Option MP.Pic) (H : Hp) (Q : VK) : Prop := (o = none → WP.RetV .non H Q) ∧ ∀ p, o = some p → WP.RetT p.vs H Q
theorem drop_tw {p : Nat → Bool} (l : List Nat) : l.drop (l.takeWhile p).length = l.dropWhile p := by
  have e := List.takeWhile_append_dropWhile (p := p) (l := l)
  have : (l.takeWhile p ++ l.dropWhile p).drop (l.takeWhile p).length = l.dropWhile p := List.drop_left
  rw [e] at this
  exact this
theorem lstrip_S {c : Nat} {l : List Nat} : Txt.lstripChars (S l) (S [c]) = S (l.dropWhile (· == c)) := by
  unfold Txt.lstripChars
  rw [PyProof.Rows.stripBy_eq]
  have e1 : stripLo (S [c]).cps.contains true (S l) = (l.takeWhile (· == c)).length := by
    unfold stripLo
    rw [if_pos rfl]
    congr 2
    funext x
    show #[c].contains x = (x == c)
    rw [Array.contains_eq_mem]
    by_cases h : x = c
    · subst h; simp
    · rw [beq_eq_false_iff_ne.mpr h]; simp [h]
  have e2 : stripHi (S [c]).cps.contains false (S l) (stripLo (S [c]).cps.contains true (S l)) = l.length := by
    unfold stripHi
    rw [if_neg Bool.false_ne_true, SX.S_len]
  rw [e2, e1, PyProof.Rows.strSub_mk]
  show S ((l.drop _).take (l.length - _)) = _
  rw [List.take_of_length_le (by rw [List.length_drop]; omega), drop_tw]
end MR
namespace MR
open PySem PySem.Spec PyProof.Rows L2 MW MT
open SX (S)
def lawOut (l : List Nat) : List Nat := match spread l with
  | none => []
  | some row => if row.length ≤ 80 then row else []
theorem slice_m2 {l : List Nat} (h : 1 ≤ l.length) : Txt.slice (S l) (some (-2)) none = S (l.drop (l.length - 2)) := by
  by_cases h2 : 2 ≤ l.length
  · have := WP.slice_fromN (l := l) (i := -2) (by decide) (by omega)
    rw [this, show (-2 + (l.length : Int)).toNat = l.length - 2 by omega]
  · have hl : l.length = 1 := by omega
    have e : Txt.slice (S l) (some (-2)) none = Txt.slice (S l) (some 0) none := by
      unfold Txt.slice
      rw [SX.S_len, hl]
      rfl
    rw [e, SX.slice_from (by decide), hl]
    rfl
theorem m2 {l : List Nat} {H : Hp} {Q : VK} (h : 1 ≤ l.length) (hl : l.length ≤ sizeLine) (q : Q (.str (S (l.drop (l.length - 2)))) H) : rSlS (.str (S l)) (some (-2)) none H Q := WP.slS _ (by rw [SX.S_len]; exact hl) (by rw [slice_m2 h]; exact q)
theorem cnt_40 {q : List Nat} : cnt (40 :: q) = match cutR 41 q with
    | none => none
    | some _ => if okC (cutW 41 q) = true then some (NumText.digitsVal (cutW 41 q), (cutW 41 q).length + 2) else none := by
  unfold cnt
  rw [if_pos (show (40 :: q).head? = some 40 from rfl)]
  rfl
theorem cnt_no {r : List Nat} (h : r.head? ≠ some 40) : cnt r = some (1, 0) := by
  unfold cnt
  rw [if_neg h]
theorem RetO.none' {H H' : Hp} {Q : VK} {o : Option MP.Pic} (k : RetO o H Q) (e : Same H H') (h : o = none) : Q .non H' := k.1 h H' e
theorem RetO.some' {H H' : Hp} {Q : VK} {o : Option MP.Pic} {p : MP.Pic} (k : RetO o H Q) (e : Same H H') (h : o = some p) : ∀ t, H' t = none → Q (.ref t) (upd H' t (.tup p.vs)) := (k.2 p h).new e
end MR
namespace MR
theorem wh_len (d : List Nat) : (wh d).length ≤ d.length := by
  unfold wh
  split <;> exact (List.dropWhile_sublist _).length_le
theorem partP_len (l : List Nat) : (partP l).1.length ≤ l.length := by
  unfold partP
  split
  · show (l.drop 1).length ≤ _; rw [List.length_drop]; omega
  · split
    · show (l.take _).length ≤ _; rw [List.length_take]; omega
    · split
      · show (l.take _).length ≤ _; rw [List.length_take]; omega
      · exact Nat.le_refl _
end MR

namespace MR
open PySem PySem.Spec PyProof.Rows L2 MW MT
open SX (S)
/-! ### the law's count -/
def fg (c : Nat) : Bool := decide (c ∈ FIG)
def dn (q : List Nat) : Nat := min 3 (q.takeWhile fg).length
def lcnt (q : List Nat) : Option (Nat × Nat) :=
  if q.take (dn q) = [] ∨ (q.take (dn q)).length > 2 ∨ (q.take (dn q)).headD 0 = 48 ∨ (q.drop (dn q)).take 1 ≠ [41] then none else some (NumText.digitsVal (q.take (dn q)), (q.take (dn q)).length + 2)
theorem fg_no {c : Nat} (h : c < 48) : fg c = false := by
  unfold fg
  refine decide_eq_false fun m => ?_
  have : c = 48 ∨ c = 49 ∨ c = 50 ∨ c = 51 ∨ c = 52 ∨ c = 53 ∨ c = 54 ∨ c = 55 ∨ c = 56 ∨ c = 57 := by simpa [FIG] using m
  omega
theorem tw_app {w r : List Nat} (hw : ∀ c ∈ w, fg c = true) (hr : r.head?.all (fun c => !fg c) = true) : (w ++ r).takeWhile fg = w := by
  induction w with
  | nil =>
    cases r with
    | nil => rfl
    | cons a r =>
      have : fg a = false := by simpa using hr
      rw [List.nil_append, List.takeWhile_cons_of_neg (by rw [this]; exact Bool.false_ne_true)]
  | cons a w ih =>
    rw [List.cons_append, List.takeWhile_cons_of_pos (hw a (.head _)), ih fun c hc => hw c (.tail _ hc)]
theorem lcnt_eq (q : List Nat) : cnt (40 :: q) = lcnt q := by
  rw [cnt_40]
  have tw := List.takeWhile_append_dropWhile (p := fg) (l := q)
  have htw : ∀ c ∈ q.takeWhile fg, fg c = true := fun c hc => List.all_eq_true.mp List.all_takeWhile c hc
  by_cases hbad : q.take (dn q) = [] ∨ (q.take (dn q)).length > 2 ∨ (q.take (dn q)).headD 0 = 48 ∨ (q.drop (dn q)).take 1 ≠ [41]
  · have e : lcnt q = none := if_pos hbad
    rw [e]
    cases hc : cutR 41 q with
    | none => rfl
    | some rest =>
      show (if okC (cutW 41 q) = true then _ else none) = none
      refine if_neg fun ho => ?_
      have hq := cut_some hc
      unfold okC at ho
      rw [Bool.and_eq_true, Bool.and_eq_true, decide_eq_true_eq, Bool.not_eq_true', decide_eq_false_iff_not] at ho
      obtain ⟨hf, h2, h48⟩ := ho
      generalize cutW 41 q = w at hq hf h2 h48
      have hne := (figs_all hf).1
      have hwf : ∀ c ∈ w, fg c = true := fun c hcw => by
        unfold figs at hf
        rw [Bool.and_eq_true] at hf
        exact List.all_eq_true.mp hf.2 c hcw
      have etw : q.takeWhile fg = w := by
        rw [hq]
        exact tw_app hwf (by simp [fg_no (show 41 < 48 by decide)])
      have ed : dn q = w.length := by unfold dn; rw [etw]; omega
      rw [ed] at hbad
      have et : q.take w.length = w := by rw [hq]; exact List.take_left
      have edr : q.drop w.length = 41 :: rest := by rw [hq]; exact List.drop_left
      rw [et, edr] at hbad
      rcases hbad with h | h | h | h
      · exact hne h
      · omega
      · exact h48 h
      · exact h rfl
  · have hg : ¬ q.take (dn q) = [] ∧ ¬ (q.take (dn q)).length > 2 ∧ ¬ (q.take (dn q)).headD 0 = 48 ∧ (q.drop (dn q)).take 1 = [41] := by
      refine ⟨fun h => hbad (.inl h), fun h => hbad (.inr (.inl h)), fun h => hbad (.inr (.inr (.inl h))), ?_⟩
      exact Classical.byContradiction fun h => hbad (.inr (.inr (.inr h)))
    have e : lcnt q = some (NumText.digitsVal (q.take (dn q)), (q.take (dn q)).length + 2) := if_neg hbad
    rw [e]
    obtain ⟨g1, g2, g3, g4⟩ := hg
    obtain ⟨rest, hr⟩ : ∃ rest, q.drop (dn q) = 41 :: rest := by
      cases hx : q.drop (dn q) with
      | nil => rw [hx] at g4; simp at g4
      | cons a r => rw [hx] at g4; simp at g4; exact ⟨r, by rw [g4]⟩
    have hq : q = q.take (dn q) ++ 41 :: rest := by rw [← hr, List.take_append_drop]
    have hwf : ∀ c ∈ q.take (dn q), fg c = true := fun c hc => by
      have hpre : q.take (dn q) = (q.takeWhile fg).take (dn q) := by
        have hle : dn q ≤ (q.takeWhile fg).length := Nat.min_le_right _ _
        have h3 : (q.takeWhile fg ++ q.dropWhile fg).take (dn q) = (q.takeWhile fg).take (dn q) := List.take_append_of_le_length hle
        rw [tw] at h3
        exact h3
      rw [hpre] at hc
      exact htw c (List.mem_of_mem_take hc)
    generalize q.take (dn q) = w at *
    have n41 : 41 ∉ w := fun m => by have := hwf 41 m; rw [fg_no (by decide)] at this; cases this
    obtain ⟨c1, c2⟩ := cut_of (q := rest) n41
    rw [← hq] at c1 c2
    rw [c2, c1]
    show (if okC w = true then _ else none) = _
    rw [if_pos]
    unfold okC figs
    rw [decide_eq_false g1, show allIn w FIG = true from List.all_eq_true.mpr fun c hc => hwf c hc, decide_eq_true (show w.length ≤ 2 by omega), decide_eq_false g3]
    rfl
/-! ### the law's number -/
def lnum (sg : Bool) (ps : List (List Nat)) : Option MP.Pic :=
  if ps.length > 2 ∨ allIn ps.flatten [57] = false ∨ (ps.getLast?).getD [] = [] then none else
  if (ps.headD []).length + (if ps.length = 2 then (ps.getD 1 []).length else 0) ≤ 18 then some (.num sg (ps.headD []).length (if ps.length = 2 then (ps.getD 1 []).length else 0)) else none
theorem allM_in {c : Nat} {l : List Nat} : allIn l [c] = allM c l := by
  unfold allIn allM
  congr 1
  funext x
  congr 1
  simp
theorem numB (l : List Nat) : numP l = (let b := if decide (l.head? = some 115) = true then l.drop 1 else l; if cutR 118 b = some [] then none else
  if allM 57 (cutW 118 b ++ (cutR 118 b).getD []) = true ∧ 1 ≤ (cutW 118 b ++ (cutR 118 b).getD []).length ∧ (cutW 118 b ++ (cutR 118 b).getD []).length ≤ 18
  then some (.num (decide (l.head? = some 115)) (cutW 118 b).length ((cutR 118 b).getD []).length) else none) := rfl
theorem lnum_eq (sg : Bool) (b : List Nat) : (if cutR 118 b = some [] then none else
  if allM 57 (cutW 118 b ++ (cutR 118 b).getD []) = true ∧ 1 ≤ (cutW 118 b ++ (cutR 118 b).getD []).length ∧ (cutW 118 b ++ (cutR 118 b).getD []).length ≤ 18
  then some (MP.Pic.num sg (cutW 118 b).length ((cutR 118 b).getD []).length) else none) = lnum sg (TL.spl [118] 0 [] b) := by
  cases h : cutR 118 b with
  | none =>
    rw [spl_none h, (cut_none h).1, if_neg (by simp)]
    unfold lnum
    have e1 : [b].flatten = b := by simp
    rw [e1, allM_in]
    show _ = if ((1 : Nat) > 2 ∨ allM 57 b = false ∨ b = []) then none else if b.length + 0 ≤ 18 then some (MP.Pic.num sg b.length 0) else none
    rw [Option.getD_none, List.append_nil]
    by_cases hb : b = []
    · subst hb
      rw [if_neg (fun z => by have := z.2.1; simp at this), if_pos (.inr (.inr rfl))]
    · have hp := List.length_pos_iff.mpr hb
      cases ha : allM 57 b with
      | false => rw [if_neg (fun z => by cases z.1), if_pos (.inr (.inl rfl))]
      | true =>
        rw [if_neg (show ¬ ((1 : Nat) > 2 ∨ true = false ∨ b = []) from fun z => z.elim (fun z => by omega) (fun z => z.elim (fun z => by cases z) hb))]
        by_cases h18 : b.length ≤ 18
        · rw [if_pos ⟨rfl, hp, h18⟩, if_pos (by omega)]; rfl
        · rw [if_neg (fun z => h18 z.2.2), if_neg (by omega)]
  | some f =>
    rw [spl_some h]
    cases h2 : cutR 118 f with
    | some g =>
      have hin := cutR_in h2
      have hna : allM 57 (cutW 118 b ++ f) = false := by
        cases ha : allM 57 (cutW 118 b ++ f) with
        | false => rfl
        | true =>
          have := List.all_eq_true.mp ha 118 (List.mem_append_right _ hin)
          simp at this
      have hg : ¬ (some f = some ([] : List Nat)) := fun z => by
        have : f = [] := by simpa using z
        rw [this] at hin; cases hin
      rw [if_neg hg, Option.getD_some, if_neg (fun z => by rw [hna] at z; cases z.1)]
      unfold lnum
      rw [spl_some h2, if_pos (.inl (by have := spl_ne (c := 118) g; simp only [List.length_cons]; omega))]
    | none =>
      rw [spl_none h2]
      unfold lnum
      have e1 : [cutW 118 b, f].flatten = cutW 118 b ++ f := by simp
      rw [e1, allM_in, Option.getD_some]
      generalize cutW 118 b = w
      show _ = if ((2 : Nat) > 2 ∨ allM 57 (w ++ f) = false ∨ f = []) then none else if w.length + f.length ≤ 18 then some (MP.Pic.num sg w.length f.length) else none
      by_cases hf : f = []
      · subst hf
        rw [if_pos rfl, if_pos (.inr (.inr rfl))]
      · have hp := List.length_pos_iff.mpr hf
        rw [if_neg (show ¬ (some f = some ([] : List Nat)) from fun z => hf (by simpa using z))]
        cases ha : allM 57 (w ++ f) with
        | false => rw [if_neg (fun z => by cases z.1), if_pos (.inr (.inl rfl))]
        | true =>
          rw [if_neg (show ¬ ((2 : Nat) > 2 ∨ true = false ∨ f = []) from fun z => z.elim (fun z => by omega) (fun z => z.elim (fun z => by cases z) hf))]
          by_cases h18 : w.length + f.length ≤ 18
          · rw [if_pos ⟨rfl, by rw [List.length_append]; omega, by rw [List.length_append]; omega⟩, if_pos h18]
          · rw [if_neg (fun z => h18 (by have := z.2.2; rw [List.length_append] at this; exact this)), if_neg h18]
end MR
namespace MR
open PySem PySem.Spec PyProof.Rows L2 MW MT
open SX (S)
/-! ### the law's edited pictures -/
def Z3 : List Nat := [122, 42, 57]
def Z7 : List Nat := [122, 42, 57, 44, 98, 48, 47]
def mk3 (a : List Nat) : List Nat := a.filter (fun x => decide (x ∈ Z3))
def hidn (m : List Nat) : Nat := (m.filter (fun x => !decide (x = 57))).length
theorem z3_iff (c : Nat) : c ∈ Z3 ↔ c = 122 ∨ c = 42 ∨ c = 57 := by simp [Z3]
theorem ins_iff (c : Nat) : c ∈ INS ↔ c = 44 ∨ c = 98 ∨ c = 48 ∨ c = 47 := by simp [INS]
theorem z7_iff (c : Nat) : c ∈ Z7 ↔ c ∈ Z3 ∨ c ∈ INS := by rw [z3_iff, ins_iff]; simp [Z7, or_assoc]
theorem dw9 {c : Nat} (hc : c ≠ 57) {n : List Nat} (h : allM 57 n = true) : n.dropWhile (· == c) = n := by
  cases n with
  | nil => rfl
  | cons a r =>
    have : a = 57 := of_decide_eq_true (List.all_eq_true.mp h a (.head _))
    rw [List.dropWhile_cons_of_neg (by rw [this]; simp; omega)]
theorem dw_rep {c : Nat} (hc : c ≠ 57) {n : List Nat} (h : allM 57 n = true) : ∀ k, (List.replicate k c ++ n).dropWhile (· == c) = n
  | 0 => dw9 hc h
  | k + 1 => by rw [List.replicate_succ, List.cons_append, List.dropWhile_cons_of_pos (by simp), dw_rep hc h k]
theorem wh_shape {d : List Nat} (h : allM 57 (wh d) = true) : ∃ x k n, (x = 122 ∨ x = 42) ∧ d = List.replicate k x ++ n ∧ allM 57 n = true := by
  unfold wh at h
  split at h
  · obtain ⟨k, e⟩ := dw_eq (c := 122) d
    exact ⟨122, k, _, .inl rfl, e, h⟩
  · obtain ⟨k, e⟩ := dw_eq (c := 42) d
    exact ⟨42, k, _, .inr rfl, e, h⟩
theorem hid_shape {x k : Nat} {n : List Nat} (hx : x = 122 ∨ x = 42) (hn : allM 57 n = true) : hidn (List.replicate k x ++ n) = k := by
  unfold hidn
  rw [List.filter_append]
  have e1 : (List.replicate k x).filter (fun y => !decide (y = 57)) = List.replicate k x := List.filter_eq_self.mpr fun y hy => by
    rw [List.eq_of_mem_replicate hy]; rcases hx with rfl | rfl <;> rfl
  have e2 : n.filter (fun y => !decide (y = 57)) = [] := List.filter_eq_nil_iff.mpr fun y hy => by
    have := List.all_eq_true.mp hn y hy
    rw [this]; simp
  rw [e1, e2, List.append_nil, List.length_replicate]
/-- the two ways to look at the marks ahead of the point -/
def lawOk (A : List Nat) : Prop := allIn A Z7 = true ∧ (mk3 A).take (hidn (mk3 A)) = List.replicate (hidn (mk3 A)) ((mk3 A).headD 0) ∧ allM 57 ((mk3 A).drop (hidn (mk3 A))) = true
theorem dig_mk {A : List Nat} (h : allIn A Z7 = true) : dig A = mk3 A := by
  unfold dig mk3
  refine List.filter_congr fun x hx => ?_
  have hz := of_decide_eq_true (List.all_eq_true.mp h x hx)
  rw [z7_iff] at hz
  by_cases h1 : x ∈ Z3
  · rw [decide_eq_true h1, decide_eq_false (fun h2 => by rw [z3_iff] at h1; rw [ins_iff] at h2; omega)]; rfl
  · rw [decide_eq_false h1, decide_eq_true (hz.elim (fun z => absurd z h1) id)]; rfl
theorem ok_iff (A : List Nat) : (allM 57 (wh (dig A)) = true → lawOk A) ∧ (lawOk A → allM 57 (wh (dig A)) = true) := by
  constructor
  · intro h
    obtain ⟨x, k, n, hx, e, hn⟩ := wh_shape h
    have hd3 : ∀ a ∈ dig A, a ∈ Z3 := fun a ha => by
      rw [e] at ha
      rw [z3_iff]
      rcases List.mem_append.mp ha with z | z
      · rw [List.eq_of_mem_replicate z]; omega
      · have := of_decide_eq_true (List.all_eq_true.mp hn a z); omega
    have h7 : allIn A Z7 = true := List.all_eq_true.mpr fun a ha => decide_eq_true (by
      rw [z7_iff]
      by_cases hi : a ∈ INS
      · exact .inr hi
      · exact .inl (hd3 a (List.mem_filter.mpr ⟨ha, by rw [decide_eq_false hi]; rfl⟩)))
    have em := dig_mk h7
    rw [em] at e
    refine ⟨h7, ?_, ?_⟩
    · rw [e, hid_shape hx hn]
      rw [show (List.replicate k x ++ n).take k = List.replicate k x from by rw [List.take_append_of_le_length (by rw [List.length_replicate]; exact Nat.le_refl _), List.take_of_length_le (by rw [List.length_replicate]; exact Nat.le_refl _)]]
      cases k with
      | zero => rfl
      | succ k => rfl
    · rw [e, hid_shape hx hn]
      rw [List.drop_append_of_le_length (by rw [List.length_replicate]; exact Nat.le_refl _), List.drop_of_length_le (by rw [List.length_replicate]; exact Nat.le_refl _)]
      exact hn
  · rintro ⟨h7, h1, h2⟩
    rw [dig_mk h7]
    have h3 : ∀ a ∈ mk3 A, a ∈ Z3 := fun a ha => of_decide_eq_true (List.mem_filter.mp ha).2
    generalize hM : mk3 A = M at *
    have e : M = List.replicate (hidn M) (M.headD 0) ++ M.drop (hidn M) := by
      rw [← h1, List.take_append_drop]
    generalize hn : M.drop (hidn M) = n at *
    by_cases hH : hidn M = 0
    · rw [hH, List.replicate_zero, List.nil_append] at e
      unfold wh
      rw [e]
      split
      · rw [dw9 (by decide) h2]; exact h2
      · rw [dw9 (by decide) h2]; exact h2
    · obtain ⟨j, hj⟩ : ∃ j, hidn M = j + 1 := ⟨hidn M - 1, by omega⟩
      have hne : M ≠ [] := fun z => by rw [z] at hH; exact hH rfl
      obtain ⟨x, r, hxr⟩ : ∃ x r, M = x :: r := by
        cases M with
        | nil => exact absurd rfl hne
        | cons x r => exact ⟨x, r, rfl⟩
      have hx0 : M.headD 0 = x := by rw [hxr]; rfl
      rw [hx0] at e
      have hx3 := h3 x (by rw [hxr]; exact .head _)
      rw [z3_iff] at hx3
      have hx9 : x ≠ 57 := fun z => hH (by
        unfold hidn
        rw [List.filter_eq_nil_iff.mpr, List.length_nil]
        intro y hy
        rw [e] at hy
        have : y = 57 := by
          rcases List.mem_append.mp hy with q | q
          · rw [List.eq_of_mem_replicate q, z]
          · exact of_decide_eq_true (List.all_eq_true.mp h2 y q)
        rw [this]; simp)
      have hd : M.head? = some x := by rw [hxr]; rfl
      unfold wh
      rw [hd]
      rcases hx3 with rfl | rfl | rfl
      · rw [if_pos rfl, e, dw_rep (by decide) h2]; exact h2
      · rw [if_neg (by decide), e, dw_rep (by decide) h2]; exact h2
      · exact absurd rfl hx9
def ledB (m sign : List Nat) : Option MP.Pic :=
  let ps := TL.spl [46] 0 [] m
  if m = [] ∨ ¬ (m.headD 0 ∈ Z3) ∨ ps.length > 2 ∨ (ps.length = 2 ∧ ps.getD 1 [] = []) then none else
  if ps.length = 2 ∧ allIn (ps.getD 1 []) [57] = false then none else
  if allIn (ps.headD []) Z7 = false then none else
  if (mk3 (ps.headD [])).take (hidn (mk3 (ps.headD []))) ≠ List.replicate (hidn (mk3 (ps.headD []))) ((mk3 (ps.headD [])).headD 0) ∨ allIn ((mk3 (ps.headD [])).drop (hidn (mk3 (ps.headD [])))) [57] = false then none else
  if (mk3 (ps.headD [])).length + (if ps.length = 2 then (ps.getD 1 []).length else 0) ≤ 18 then some (.ed m (mk3 (ps.headD [])).length (if ps.length = 2 then (ps.getD 1 []).length else 0) sign) else none
theorem take1 (m : List Nat) : (m.take 1 ∈ [[122], [42], [57]]) ↔ (m ≠ [] ∧ m.headD 0 ∈ Z3) := by
  cases m with
  | nil => simp
  | cons a r => rw [z3_iff]; simp
theorem edP_def (m sign : List Nat) : edP m sign = (if ¬ (m.take 1 ∈ [[122], [42], [57]]) ∨ allM 57 (wh (dig (cutW 46 m))) = false then none else
  if allM 57 ((cutR 46 m).getD []) = false ∨ cutR 46 m = some [] then none else
  if (dig (cutW 46 m)).length + ((cutR 46 m).getD []).length > 18 then none else
  if sign = [] ∧ allM 57 m = true then none else
  some (.ed m (dig (cutW 46 m)).length ((cutR 46 m).getD []).length sign)) := rfl
theorem not_true {b : Bool} (h : ¬ b = true) : b = false := by cases b <;> simp_all
/-- the law reads the marks as the program does -/
theorem led_eq (m sign : List Nat) (h9 : sign = [] → allM 57 m = true → m.length > 18 ∨ m = []) : ledB m sign = edP m sign := by
  rw [edP_def]
  have hok := ok_iff (cutW 46 m)
  by_cases hm : m.take 1 ∈ [[122], [42], [57]]
  rotate_left
  · rw [if_pos (.inl hm)]
    have : m = [] ∨ ¬ (m.headD 0 ∈ Z3) := by
      by_cases e : m = []
      · exact .inl e
      · exact .inr fun z => hm ((take1 m).mpr ⟨e, z⟩)
    unfold ledB
    exact if_pos (this.elim .inl fun z => .inr (.inl z))
  obtain ⟨hne, hz3⟩ := (take1 m).mp hm
  unfold ledB
  cases h : cutR 46 m with
  | none =>
    rw [spl_none h, (cut_none h).1] at *
    show (if m = [] ∨ ¬ (m.headD 0 ∈ Z3) ∨ (1 : Nat) > 2 ∨ ((1 : Nat) = 2 ∧ _) then none else if (1 : Nat) = 2 ∧ _ then none else if allIn m Z7 = false then none else if (mk3 m).take (hidn (mk3 m)) ≠ List.replicate (hidn (mk3 m)) ((mk3 m).headD 0) ∨ allIn ((mk3 m).drop (hidn (mk3 m))) [57] = false then none else if (mk3 m).length + 0 ≤ 18 then some (MP.Pic.ed m (mk3 m).length 0 sign) else none) = _
    rw [if_neg (fun z => z.elim hne fun z => z.elim (fun z => z hz3) fun z => z.elim (fun z => by omega) fun z => by omega), if_neg (fun z => by omega), Option.getD_none]
    by_cases ho : allM 57 (wh (dig m)) = true
    · obtain ⟨o1, o2, o3⟩ := hok.1 ho
      rw [if_neg (show ¬ allIn m Z7 = false by rw [o1]; simp), if_neg (fun z => z.elim (fun z => z o2) (fun z => by rw [allM_in, o3] at z; cases z))]
      rw [if_neg (show ¬ (¬ (m.take 1 ∈ [[122], [42], [57]]) ∨ allM 57 (wh (dig m)) = false) from fun z => z.elim (fun z => z hm) (fun z => by rw [ho] at z; cases z)), if_neg (show ¬ (allM 57 [] = false ∨ (none : Option (List Nat)) = some []) by simp [allM]), dig_mk o1]
      by_cases h18 : (mk3 m).length ≤ 18
      · rw [if_pos (by omega), if_neg (show ¬ ((mk3 m).length + ([] : List Nat).length > 18) by simp; omega), if_neg]
        · rfl
        · rintro ⟨z1, z2⟩
          have := h9 z1 z2
          have e : mk3 m = m := List.filter_eq_self.mpr fun x hx => by
            have := of_decide_eq_true (List.all_eq_true.mp z2 x hx)
            rw [this]; rfl
          rw [e] at h18
          rcases this with q | q
          · omega
          · exact hne q
      · rw [if_neg (by omega), if_pos (show (mk3 m).length + ([] : List Nat).length > 18 by simp; omega)]
    · rw [if_pos (show (¬ (m.take 1 ∈ [[122], [42], [57]]) ∨ allM 57 (wh (dig m)) = false) from .inr (not_true ho))]
      by_cases o1 : allIn m Z7 = true
      · rw [if_neg (show ¬ allIn m Z7 = false by rw [o1]; simp)]
        refine if_pos ?_
        by_cases o2 : (mk3 m).take (hidn (mk3 m)) = List.replicate (hidn (mk3 m)) ((mk3 m).headD 0)
        · refine .inr ?_
          rw [allM_in]
          exact not_true fun o3 => ho (hok.2 ⟨o1, o2, o3⟩)
        · exact .inl o2
      · exact if_pos (not_true o1)
  | some f =>
    rw [spl_some h]
    cases h2 : cutR 46 f with
    | some g =>
      rw [spl_some h2]
      have hb : allM 57 f = false := not_true fun z => by
        have := List.all_eq_true.mp z 46 (cutR_in h2)
        simp at this
      have e1 := spl_ne (c := 46) g
      rw [Option.getD_some]
      refine Eq.trans (if_pos (.inr (.inr (.inl (by simp only [List.length_cons]; omega))))) ?_
      by_cases ho : ¬ (m.take 1 ∈ [[122], [42], [57]]) ∨ allM 57 (wh (dig (cutW 46 m))) = false
      · rw [if_pos ho]
      · rw [if_neg ho, if_pos (.inl hb)]
    | none =>
      rw [spl_none h2, Option.getD_some]
      generalize cutW 46 m = w at *
      show (if m = [] ∨ ¬ (m.headD 0 ∈ Z3) ∨ (2 : Nat) > 2 ∨ ((2 : Nat) = 2 ∧ f = []) then none else if (2 : Nat) = 2 ∧ allIn f [57] = false then none else if allIn w Z7 = false then none else if (mk3 w).take (hidn (mk3 w)) ≠ List.replicate (hidn (mk3 w)) ((mk3 w).headD 0) ∨ allIn ((mk3 w).drop (hidn (mk3 w))) [57] = false then none else if (mk3 w).length + f.length ≤ 18 then some (MP.Pic.ed m (mk3 w).length f.length sign) else none) = _
      by_cases hf : f = []
      · subst hf
        rw [if_pos (.inr (.inr (.inr ⟨rfl, rfl⟩)))]
        by_cases ho : ¬ (m.take 1 ∈ [[122], [42], [57]]) ∨ allM 57 (wh (dig w)) = false
        · rw [if_pos ho]
        · rw [if_neg ho, if_pos (.inr rfl)]
      · rw [if_neg (fun z => z.elim hne fun z => z.elim (fun z => z hz3) fun z => z.elim (fun z => by omega) fun z => hf z.2), allM_in]
        by_cases hfa : allM 57 f = true
        · rw [if_neg (show ¬ ((2 : Nat) = 2 ∧ allM 57 f = false) from fun z => by rw [hfa] at z; cases z.2)]
          by_cases ho : allM 57 (wh (dig w)) = true
          · obtain ⟨o1, o2, o3⟩ := hok.1 ho
            rw [if_neg (show ¬ allIn w Z7 = false by rw [o1]; simp), if_neg (fun z => z.elim (fun z => z o2) (fun z => by rw [allM_in, o3] at z; cases z))]
            rw [if_neg (show ¬ (¬ (m.take 1 ∈ [[122], [42], [57]]) ∨ allM 57 (wh (dig w)) = false) from fun z => z.elim (fun z => z hm) (fun z => by rw [ho] at z; cases z)), if_neg (show ¬ (allM 57 f = false ∨ some f = some []) from fun z => z.elim (fun z => by rw [hfa] at z; cases z) (fun z => hf (by simpa using z))), dig_mk o1]
            by_cases h18 : (mk3 w).length + f.length ≤ 18
            · rw [if_pos h18, if_neg (show ¬ ((mk3 w).length + f.length > 18) by omega), if_neg]
              rintro ⟨z1, z2⟩
              have := List.all_eq_true.mp z2 46 (cutR_in h)
              simp at this
            · rw [if_neg h18, if_pos (show (mk3 w).length + f.length > 18 by omega)]
          · rw [if_pos (show (¬ (m.take 1 ∈ [[122], [42], [57]]) ∨ allM 57 (wh (dig w)) = false) from .inr (not_true ho))]
            by_cases o1 : allIn w Z7 = true
            · rw [if_neg (show ¬ allIn w Z7 = false by rw [o1]; simp)]
              refine if_pos ?_
              by_cases o2 : (mk3 w).take (hidn (mk3 w)) = List.replicate (hidn (mk3 w)) ((mk3 w).headD 0)
              · refine .inr ?_
                rw [allM_in]
                exact not_true fun o3 => ho (hok.2 ⟨o1, o2, o3⟩)
              · exact .inl o2
            · exact if_pos (not_true o1)
        · rw [if_pos ⟨rfl, not_true hfa⟩]
          by_cases ho : ¬ (m.take 1 ∈ [[122], [42], [57]]) ∨ allM 57 (wh (dig w)) = false
          · rw [if_pos ho]
          · rw [if_neg ho, if_pos (.inl (not_true hfa))]
end MR
namespace MR
open PySem PySem.Spec PyProof.Rows L2 MW MT
open SX (S)
theorem lawOut_len (l : List Nat) : (lawOut l).length ≤ 80 := by
  unfold lawOut
  cases spread l with
  | none => exact Nat.zero_le _
  | some row =>
    show (if row.length ≤ 80 then row else []).length ≤ 80
    by_cases h : row.length ≤ 80
    · rw [if_pos h]; exact h
    · rw [if_neg h]; exact Nat.zero_le _
theorem readPic_out (l : List Nat) : readPic l = if lawOut l = [] then none else rowP (lawOut l) := by
  unfold readPic lawOut
  cases spread l with
  | none => rfl
  | some row =>
    show rowP row = if (if row.length ≤ 80 then row else []) = [] then none else rowP (if row.length ≤ 80 then row else [])
    by_cases h : row.length ≤ 80
    · rw [if_pos h]
      by_cases h2 : row = []
      · rw [if_pos h2, h2]; rfl
      · rw [if_neg h2]
    · rw [if_neg h, if_pos rfl]
      unfold rowP
      rw [if_neg (fun z => h z.2)]
end MR
namespace MR
open PySem PySem.Spec PyProof.Rows L2 MW MT
open SX (S)
theorem at_Sn {ps : List (List Nat)} {i : Nat} {w : List Nat} (h : ps[i]? = some w) : atI (ps.map fun a => V.str (S a)) (i : Int) = some (.str (S w)) := atI_nat (by rw [List.getElem?_map, h]; rfl)
theorem last_S {ps : List (List Nat)} (h : 1 ≤ ps.length) : atI (ps.map fun a => V.str (S a)) (-1 : Int) = some (.str (S ((ps.getLast?).getD []))) := by
  cases ps with
  | nil => exact absurd h (by decide)
  | cons c r =>
    have e : ixN (((c :: r).map fun a => V.str (S a))).length (-1) = some r.length := by
      unfold ixN
      rw [if_neg (by decide)]
      rw [List.length_map, List.length_cons]
      first | (rw [if_pos (by omega)]; congr 1; omega) | (simp; omega)
    unfold atI
    rw [e]
    show ((c :: r).map fun a => V.str (S a))[r.length]? = _
    have e2 : (c :: r).getLast? = (c :: r)[(c :: r).length - 1]? := List.getLast?_eq_getElem?
    rw [show (c :: r).length - 1 = r.length from rfl] at e2
    rw [List.getElem?_map, ← e2]
    simp [List.getLast?_cons]
end MR
namespace MR
open PySem PySem.Spec PyProof.Rows L2 MW MT
open SX (S)
theorem bad_none {m sg : List Nat} {x : Nat} (hx : x ∈ m) (h : x ≠ 46) (h7 : ¬ x ∈ Z7) : edP m sg = none := by
  rw [edP_def]
  by_cases ho : allM 57 (wh (dig (cutW 46 m))) = true
  rotate_left
  · exact if_pos (.inr (not_true ho))
  have hA := ((ok_iff _).1 ho).1
  have hxA : ¬ x ∈ cutW 46 m := fun z => h7 (of_decide_eq_true (List.all_eq_true.mp hA x z))
  by_cases h1 : ¬ (m.take 1 ∈ [[122], [42], [57]]) ∨ allM 57 (wh (dig (cutW 46 m))) = false
  · exact if_pos h1
  rw [if_neg h1]
  refine if_pos (.inl ?_)
  cases e : cutR 46 m with
  | none => exact absurd (by rw [(cut_none e).1]; exact hx) hxA
  | some r =>
    have hm := cut_some e
    have : x ∈ cutW 46 m ++ 46 :: r := by rw [← hm]; exact hx
    rcases List.mem_append.mp this with z | z
    · exact absurd z hxA
    · rcases List.mem_cons.mp z with z | z
      · exact absurd z h
      · refine not_true fun q => h7 ?_
        have q := of_decide_eq_true (List.all_eq_true.mp q x z)
        rw [q]; decide
theorem ledB_bad {m sg : List Nat} (h : m = [] ∨ ¬ (m.headD 0 ∈ Z3)) : ledB m sg = none := by
  unfold ledB
  exact if_pos (h.elim .inl fun z => .inr (.inl z))
def isL2 (l : List Nat) : Prop := l.drop (l.length - 2) = [99, 114] ∨ l.drop (l.length - 2) = [100, 98]
instance (l : List Nat) : Decidable (isL2 l) := by unfold isL2; infer_instance
def lpart (l : List Nat) : List Nat × List Nat :=
  if isL2 l then (l.take (l.length - 2), l.drop (l.length - 2))
  else if l.headD 0 = 45 ∨ l.headD 0 = 43 then (l.drop 1, [l.headD 0])
  else if last1 l = 45 ∨ last1 l = 43 then (l.take (l.length - 1), [46, last1 l])
  else (l, [])
theorem two_shape {l : List Nat} (h : isL2 l) : ∃ q a b, l = q ++ [a, b] ∧ (a = 99 ∨ a = 100) ∧ (b = 114 ∨ b = 98) ∧ l.take (l.length - 2) = q ∧ l.drop (l.length - 2) = [a, b] := by
  have e := (List.take_append_drop (l.length - 2) l).symm
  rcases h with h | h
  · rw [h] at e
    exact ⟨_, 99, 114, e, .inl rfl, .inl rfl, rfl, h⟩
  · rw [h] at e
    exact ⟨_, 100, 98, e, .inr rfl, .inr rfl, rfl, h⟩
theorem num_nines {l : List Nat} (h : numP l = none) (ha : allM 57 l = true) : l.length > 18 ∨ l = [] := by
  by_cases hl : l = []
  · exact .inr hl
  refine .inl ?_
  refine Classical.byContradiction fun h18 => ?_
  have hp := List.length_pos_iff.mpr hl
  have n57 : ∀ x ∈ l, x = 57 := fun x hx => of_decide_eq_true (List.all_eq_true.mp ha x hx)
  have e : l.head? ≠ some 115 := fun z => by
    have := n57 115 (List.mem_of_head? z)
    cases this
  have ec : cutR 118 l = none := by
    cases e2 : cutR 118 l with
    | none => rfl
    | some r => exact absurd (n57 118 (cutR_in e2)) (by decide)
  rw [numB, decide_eq_false e] at h
  have h : (if cutR 118 l = some [] then none else
    if allM 57 (cutW 118 l ++ (cutR 118 l).getD []) = true ∧ 1 ≤ (cutW 118 l ++ (cutR 118 l).getD []).length ∧ (cutW 118 l ++ (cutR 118 l).getD []).length ≤ 18
    then some (MP.Pic.num false (cutW 118 l).length ((cutR 118 l).getD []).length) else none) = none := h
  rw [ec, if_neg (by simp), (cut_none ec).1, Option.getD_none, List.append_nil, if_pos ⟨ha, hp, by omega⟩] at h
  cases h
theorem part_eq (l : List Nat) (h1 : 1 ≤ l.length) (hn : numP l = none) : ledB (lpart l).1 (lpart l).2 = edP (partP l).1 (partP l).2 := by
  by_cases h2 : isL2 l
  · have el : lpart l = (l.take (l.length - 2), l.drop (l.length - 2)) := if_pos h2
    obtain ⟨q, a, b, e, ha, hb, et, ed⟩ := two_shape h2
    have hl1 : last1 l = b := by unfold last1; rw [e]; simp
    by_cases hh : l.headD 0 = 45 ∨ l.headD 0 = 43
    · have ep : partP l = (l.drop 1, [l.headD 0]) := if_pos hh
      rw [el, ep]
      have hq : q ≠ [] := fun z => by
        rw [e, z] at hh
        have : a = 45 ∨ a = 43 := hh
        omega
      obtain ⟨c, r, rfl⟩ : ∃ c r, q = c :: r := by
        cases q with
        | nil => exact absurd rfl hq
        | cons c r => exact ⟨c, r, rfl⟩
      have hc : l.headD 0 = c := by rw [e]; rfl
      have ea : a ∈ l.drop 1 := by rw [e]; simp
      show ledB (l.take (l.length - 2)) _ = edP (l.drop 1) _
      rw [bad_none (x := a) ea (by omega) (by rcases ha with rfl | rfl <;> decide), et]
      refine ledB_bad (.inr ?_)
      show ¬ c ∈ Z3
      rw [hc] at hh
      rcases hh with rfl | rfl <;> decide
    · have ep : partP l = (l.take (l.length - 2), l.drop (l.length - 2)) := by
        unfold partP
        rw [if_neg hh, if_neg (by rw [hl1]; omega)]
        exact if_pos h2
      rw [el, ep]
      exact led_eq _ _ fun z => by
        have z : l.drop (l.length - 2) = [] := z
        rw [ed] at z; cases z
  · by_cases hh : l.headD 0 = 45 ∨ l.headD 0 = 43
    · have el : lpart l = (l.drop 1, [l.headD 0]) := by unfold lpart; rw [if_neg h2, if_pos hh]
      have ep : partP l = (l.drop 1, [l.headD 0]) := if_pos hh
      rw [el, ep]
      exact led_eq _ _ fun z => by cases z
    · by_cases hl : last1 l = 45 ∨ last1 l = 43
      · have el : lpart l = (l.take (l.length - 1), [46, last1 l]) := by unfold lpart; rw [if_neg h2, if_neg hh, if_pos hl]
        have ep : partP l = (l.take (l.length - 1), [46, last1 l]) := by unfold partP; rw [if_neg hh, if_pos hl]
        rw [el, ep]
        exact led_eq _ _ fun z => by cases z
      · have el : lpart l = (l, []) := by unfold lpart; rw [if_neg h2, if_neg hh, if_neg hl]
        have ep : partP l = (l, []) := by
          unfold partP
          rw [if_neg hh, if_neg hl]
          exact if_neg h2
        rw [el, ep]
        exact led_eq _ _ fun _ z => num_nines hn z
end MR
namespace MR
open PySem PySem.Spec PyProof.Rows L2 MW MT
open SX (S)
theorem lpart_len (l : List Nat) : (lpart l).1.length ≤ l.length := by
  unfold lpart
  split
  · show (l.take _).length ≤ _; rw [List.length_take]; omega
  · split
    · show (l.drop 1).length ≤ _; rw [List.length_drop]; omega
    · split
      · show (l.take _).length ≤ _; rw [List.length_take]; omega
      · exact Nat.le_refl _
theorem take_1 {l : List Nat} (h : 1 ≤ l.length) : l.take 1 = [l.headD 0] := by
  cases l with
  | nil => exact absurd h (by decide)
  | cons a r => rfl
theorem drop_1 {l : List Nat} (h : 1 ≤ l.length) : l.drop (l.length - 1) = [last1 l] := by
  have hne : l ≠ [] := fun z => by rw [z] at h; exact absurd h (by decide)
  have e := List.dropLast_concat_getLast hne
  have e2 : last1 l = l.getLast hne := by unfold last1; rw [List.getLast?_eq_some_getLast hne]; rfl
  rw [e2]
  have hd : l.dropLast.length = l.length - 1 := List.length_dropLast
  have : (l.dropLast ++ [l.getLast hne]).drop l.dropLast.length = [l.getLast hne] := List.drop_left
  rw [e, hd] at this
  exact this
theorem l2_take {l : List Nat} (h : isL2 l) : 2 ≤ l.length := by
  obtain ⟨q, a, b, e, _⟩ := two_shape h
  rw [e, List.length_append]; simp
end MR
namespace MR
open PySem PySem.Spec PyProof.Rows L2 MW MT
open SX (S)
theorem hidn_le (M : List Nat) : hidn M ≤ M.length := List.length_filter_le _ _
theorem mulM {M : List Nat} {H : Hp} {Q : VK} (h : M.length ≤ 1000) (q : Q (.str (S (List.replicate (hidn M) (M.headD 0)))) H) : WP.rMulS (.str (S (M.take 1))) (.int (hidn M : Int)) H Q := by
  cases M with
  | nil => exact ⟨S [], 0, rfl, rfl, by unfold MulOk; exact ⟨by decide, fun z => absurd (by decide) z, fun z => absurd (by decide) z⟩, q⟩
  | cons x r =>
    have := hidn_le (x :: r)
    exact WP.mulS (by omega) (by omega) (by rw [Int.toNat_natCast]; exact q)
theorem mk3_take {a : List Nat} {i c : Nat} (h : a[i]? = some c) : mk3 (a.take (i + 1)) = mk3 (a.take i) ++ (if c ∈ Z3 then [c] else []) := by
  have et : a.take (i + 1) = a.take i ++ [c] := by rw [List.take_succ, h]; rfl
  rw [et]
  unfold mk3
  rw [List.filter_append]
  by_cases hc : c ∈ Z3
  · rw [if_pos hc]; simp [hc]
  · rw [if_neg hc]; simp [hc]
def n57 (a : List Nat) : List Nat := a.filter (fun x => !decide (x = 57))
theorem n57_take {a : List Nat} {i c : Nat} (h : a[i]? = some c) : n57 (a.take (i + 1)) = n57 (a.take i) ++ (if c = 57 then [] else [c]) := by
  have et : a.take (i + 1) = a.take i ++ [c] := by rw [List.take_succ, h]; rfl
  rw [et]
  unfold n57
  rw [List.filter_append]
  by_cases hc : c = 57
  · rw [if_pos hc]; simp [hc]
  · rw [if_neg hc]; simp [hc]
theorem n57_len (a : List Nat) : (n57 a).length = hidn a := rfl
theorem n57_le (a : List Nat) : (n57 a).length ≤ a.length := List.length_filter_le _ _
theorem mk3_le (a : List Nat) : (mk3 a).length ≤ a.length := List.length_filter_le _ _
end MR
namespace MR
open PySem PySem.Spec PyProof.Rows L2 MW MT
open SX (S)
theorem nm {n : Nat} (h : n ≤ 100) : (TL.numL n).length ≤ 3 ∧ ∀ c ∈ TL.numL n, c < 128 := ⟨TL.numL_len (k := 3) (by decide) (by omega), fun c hc => by
  have := TL.numL_digits _ c hc
  omega⟩
theorem lt_app {a b : List Nat} (ha : ∀ c ∈ a, c < 128) (hb : ∀ c ∈ b, c < 128) : ∀ c ∈ a ++ b, c < 128 := fun c hc => (List.mem_append.mp hc).elim (ha c) (hb c)
end MR
namespace MR
open PySem PySem.Spec PyProof.Rows L2 MW MT
open SX (S)
theorem tw_at : ∀ {q : List Nat} {d : Nat}, d < (q.takeWhile fg).length → ∃ x, q[d]? = some x ∧ fg x = true
  | [], _, h => absurd h (by simp)
  | x :: r, d, h => by
    by_cases hx : fg x = true
    · cases d with
      | zero => exact ⟨x, rfl, hx⟩
      | succ d =>
        rw [List.takeWhile_cons_of_pos hx, List.length_cons] at h
        obtain ⟨y, h1, h2⟩ := tw_at (q := r) (d := d) (by omega)
        exact ⟨y, h1, h2⟩
    · rw [List.takeWhile_cons_of_neg hx] at h
      exact absurd h (by simp)
theorem tw_end : ∀ {q : List Nat} {x : Nat}, q[(q.takeWhile fg).length]? = some x → fg x = false
  | [], _, h => by simp at h
  | y :: r, x, h => by
    by_cases hy : fg y = true
    · rw [List.takeWhile_cons_of_pos hy, List.length_cons] at h
      exact tw_end (q := r) h
    · rw [List.takeWhile_cons_of_neg hy] at h
      have : y = x := by simpa using h
      rw [← this]
      exact not_true hy
theorem tw_le (q : List Nat) : (q.takeWhile fg).length ≤ q.length := (List.takeWhile_sublist _).length_le
theorem dn_fig {q : List Nat} : ∀ c ∈ q.take (dn q), fg c = true := fun c hc => by
  obtain ⟨i, hi, e⟩ := List.mem_iff_getElem.mp hc
  have hl : i < dn q := by rw [List.length_take] at hi; omega
  obtain ⟨x, h1, h2⟩ := tw_at (q := q) (d := i) (Nat.lt_of_lt_of_le hl (Nat.min_le_right _ _))
  have h3 : (q.take (dn q))[i]? = some c := by rw [List.getElem?_eq_getElem hi, e]
  rw [List.getElem?_take, if_pos hl, h1] at h3
  rw [← Option.some.inj h3]
  exact h2
theorem dn_len (q : List Nat) : (q.take (dn q)).length = dn q := by
  rw [List.length_take]
  have := tw_le q
  have : dn q ≤ (q.takeWhile fg).length := Nat.min_le_right _ _
  omega
theorem dn_figs {q : List Nat} (h : q.take (dn q) ≠ []) : figs (q.take (dn q)) = true := by
  unfold figs
  rw [decide_eq_false h]
  exact List.all_eq_true.mpr fun c hc => dn_fig c hc
theorem fg_iff (c : Nat) : decide (c ∈ FIG) = fg c := rfl
end MR
namespace MR
open PySem PySem.Spec PyProof.Rows L2 MW MT
open SX (S)
theorem spread_mem : ∀ (n : Nat) (l row : List Nat), l.length ≤ n → spread l = some row → ∀ c ∈ row, c ∈ l
  | _, [], row, _, h, c, hc => by rw [spread_nil] at h; cases h; exact hc
  | 0, x :: r, _, hn, _, _, _ => absurd hn (by simp)
  | n + 1, x :: r, row, hn, h, c, hc => by
    rw [spread_cons] at h
    cases e : cnt r with
    | none => rw [e] at h; cases h
    | some ck =>
      obtain ⟨m, k⟩ := ck
      rw [e] at h
      have h : (spread (r.drop k)).map (List.replicate m x ++ ·) = some row := h
      cases e2 : spread (r.drop k) with
      | none => rw [e2] at h; cases h
      | some q =>
        rw [e2] at h
        cases h
        rcases List.mem_append.mp hc with z | z
        · rw [List.eq_of_mem_replicate z]; exact .head _
        · exact .tail _ (List.mem_of_mem_drop (spread_mem n (r.drop k) q (by rw [List.length_drop]; simp at hn; omega) e2 c z))
theorem lawOut_lt {l : List Nat} (h : ∀ c ∈ l, c < 128) : ∀ c ∈ lawOut l, c < 128 := fun c hc => by
  unfold lawOut at hc
  cases e : spread l with
  | none => rw [e] at hc; cases hc
  | some row =>
    rw [e] at hc
    have hc : c ∈ (if row.length ≤ 80 then row else []) := hc
    by_cases h8 : row.length ≤ 80
    · rw [if_pos h8] at hc
      exact h c (spread_mem l.length l row (Nat.le_refl _) e c hc)
    · rw [if_neg h8] at hc; cases hc
end MR
namespace MR
open PySem PySem.Spec PyProof.Rows L2 MW MT
open SX (S)
def Res.ds : Res → List PyData
  | .txt n => [.str (S [116, 101, 120, 116]), .int (n : Int)]
  | .pic (.num sg w f) => [.str (S [110, 117, 109, 98, 101, 114]), .bool sg, .int (w : Int), .int (f : Int)]
  | .pic (.ed b w f s) => [.str (S [101, 100, 105, 116, 101, 100]), .str (S b), .int (w : Int), .int (f : Int), .str (S s)]
theorem Res.dp {K : PySem.W.Frag} {H : Hp} : ∀ r : Res, DpAll K H r.vs r.ds
  | .txt _ => .cons (.str _) (.cons (.int _) .nil)
  | .pic (.num _ _ _) => .cons (.str _) (.cons (.bl _) (.cons (.int _) (.cons (.int _) .nil)))
  | .pic (.ed _ _ _ _) => .cons (.str _) (.cons (.str _) (.cons (.int _) (.cons (.int _) (.cons (.str _) .nil))))
def Res.Lt : Res → Prop
  | .txt _ => True
  | .pic (.num _ _ _) => True
  | .pic (.ed b _ _ s) => (∀ c ∈ b, c < 128) ∧ ∀ c ∈ s, c < 128
theorem and2 {a b : Bool} (h : a = true) (k : b = true) : (a && b) = true := Bool.and_eq_true_iff.mpr ⟨h, k⟩
theorem Res.lay : ∀ {r : Res}, r.Lt → (PyData.tuple r.ds).canLay0 = true
  | .txt _, _ => and2 (WP.sok_S (l := [116, 101, 120, 116]) (by decide)) rfl
  | .pic (.num _ _ _), _ => and2 (WP.sok_S (l := [110, 117, 109, 98, 101, 114]) (by decide)) rfl
  | .pic (.ed _ _ _ _), h => and2 (WP.sok_S (l := [101, 100, 105, 116, 101, 100]) (by decide)) (and2 (WP.sok_S fun c hc => Nat.lt_trans (h.1 c hc) (by decide)) (and2 rfl (and2 rfl (and2 (WP.sok_S fun c hc => Nat.lt_trans (h.2 c hc) (by decide)) rfl))))
theorem Res.sh : ∀ {r : Res}, r.Lt → SeqAt.shaped (.tuple r.ds) = true
  | .txt _, h => and2 (Res.lay h) rfl
  | .pic (.num _ _ _), h => and2 (Res.lay h) rfl
  | .pic (.ed _ _ _ _), h => and2 (Res.lay h) rfl
theorem Res.ne (r : Res) (x : Str) : PyData.eqv (.tuple r.ds) (.str x) = false := by
  first | rfl | (cases r <;> rfl) | (unfold PyData.eqv; rfl)
theorem not_ed (A B : Prop) [Decidable A] [Decidable B] (sg : Bool) (x y : Nat) (b : List Nat) (w f : Nat) (s : List Nat) : (if A then none else if B then some (MP.Pic.num sg x y) else none) ≠ some (.ed b w f s) := by
  by_cases a : A
  · rw [if_pos a]; simp
  · rw [if_neg a]
    by_cases b : B
    · rw [if_pos b]; simp
    · rw [if_neg b]; simp
theorem row_lt {row : List Nat} {r : Res} (hl : ∀ c ∈ row, c < 128) (h : rowP row = some r) : r.Lt := by
  unfold rowP at h
  by_cases h1 : 1 ≤ row.length ∧ row.length ≤ 80
  · rw [if_pos h1] at h
    by_cases h2 : allM 120 row = true
    · rw [if_pos h2] at h
      cases h
      exact trivial
    · rw [if_neg h2] at h
      cases e : numP row with
      | some p =>
        rw [e] at h
        cases h
        rw [numB] at e
        cases p with
        | num _ _ _ => exact trivial
        | ed _ _ _ _ =>
          exact absurd e (not_ed _ _ _ _ _ _ _ _ _)
      | none =>
        rw [e] at h
        have h : (edP (partP row).1 (partP row).2).map Res.pic = some r := h
        have hp : (∀ c ∈ (partP row).1, c < 128) ∧ ∀ c ∈ (partP row).2, c < 128 := by
          unfold partP
          split
          · exact ⟨fun c hc => hl c (List.mem_of_mem_drop hc), fun c hc => by rw [List.mem_singleton.mp hc]; omega⟩
          · split
            · refine ⟨fun c hc => hl c (List.mem_of_mem_take hc), fun c hc => ?_⟩
              rcases List.mem_cons.mp hc with z | z
              · omega
              · rw [List.mem_singleton.mp z]; omega
            · split
              · exact ⟨fun c hc => hl c (List.mem_of_mem_take hc), fun c hc => hl c (List.mem_of_mem_drop hc)⟩
              · exact ⟨hl, fun c hc => by cases hc⟩
        rw [edP_def] at h
        split at h
        · cases h
        · split at h
          · cases h
          · split at h
            · cases h
            · split at h
              · cases h
              · cases h
                exact hp
  · rw [if_neg h1] at h
    cases h
theorem read_lt {l : List Nat} {r : Res} (hl : ∀ c ∈ l, c < 128) (h : readPic l = some r) : r.Lt := by
  rw [readPic_out] at h
  split at h
  · cases h
  · exact row_lt (lawOut_lt hl) h
end MR

namespace MR
open PySem PySem.Spec PyProof.Rows L2 MW MT
open SX (S)
/-! ### the canonical text -/
def sgm (s : List Nat) : List Nat := s.filter (fun x => !decide (x = 46))
theorem sgm_len (s : List Nat) : (sgm s).length ≤ s.length := List.length_filter_le _ _
def numT (sg : Bool) (w f : Nat) : List Nat := (if sg = true then [115] else []) ++ ((if w = 0 then [] else [57, 40] ++ TL.numL w ++ [41]) ++ (if f = 0 then [] else [118, 57, 40] ++ TL.numL f ++ [41]))
theorem numT_len (sg : Bool) {w f : Nat} (hw : w ≤ 100) (hf : f ≤ 100) : (numT sg w f).length ≤ 20 := by
  unfold numT
  have h1 := (nm hw).1
  have h2 := (nm hf).1
  split <;> split <;> split <;> simp <;> omega
def picT : Res → List Nat
  | .txt n => [120, 40] ++ TL.numL n ++ [41]
  | .pic (.num sg w f) => numT sg w f
  | .pic (.ed b _ _ s) => if s = [45] ∨ s = [43] then s ++ b else b ++ sgm s
end MR
namespace MR
def sizT : Res → Nat
  | .txt n => n
  | .pic (.num sg w f) => w + f + (if sg = true then 1 else 0)
  | .pic (.ed b _ _ s) => b.length + (sgm s).length
end MR
namespace MR
open PySem PySem.Spec PyProof.Rows L2 MW MT
open SX (S)
def isBl : V → Bool
  | .bl _ => true
  | _ => false
def inI : V → Int
  | .int i => i
  | _ => 0
def coS : V → List Nat
  | .str z => z.cps.toList
  | _ => []
theorem coS_S (l : List Nat) : coS (.str (S l)) = l := rfl
def edEq (b : List Nat) (i j : Int) (s : List Nat) : Bool := match edP b s with
  | some (.ed _ w f _) => decide (i = (w : Int)) && decide (j = (f : Int))
  | _ => false
theorem eqv5 {x y z : Str} {i j i' j' : Int} : PyData.eqv (.tuple [.str x, .str y, .int i, .int j, .str z]) (.tuple [.str x, .str y, .int i', .int j', .str z]) = (decide (i = i') && decide (j = j')) := by
  show (PyData.eqv (.str x) (.str x) && (PyData.eqv (.str y) (.str y) && (PyData.eqv (.int i) (.int i') && (PyData.eqv (.int j) (.int j') && (PyData.eqv (.str z) (.str z) && true))))) = _
  have e : ∀ a : Str, PyData.eqv (.str a) (.str a) = true := fun a => by
    show (a == a) = true
    simp
  have e2 : ∀ a b : Int, PyData.eqv (.int a) (.int b) = decide (a = b) := fun a b => by
    show (a == b) = _
    rfl
  rw [e, e, e, e2, e2, Bool.true_and, Bool.true_and, Bool.true_and, Bool.and_true]
theorem eqvN {ds : List PyData} : PyData.eqv (.tuple ds) .none = false := by
  first | rfl | (unfold PyData.eqv; rfl)
end MR
namespace MR
open PySem PySem.Spec PyProof.Rows L2 MW MT
open SX (S)
theorem isBlW {K : PySem.W.Frag} {H : Hp} {v : V} {Q : VK} (h : MW.Wd K H v) (q : Q (.bl (isBl v)) H) : rIsi K [v, .ty "bool"] H Q := by
  cases h with
  | str hl ok => exact WP.isN (.base (.str _)) q
  | non => exact WP.isN (.base .non) q
  | int i => exact WP.isN (.base (.int i)) q
  | bl b => exact WP.isY (.base (.bl b)) q
  | tup h => exact WP.isN (WP.tyT h) q
  | lst h => exact WP.isN (MW.tyL h) q
end MR
namespace MR
theorem edP_form {m sg : List Nat} {p : MP.Pic} (h : edP m sg = some p) : ∃ w f, p = .ed m w f sg := by
  rw [edP_def] at h
  split at h
  · cases h
  · split at h
    · cases h
    · split at h
      · cases h
      · split at h
        · cases h
        · exact ⟨_, _, (Option.some.inj h).symm⟩
end MR
namespace MR
/-- the parts are small -/
def Sm : Res → Prop
  | .txt n => n ≤ 100
  | .pic (.num _ w f) => w ≤ 100 ∧ f ≤ 100
  | .pic (.ed b _ _ s) => b.length ≤ 1000 ∧ s ∈ MP.signs
end MR
namespace MR
open PySem PySem.Spec PyProof.Rows L2 MW MT
open SX (S)
/-- a value that is no tuple -/
inductive NoT (K : PySem.W.Frag) (H : Hp) : V → Prop
  | str {l : List Nat} : NoT K H (.str (S l))
  | non : NoT K H .non
  | int (i : Int) : NoT K H (.int i)
  | lst {p : Addr} {xs : List V} (h : SqL K H p xs) : NoT K H (.ref p)
theorem NoT.isTup {K : PySem.W.Frag} {H : Hp} {v : V} {Q : VK} (h : NoT K H v) (q : Q (.bl false) H) : rIsi K [v, .ty "tuple"] H Q := by
  cases h with
  | str => exact WP.isN (.base (.str _)) q
  | non => exact WP.isN (.base .non) q
  | int i => exact WP.isN (.base (.int i)) q
  | lst h => exact WP.isN (MW.tyL h) q
end MR
namespace MR
open PySem PySem.Spec PyProof.Rows L2 MW MT
theorem Res.len : ∀ r : Res, 2 ≤ r.vs.length ∧ r.vs.length ≤ 5
  | .txt _ => ⟨by show 2 ≤ 2; decide, by show 2 ≤ 5; decide⟩
  | .pic (.num _ _ _) => ⟨by show 2 ≤ 4; decide, by show 4 ≤ 5; decide⟩
  | .pic (.ed _ _ _ _) => ⟨by show 2 ≤ 5; decide, by show 5 ≤ 5; decide⟩
theorem at_V {ls : List V} {i : Int} (h0 : 0 ≤ i) (h1 : i < (ls.length : Int)) : ∃ a ∈ ls, atI ls i = some a := by
  obtain ⟨j, rfl⟩ : ∃ j : Nat, i = (j : Int) := ⟨i.toNat, by omega⟩
  have hj : j < ls.length := by omega
  exact ⟨ls[j], List.getElem_mem hj, atI_nat (List.getElem?_eq_getElem hj)⟩
end MR
namespace MR
open PySem PySem.Spec PyProof.Rows L2 MW MT
open SX (S)
/-- the bodies that the law draws, and the odd texts that it puts in -/
def BODS : List (List Nat) := (MP.bodies ++ MP.bodies.flatMap (fun b => [[57], [57, 57], [57, 57, 57]].map fun f => b ++ [46] ++ f)) ++ [[], [122, 57], [57, 57], [57, 46, 57], [45], [46, 45], [99, 114], [120], [116, 101, 120, 116], [110, 117, 109, 98, 101, 114], [101, 100, 105, 116, 101, 100]]
def GoodB (xs : List V) : Prop := ∀ z : Str, xs[1]? = some (.str z) → ∃ l ∈ BODS, z = S l
end MR

namespace MF
open PySem PySem.Spec PyProof.Rows L2 MP
/-! ### fields read back -/
def siz (p : Pic) : Nat := MR.sizT (.pic p)
def lk : List Nat → List Nat → List Nat
  | m :: ms, c :: cs => if isD m = true then (if 48 ≤ c ∧ c ≤ 57 then c else 48) :: lk ms cs else lk ms cs
  | _, _ => []
theorem lk_len : ∀ ms cs : List Nat, ms.length = cs.length → (lk ms cs).length = (ms.filter isD).length
  | [], [], _ => rfl
  | m :: ms, c :: cs, h => by
    have ih := lk_len ms cs (by simpa using h)
    unfold lk
    by_cases d : isD m = true
    · rw [if_pos d, List.filter_cons, if_pos d, List.length_cons, List.length_cons, ih]
    · rw [if_neg d, List.filter_cons, if_neg d, ih]
theorem lk_dig : ∀ ms cs : List Nat, ∀ c ∈ lk ms cs, 48 ≤ c ∧ c ≤ 57
  | [], _, c, h => by unfold lk at h; cases h
  | _ :: _, [], c, h => by unfold lk at h; cases h
  | m :: ms, x :: cs, c, h => by
    unfold lk at h
    by_cases d : isD m = true
    · rw [if_pos d] at h
      rcases List.mem_cons.mp h with e | e
      · rw [e]
        split
        · assumption
        · decide
      · exact lk_dig ms cs c e
    · rw [if_neg d] at h
      exact lk_dig ms cs c h
theorem lk_body (fill : Nat) (hf : fill < 48) : ∀ (ms : List Nat) (hid : Bool) (fs : List Nat), (∀ c ∈ fs, 48 ≤ c ∧ c ≤ 57) → (ms.filter isD).length = fs.length → lk ms (bodyF fill hid ms fs) = fs ∧ (bodyF fill hid ms fs).length = ms.length
  | [], hid, fs, _, h => by
    have : fs = [] := List.length_eq_zero_iff.mp h.symm
    subst this
    unfold bodyF
    exact ⟨rfl, rfl⟩
  | m :: ms, hid, fs, hd, h => by
    by_cases d : isD m = true
    · rw [List.filter_cons, if_pos d, List.length_cons] at h
      match fs, h, hd with
      | [], h, _ => cases h
      | c :: cs, h, hd =>
        rw [bodyF_D d]
        have ih := lk_body fill hf ms (hid && (!(m == 57)) && (c == 48)) cs (fun c hc => hd c (.tail _ hc)) (by simpa using h)
        have hc := hd c (.head _)
        refine ⟨?_, by rw [List.length_cons, ih.2, List.length_cons]⟩
        unfold lk
        rw [if_pos d, ih.1]
        congr 1
        cases e : (hid && (!(m == 57)) && (c == 48)) with
        | false => rw [if_neg Bool.false_ne_true, if_pos hc]
        | true =>
          rw [if_pos rfl, if_neg (by omega)]
          have : (c == 48) = true := by
            rw [Bool.and_eq_true] at e; exact e.2
          exact (eq_of_beq this).symm
    · rw [List.filter_cons, if_neg d] at h
      by_cases h46 : m = 46
      · subst h46
        rw [bodyF_P]
        have ih := lk_body fill hf ms false fs hd h
        exact ⟨by unfold lk; rw [if_neg d, ih.1], by rw [List.length_cons, ih.2, List.length_cons]⟩
      · rw [bodyF_I (by simpa using d) h46]
        have ih := lk_body fill hf ms hid fs hd h
        exact ⟨by unfold lk; rw [if_neg d, ih.1], by rw [List.length_cons, ih.2, List.length_cons]⟩
theorem lk_nine : ∀ fs : List Nat, (∀ c ∈ fs, 48 ≤ c ∧ c ≤ 57) → lk (List.replicate fs.length 57) fs = fs
  | [], _ => rfl
  | c :: cs, h => by
    rw [List.length_cons, List.replicate_succ]
    unfold lk
    rw [if_pos (show isD 57 = true from rfl), if_pos (h c (.head _)), lk_nine cs fun c hc => h c (.tail _ hc)]
theorem nine_ct (n : Nat) : ((List.replicate n 57).filter isD).length = n := by
  rw [List.filter_replicate, if_pos (show isD 57 = true from rfl), List.length_replicate]
/-- the value of figures -/
theorem dv_app (a : Nat) (l : List Nat) (c : Nat) : (l ++ [c]).foldl (fun acc c => acc * 10 + (c - 48)) a = l.foldl (fun acc c => acc * 10 + (c - 48)) a * 10 + (c - 48) := by
  rw [List.foldl_append]; rfl
theorem dv_pad : ∀ k n : Nat, n < 10 ^ k → NumText.digitsVal (WP.padL k n) = n
  | 0, n, h => by
    have : n = 0 := by simpa using h
    subst this; rfl
  | k + 1, n, h => by
    have e10 : 10 ^ (k + 1) = 10 ^ k * 10 := Nat.pow_succ ..
    have ih := dv_pad k (n / 10) (by omega)
    unfold NumText.digitsVal at ih ⊢
    rw [show WP.padL (k + 1) n = WP.padL k (n / 10) ++ [48 + n % 10] from rfl, dv_app, ih]
    omega
theorem dv_lt : ∀ l : List Nat, (∀ c ∈ l, 48 ≤ c ∧ c ≤ 57) → NumText.digitsVal l < 10 ^ l.length := by
  intro l
  have h : ∀ n, ∀ l : List Nat, l.length = n → (∀ c ∈ l, 48 ≤ c ∧ c ≤ 57) → NumText.digitsVal l < 10 ^ n := by
    intro n
    induction n with
    | zero =>
      intro l hl _
      have : l = [] := List.length_eq_zero_iff.mp hl
      subst this
      decide
    | succ n ih =>
      intro l hl hd
      have hne : l ≠ [] := fun e => by rw [e] at hl; cases hl
      have e := List.dropLast_concat_getLast hne
      have hm := hd (l.getLast hne) (List.getLast_mem hne)
      have h2 := ih l.dropLast (by rw [List.length_dropLast, hl]; rfl) fun c hc => hd c (List.dropLast_subset l hc)
      rw [← e]
      unfold NumText.digitsVal at h2 ⊢
      rw [dv_app, Nat.pow_succ]
      omega
  exact h _ l rfl
theorem padL_dig : ∀ (k n c : Nat), c ∈ WP.padL k n → 48 ≤ c ∧ c ≤ 57
  | 0, _, _, h => by cases h
  | k + 1, n, c, h => by
    rcases List.mem_append.mp (show c ∈ WP.padL k (n / 10) ++ [48 + n % 10] from h) with e | e
    · exact padL_dig k _ c e
    · rw [List.mem_singleton.mp e]; omega
/-! ### the parts of a text -/
def many (p : Pic) (l : List Nat) : Nat := match p with
  | .num _ _ _ => l.length
  | .ed b _ _ _ => b.length
def cutS (p : Pic) (l : List Nat) : List Nat := if p.sgn ∈ [[45], [43]] then l.take 1 else l.drop (many p l)
def cutB (p : Pic) (l : List Nat) : List Nat := if p.sgn ∈ [[45], [43]] then l.drop 1 else l.take (many p l)
def mks (p : Pic) (b : List Nat) : List Nat := match p with
  | .num _ _ _ => List.replicate b.length 57
  | .ed m _ _ _ => m
def NEG : List (List Nat) := [[45], [67, 82], [68, 66]]
def likely (p : Pic) (l : List Nat) : Int :=
  if cutS p l ∈ NEG then -((NumText.digitsVal (lk (mks p (cutB p l)) (cutB p l)) : Nat) : Int) else ((NumText.digitsVal (lk (mks p (cutB p l)) (cutB p l)) : Nat) : Int)
def rd (p : Pic) (l : List Nat) : Option Int := if l.length = siz p ∧ writ p (likely p l) = l then some (likely p l) else none
def rdV : Option Int → V
  | none => .non
  | some u => .int u
def hld (r : MR.Res) (l : List Nat) : Bool := match r with
  | .txt n => decide (l.length = n) && MW.prn l
  | .pic p => (rd p l).isSome
theorem sgm_l : ∀ s ∈ MP.signs, (MR.sgm s).length = (if s = [] then 0 else if s = [99, 114] ∨ s = [100, 98] then 2 else 1) := by decide
theorem sgnT (w f : Nat) : (Pic.num true w f).sgn ∈ [[45], [43]] := show [43] ∈ [[45], [43]] by decide
theorem sgnF (w f : Nat) : ¬ (Pic.num false w f).sgn ∈ [[45], [43]] := show ¬ [] ∈ [[45], [43]] by decide
theorem sgnE (b : List Nat) (w f : Nat) : ¬ (Pic.ed b w f []).sgn ∈ [[45], [43]] := show ¬ [] ∈ [[45], [43]] by decide
theorem neg0 : ¬ ([] : List Nat) ∈ NEG := by decide
/-- the marks go with the body -/
theorem body_ok {p : Pic} {l : List Nat} (ho : p.Ok) (hl : l.length = siz p) : (mks p (cutB p l)).length = (cutB p l).length ∧ ((mks p (cutB p l)).filter isD).length = p.n ∧ (cutB p l).length ≤ 60 := by
  cases p with
  | num sg w f =>
    have h1 : w + f ≤ 18 := ho.2
    have hl : l.length = w + f + (if sg = true then 1 else 0) := hl
    have e : (cutB (.num sg w f) l).length = w + f := by
      unfold cutB
      cases sg with
      | true => rw [if_pos (sgnT w f), List.length_drop]; simp at hl; omega
      | false =>
        rw [if_neg (sgnF w f)]
        show (l.take l.length).length = _
        rw [List.take_length]
        simpa using hl
    refine ⟨List.length_replicate .., ?_, by omega⟩
    show ((List.replicate (cutB (.num sg w f) l).length 57).filter isD).length = w + f
    rw [nine_ct, e]
  | ed b w f s =>
    have hb := ho.2.2.1
    have hl : l.length = b.length + (MR.sgm s).length := hl
    have hs := sgm_l s ho.2.2.2
    have e : (cutB (.ed b w f s) l).length = b.length := by
      unfold cutB
      show (if s ∈ [[45], [43]] then l.drop 1 else l.take b.length).length = _
      by_cases h : s ∈ [[45], [43]]
      · rw [if_pos h, List.length_drop]
        have h' : s = [45] ∨ s = [43] := by simpa using h
        rcases h' with rfl | rfl <;> simp [MR.sgm] at hl <;> omega
      · rw [if_neg h, List.length_take]; omega
    exact ⟨e.symm, hb.ct, by have := hb.ln; omega⟩
theorem figs_ok {p : Pic} {l : List Nat} (ho : p.Ok) (hl : l.length = siz p) : (lk (mks p (cutB p l)) (cutB p l)).length = p.n := by
  obtain ⟨h1, h2, _⟩ := body_ok ho hl
  rw [lk_len _ _ h1, h2]
/-- a sign that is negative stands only where the picture has one -/
theorem neg_sgd {p : Pic} {l : List Nat} (ho : p.Ok) (hl : l.length = siz p) (h : cutS p l ∈ NEG) : p.sgd = true := by
  cases p with
  | num sg w f =>
    cases sg with
    | true => rfl
    | false =>
      exfalso
      unfold cutS at h
      rw [if_neg (sgnF w f)] at h
      have : (l.drop (many (.num false w f) l)) = [] := List.drop_length
      rw [this] at h
      exact neg0 h
  | ed b w f s =>
    by_cases e : s = []
    · exfalso
      subst e
      have hl : l.length = b.length + 0 := hl
      unfold cutS at h
      rw [if_neg (sgnE b w f)] at h
      have : (l.drop (many (.ed b w f []) l)) = [] := List.drop_eq_nil_of_le (by show l.length ≤ b.length; omega)
      rw [this] at h
      exact neg0 h
    · show (!decide (s = [])) = true
      rw [decide_eq_false e]; rfl
theorem likely_suits {p : Pic} {l : List Nat} (ho : p.Ok) (hl : l.length = siz p) : Suits p (likely p l) := by
  have h := dv_lt _ (lk_dig (mks p (cutB p l)) (cutB p l))
  rw [figs_ok ho hl] at h
  unfold likely
  split
  · rename_i hn
    exact ⟨by rw [Int.natAbs_neg, Int.natAbs_natCast]; exact h, .inr (neg_sgd ho hl hn)⟩
  · exact ⟨by rw [Int.natAbs_natCast]; exact h, .inl (by omega)⟩
theorem sg_len : ∀ s ∈ MP.signs, ∀ neg : Bool, (signText s neg).length = (MR.sgm s).length := by decide
theorem sg_neg : ∀ s ∈ MP.signs, s ≠ [] → ∀ neg : Bool, decide (signText s neg ∈ NEG) = neg := by decide
theorem bt_len {b : List Nat} {n : Nat} {fs : List Nat} (hb : Body b n) (hf : ∀ c ∈ fs, 48 ≤ c ∧ c ≤ 57) (hl : fs.length = n) : lk b (bodyText b fs) = fs ∧ (bodyText b fs).length = b.length :=
  lk_body _ (by unfold fillOf; split <;> decide) _ _ _ hf (by rw [hb.ct, hl])
/-- the sign and the body of a field -/
theorem writ_parts {p : Pic} {u : Int} (ho : p.Ok) (hs : Suits p u) : (writ p u).length = siz p ∧ (cutS p (writ p u) ∈ NEG ↔ u < 0) ∧ lk (mks p (cutB p (writ p u))) (cutB p (writ p u)) = WP.padL p.n u.natAbs := by
  have pd := fun c hc => padL_dig p.n u.natAbs c hc
  have pl := WP.padL_len p.n u.natAbs
  cases p with
  | num sg w f =>
    have pl' : (WP.padL (w + f) u.natAbs).length = w + f := pl
    have e : writ (.num sg w f) u = signText (if sg then [43] else []) (decide (u < 0)) ++ WP.padL (w + f) u.natAbs := rfl
    have nine : lk (List.replicate (WP.padL (w + f) u.natAbs).length 57) (WP.padL (w + f) u.natAbs) = WP.padL (w + f) u.natAbs := lk_nine _ pd
    rw [e]
    cases sg with
    | false =>
      have e0 : signText (if false = true then [43] else []) (decide (u < 0)) = [] := rfl
      rw [e0, List.nil_append]
      have eS : cutS (.num false w f) (WP.padL (w + f) u.natAbs) = [] := by
        unfold cutS
        rw [if_neg (sgnF w f)]
        exact List.drop_length
      have eB : cutB (.num false w f) (WP.padL (w + f) u.natAbs) = WP.padL (w + f) u.natAbs := by
        unfold cutB
        rw [if_neg (sgnF w f)]
        exact List.take_length
      refine ⟨pl', ?_, ?_⟩
      · rw [eS]
        have : ¬ u < 0 := by
          rcases hs.2 with h | h
          · omega
          · cases h
        exact ⟨fun h => absurd h neg0, fun h => absurd h this⟩
      · rw [eB]; exact nine
    | true =>
      have hl : (signText (if true = true then [43] else []) (decide (u < 0))).length = 1 := by
        have := sg_len [43] (by decide) (decide (u < 0))
        exact this
      have hn := sg_neg [43] (by decide) (by decide) (decide (u < 0))
      have hn : decide (signText (if true = true then [43] else []) (decide (u < 0)) ∈ NEG) = decide (u < 0) := hn
      generalize signText (if true = true then [43] else []) (decide (u < 0)) = sg at hl hn ⊢
      have eS : cutS (.num true w f) (sg ++ WP.padL (w + f) u.natAbs) = sg := by
        unfold cutS
        rw [if_pos (sgnT w f), List.take_append_of_le_length (by omega), List.take_of_length_le (by omega)]
      have eB : cutB (.num true w f) (sg ++ WP.padL (w + f) u.natAbs) = WP.padL (w + f) u.natAbs := by
        unfold cutB
        rw [if_pos (sgnT w f), ← hl, List.drop_left]
      refine ⟨by rw [List.length_append, hl, pl']; show 1 + (w + f) = w + f + 1; omega, ?_, ?_⟩
      · rw [eS]
        exact decide_eq_decide.mp hn
      · rw [eB]; exact nine
  | ed b w f s =>
    have hb := ho.2.2.1
    have hsg := ho.2.2.2
    obtain ⟨k1, k2⟩ := bt_len (fs := WP.padL (w + f) u.natAbs) hb pd pl
    have hl := sg_len s hsg (decide (u < 0))
    have e : writ (.ed b w f s) u = if s = [45] ∨ s = [43] then signText s (decide (u < 0)) ++ bodyText b (WP.padL (w + f) u.natAbs) else bodyText b (WP.padL (w + f) u.natAbs) ++ signText s (decide (u < 0)) := rfl
    have hneg : signText s (decide (u < 0)) ∈ NEG ↔ u < 0 := by
      by_cases hn : s = []
      · subst hn
        have : ¬ u < 0 := by
          rcases hs.2 with h | h
          · omega
          · cases h
        exact ⟨fun h => absurd h neg0, fun h => absurd h this⟩
      · exact decide_eq_decide.mp (sg_neg s hsg hn (decide (u < 0)))
    rw [e]
    generalize signText s (decide (u < 0)) = sg at *
    generalize bodyText b (WP.padL (w + f) u.natAbs) = T at *
    by_cases c : s = [45] ∨ s = [43]
    · have c' : s ∈ [[45], [43]] := by simpa using c
      have hl1 : sg.length = 1 := by
        rw [hl]
        rcases c with rfl | rfl <;> rfl
      rw [if_pos c]
      have eS : cutS (.ed b w f s) (sg ++ T) = sg := by
        unfold cutS
        rw [if_pos (show (Pic.ed b w f s).sgn ∈ [[45], [43]] from c'), List.take_append_of_le_length (by omega), List.take_of_length_le (by omega)]
      have eB : cutB (.ed b w f s) (sg ++ T) = T := by
        unfold cutB
        rw [if_pos (show (Pic.ed b w f s).sgn ∈ [[45], [43]] from c'), ← hl1, List.drop_left]
      rw [eS, eB]
      exact ⟨by rw [List.length_append, hl, k2]; show _ = b.length + (MR.sgm s).length; omega, hneg, k1⟩
    · have c' : ¬ s ∈ [[45], [43]] := by simpa using c
      rw [if_neg c]
      have eS : cutS (.ed b w f s) (T ++ sg) = sg := by
        unfold cutS
        rw [if_neg (show ¬ (Pic.ed b w f s).sgn ∈ [[45], [43]] from c')]
        show (T ++ sg).drop b.length = sg
        rw [← k2, List.drop_left]
      have eB : cutB (.ed b w f s) (T ++ sg) = T := by
        unfold cutB
        rw [if_neg (show ¬ (Pic.ed b w f s).sgn ∈ [[45], [43]] from c')]
        show (T ++ sg).take b.length = T
        rw [← k2, List.take_left]
      rw [eS, eB]
      exact ⟨by rw [List.length_append, hl, k2]; rfl, hneg, k1⟩
theorem likely_writ {p : Pic} {u : Int} (ho : p.Ok) (hs : Suits p u) : likely p (writ p u) = u := by
  obtain ⟨h1, h2, h3⟩ := writ_parts ho hs
  unfold likely
  rw [h3, dv_pad _ _ hs.1]
  by_cases c : u < 0
  · rw [if_pos (h2.mpr c)]; omega
  · rw [if_neg (fun h => c (h2.mp h))]; omega
theorem rd_writ {p : Pic} {u : Int} (ho : p.Ok) (hs : Suits p u) : rd p (writ p u) = some u := by
  unfold rd
  rw [likely_writ ho hs, if_pos ⟨(writ_parts ho hs).1, rfl⟩]
theorem rd_some {p : Pic} {l : List Nat} {u : Int} (ho : p.Ok) (h : rd p l = some u) : Suits p u ∧ writ p u = l := by
  unfold rd at h
  split at h
  · rename_i c
    cases h
    exact ⟨likely_suits ho c.1, c.2⟩
  · cases h
theorem rd_none {p : Pic} {l : List Nat} (ho : p.Ok) (h : rd p l = none) {u : Int} (hs : Suits p u) : writ p u ≠ l := fun e => by
  rw [← e, rd_writ ho hs] at h
  cases h
theorem siz_le {p : Pic} (ho : p.Ok) : siz p ≤ 64 := by
  cases p with
  | num sg w f =>
    have h1 : w + f ≤ 18 := ho.2
    show w + f + (if sg = true then 1 else 0) ≤ 64
    split <;> omega
  | ed b w f s =>
    have hb := ho.2.2.1.ln
    have hs := sgm_l s ho.2.2.2
    show b.length + (MR.sgm s).length ≤ 64
    rw [hs]
    split
    · omega
    · split <;> omega
theorem cutB_mem {p : Pic} {l : List Nat} {c : Nat} (h : c ∈ cutB p l) : c ∈ l := by
  unfold cutB at h
  split at h
  · exact List.mem_of_mem_drop h
  · exact List.mem_of_mem_take h
theorem figs1 (d : Nat) : MW.figs [d] = decide (48 ≤ d ∧ d ≤ 57) := by
  have e : MW.figs [d] = decide (d ∈ MW.FIG) := by
    unfold MW.figs MW.allIn
    simp
  rw [e]
  congr 1
  refine propext ⟨fun h => ?_, fun ⟨h1, h2⟩ => ?_⟩
  · have h' : d = 48 ∨ d = 49 ∨ d = 50 ∨ d = 51 ∨ d = 52 ∨ d = 53 ∨ d = 54 ∨ d = 55 ∨ d = 56 ∨ d = 57 := by simpa [MW.FIG] using h
    omega
  · have : ∀ d < 58, 48 ≤ d → d ∈ MW.FIG := by decide
    exact this d (by omega) h1
theorem lk_drop {mk bd : List Nat} {i c d : Nat} (h1 : mk[i]? = some c) (h2 : bd[i]? = some d) : lk (mk.drop i) (bd.drop i) = (if isD c = true then [if 48 ≤ d ∧ d ≤ 57 then d else 48] else []) ++ lk (mk.drop (i + 1)) (bd.drop (i + 1)) := by
  rw [drop_some h1, drop_some h2]
  show (if isD c = true then _ else _) = _
  split <;> rfl
theorem flat1 : ∀ l : List Nat, (l.map fun c => [c]).flatten = l
  | [] => rfl
  | c :: l => by rw [List.map_cons, List.flatten_cons, flat1 l]; rfl
theorem sum1 : ∀ l : List Nat, (l.map ((fun x : List Nat => x.length) ∘ fun c => [c])).sum = l.length
  | [] => rfl
  | c :: l => by rw [List.map_cons, List.sum_cons, sum1 l, List.length_cons]; show 1 + _ = _; omega
theorem dig_all {l : List Nat} (h : ∀ c ∈ l, 48 ≤ c ∧ c ≤ 57) : l.all (fun c => decide (48 ≤ c) && decide (c ≤ 57)) = true := by
  rw [List.all_eq_true]
  intro c hc
  rw [Bool.and_eq_true, decide_eq_true_eq, decide_eq_true_eq]
  exact h c hc
/-- the signs at the digits' places, as they stand -/
def raw : List Nat → List Nat → List Nat
  | m :: ms, c :: cs => if isD m = true then c :: raw ms cs else raw ms cs
  | _, _ => []
def fx (c : Nat) : Nat := if 48 ≤ c ∧ c ≤ 57 then c else 48
theorem raw_lk : ∀ ms cs : List Nat, (raw ms cs).map fx = lk ms cs
  | [], _ => by unfold raw lk; rfl
  | _ :: _, [] => by unfold raw lk; rfl
  | m :: ms, c :: cs => by
    unfold raw lk
    by_cases d : isD m = true
    · rw [if_pos d, if_pos d, List.map_cons, raw_lk ms cs]; rfl
    · rw [if_neg d, if_neg d, raw_lk ms cs]
theorem raw_take : ∀ {ms cs : List Nat} {i c d : Nat}, ms[i]? = some c → cs[i]? = some d → raw (ms.take (i + 1)) (cs.take (i + 1)) = raw (ms.take i) (cs.take i) ++ if isD c = true then [d] else []
  | [], _, _, _, _, h, _ => by simp at h
  | _ :: _, [], _, _, _, _, h => by simp at h
  | m :: ms, x :: cs, 0, c, d, h1, h2 => by
    simp at h1 h2
    subst h1 h2
    show raw (m :: []) (x :: []) = raw [] [] ++ _
    unfold raw
    split <;> rfl
  | m :: ms, x :: cs, i + 1, c, d, h1, h2 => by
    have ih := raw_take (ms := ms) (cs := cs) (i := i) (by simpa using h1) (by simpa using h2)
    show raw (m :: ms.take (i + 1)) (x :: cs.take (i + 1)) = raw (m :: ms.take i) (x :: cs.take i) ++ _
    unfold raw
    by_cases d : isD m = true
    · rw [if_pos d, if_pos d, ih]; rfl
    · rw [if_neg d, if_neg d, ih]
theorem fig_mem (c : Nat) : c ∈ [48, 49, 50, 51, 52, 53, 54, 55, 56, 57] ↔ 48 ≤ c ∧ c ≤ 57 := by
  refine ⟨fun h => ?_, fun ⟨h1, h2⟩ => ?_⟩
  · have h' : c = 48 ∨ c = 49 ∨ c = 50 ∨ c = 51 ∨ c = 52 ∨ c = 53 ∨ c = 54 ∨ c = 55 ∨ c = 56 ∨ c = 57 := by simpa using h
    omega
  · have : ∀ d < 58, 48 ≤ d → d ∈ [48, 49, 50, 51, 52, 53, 54, 55, 56, 57] := by decide
    exact this c (by omega) h1
end MF

namespace WP
open PySem PySem.Spec PyProof.Rows L2
theorem op_isBl {X : Cx} : OpR X (compareOp .Is) rIsB := L2.op_isBl
theorem op_notBl {X : Cx} : OpR X (compareOp .IsNot) rNotB := L2.op_notBl
theorem isBl {a b : Bool} {H : Hp} {Q : VK} (q : Q (.bl (decide (a = b))) H) : rIsB (.bl a) (.bl b) H Q := ⟨a, b, rfl, rfl, q⟩
theorem at_C {l : List Nat} {i : Int} (h0 : 0 ≤ i) (h1 : i < (l.length : Int)) : ∃ c, c ∈ l ∧ atI l i = some c := by
  have hl : i.toNat < l.length := by omega
  refine ⟨l[i.toNat], List.getElem_mem hl, ?_⟩
  have := atI_nat (xs := l) (j := i.toNat) (List.getElem?_eq_getElem hl)
  rw [Int.toNat_of_nonneg h0] at this
  exact this
end WP
namespace MF
open PySem PySem.Spec PyProof.Rows L2 MP
theorem range_none (P : Nat → Bool) : ∀ n, (∀ j < n, P j = false) → (List.range n).filter P = [] := fun n h => by
  rw [List.filter_eq_nil_iff]
  intro j hj
  rw [h j (List.mem_range.mp hj)]
  exact Bool.false_ne_true
theorem range_one (P : Nat → Bool) : ∀ n a, a < n → (∀ j < n, P j = decide (j = a)) → (List.range n).filter P = [a]
  | 0, a, h, _ => absurd h (by omega)
  | n + 1, a, h, hp => by
    rw [List.range_succ, List.filter_append]
    by_cases e : a = n
    · subst e
      rw [range_none P a fun j hj => by rw [hp j (by omega)]; exact decide_eq_false (by omega)]
      have : P a = true := by rw [hp a (by omega)]; exact decide_eq_true rfl
      simp [this]
    · rw [range_one P n a (by omega) fun j hj => hp j (by omega)]
      have : P n = false := by rw [hp n (by omega)]; exact decide_eq_false (by omega)
      simp [this]
def knw (p : Pic) (l : List Nat) : List Int := match rd p l with
  | none => []
  | some u => [u]
def fnd1 (p : Pic) (l : List Nat) (i : Nat) : List Int := ((List.range i).filter fun (j : Nat) => decide (writ p (j : Int) = l)).map fun (j : Nat) => (j : Int)
def fnd2 (p : Pic) (l : List Nat) (i : Nat) : List Int := ((List.range i).filter fun (j : Nat) => decide (writ p (-(1 + (j : Int))) = l)).map fun (j : Nat) => -(1 + (j : Int))
theorem fnd1_succ (p : Pic) (l : List Nat) (i : Nat) : fnd1 p l (i + 1) = fnd1 p l i ++ (if writ p (i : Int) = l then [(i : Int)] else []) := by
  unfold fnd1
  rw [List.range_succ, List.filter_append, List.map_append]
  congr 1
  by_cases h : writ p (i : Int) = l
  · simp [h]
  · simp [h]
theorem fnd2_succ (p : Pic) (l : List Nat) (i : Nat) : fnd2 p l (i + 1) = fnd2 p l i ++ (if writ p (-(1 + (i : Int))) = l then [-(1 + (i : Int))] else []) := by
  unfold fnd2
  rw [List.range_succ, List.filter_append, List.map_append]
  congr 1
  by_cases h : writ p (-(1 + (i : Int))) = l
  · simp [h]
  · simp [h]
theorem fnd1_len (p : Pic) (l : List Nat) (i : Nat) : (fnd1 p l i).length ≤ i := by
  unfold fnd1
  rw [List.length_map]
  exact Nat.le_trans (List.length_filter_le _ (List.range i)) (Nat.le_of_eq List.length_range)
theorem fnd2_len (p : Pic) (l : List Nat) (i : Nat) : (fnd2 p l i).length ≤ i := by
  unfold fnd2
  rw [List.length_map]
  exact Nat.le_trans (List.length_filter_le _ (List.range i)) (Nat.le_of_eq List.length_range)
theorem writ_iff {p : Pic} {l : List Nat} {u v : Int} (ho : p.Ok) (h : rd p l = some u) (hv : Suits p v) : writ p v = l ↔ v = u := by
  refine ⟨fun e => ?_, fun e => by rw [e]; exact (rd_some ho h).2⟩
  rw [← e, rd_writ ho hv] at h
  exact Option.some.inj h
theorem known_eq {p : Pic} {l : List Nat} (ho : p.Ok) : fnd1 p l (10 ^ p.n) ++ (if p.sgd = true then fnd2 p l (10 ^ p.n - 1) else []) = knw p l := by
  have hT : 0 < 10 ^ p.n := Nat.pow_pos (by decide)
  have s1 : ∀ j : Nat, j < 10 ^ p.n → Suits p (j : Int) := fun j hj => ⟨by rw [Int.natAbs_natCast]; exact hj, .inl (by omega)⟩
  have s2 : p.sgd = true → ∀ j : Nat, j < 10 ^ p.n - 1 → Suits p (-(1 + (j : Int))) := fun h j hj => ⟨by omega, .inr h⟩
  unfold knw
  cases e : rd p l with
  | none =>
    have f1 : fnd1 p l (10 ^ p.n) = [] := by
      unfold fnd1
      rw [range_none _ _ fun j hj => decide_eq_false (rd_none ho e (s1 j hj))]
      rfl
    rw [f1, List.nil_append]
    split
    · rename_i h
      unfold fnd2
      rw [range_none _ _ fun j hj => decide_eq_false (rd_none ho e (s2 h j hj))]
      rfl
    · rfl
  | some u =>
    have hu := (rd_some ho e).1
    by_cases c : u < 0
    · have f1 : fnd1 p l (10 ^ p.n) = [] := by
        unfold fnd1
        rw [range_none _ _ fun j hj => decide_eq_false (fun z => by have := (writ_iff ho e (s1 j hj)).mp z; omega)]
        rfl
      have hs : p.sgd = true := by
        rcases hu.2 with h | h
        · omega
        · exact h
      rw [f1, List.nil_append, if_pos hs]
      unfold fnd2
      rw [range_one _ (10 ^ p.n - 1) (-u - 1).toNat (by have := hu.1; omega) fun j hj => ?_]
      · show [-(1 + (((-u - 1).toNat : Nat) : Int))] = [u]
        congr 1
        omega
      · rw [decide_eq_decide, writ_iff ho e (s2 hs j hj)]
        omega
    · have f1 : fnd1 p l (10 ^ p.n) = [u] := by
        unfold fnd1
        rw [range_one _ (10 ^ p.n) u.toNat (by have := hu.1; omega) fun j hj => ?_]
        · show [((u.toNat : Nat) : Int)] = [u]
          congr 1
          omega
        · rw [decide_eq_decide, writ_iff ho e (s1 j hj)]
          omega
      rw [f1]
      split
      · rename_i h
        unfold fnd2
        rw [range_none _ _ fun j hj => decide_eq_false (fun z => by have := (writ_iff ho e (s2 h j hj)).mp z; omega)]
        rfl
      · rfl
/-- the signs that may be put in -/
def CHG : List Nat := [48, 49, 53, 57, 32, 42, 45, 43, 44, 46, 47, 67, 82, 68, 66, 10, 120]
def TXB : List Nat := [97, 98, 32, 99, 47]
theorem prn_nl {l : List Nat} (h : ∀ c ∈ l, c ∈ TXB ∨ c ∈ CHG) : MW.prn l = !decide (10 ∈ l) := by
  unfold MW.prn
  by_cases e : 10 ∈ l
  · rw [decide_eq_true e]
    have : l.all (fun c => decide (32 ≤ c ∧ c ≤ 126 ∧ c ≠ 37)) = false := by
      rw [List.all_eq_false]
      exact ⟨10, e, by decide⟩
    rw [this]; rfl
  · rw [decide_eq_false e]
    have : l.all (fun c => decide (32 ≤ c ∧ c ≤ 126 ∧ c ≠ 37)) = true := by
      rw [List.all_eq_true]
      intro c hc
      have k : ∀ c ∈ TXB ++ CHG, c ≠ 10 → decide (32 ≤ c ∧ c ≤ 126 ∧ c ≠ 37) = true := by decide
      refine k c ?_ (fun z => e (z ▸ hc))
      rw [List.mem_append]
      exact h c hc
    rw [this]; rfl
def TX3 : List Nat := TXB ++ TXB ++ TXB
theorem mul3 : Txt.mul (SX.S TXB) 3 = SX.S TX3 := by decide +kernel
theorem mulOk3 : MulOk (SX.S TXB) 3 := by
  refine ⟨by decide +kernel, fun _ _ => by decide +kernel, fun _ _ => ?_⟩
  unfold Builtin.Str.tooLong
  exact decide_eq_false (by rw [sizeLine_eq]; decide +kernel)
theorem hld_eq {n : Nat} {l : List Nat} (h : ∀ c ∈ l, c ∈ TXB ∨ c ∈ CHG) : hld (.txt n) l = (decide (l.length = n) && !decide (10 ∈ l)) := by
  show (decide (l.length = n) && MW.prn l) = _
  rw [prn_nl h]
theorem chg_lt : ∀ c ∈ CHG, c < 128 := by decide
theorem txb_lt : ∀ c ∈ TXB, c < 128 := by decide
theorem tx3_mem {c : Nat} (h : c ∈ TX3) : c ∈ TXB := by
  unfold TX3 at h
  rw [List.mem_append, List.mem_append] at h
  rcases h with (h | h) | h <;> exact h
theorem writ_lt {p : Pic} {u : Int} (ho : p.Ok) : ∀ c ∈ writ p u, c < 128 := fun c hc => by
  cases p with
  | num sg w f =>
    rcases List.mem_append.mp (show c ∈ signText (if sg then [43] else []) (decide (u < 0)) ++ WP.padL (w + f) u.natAbs from hc) with e | e
    · refine signText_lt _ ?_ _ c e
      cases sg
      · exact (show ([] : List Nat) ∈ MP.signs by decide)
      · exact (show ([43] : List Nat) ∈ MP.signs by decide)
    · have := padL_dig _ _ c e
      omega
  | ed b w f s =>
    have hb : ∀ c ∈ bodyText b (WP.padL (w + f) u.natAbs), c < 128 := bodyF_lt _ (by unfold fillOf; split <;> decide) _ _ _ ho.2.2.1.ok (fun c hc => by have := padL_dig _ _ c hc; omega)
    have hs := signText_lt s ho.2.2.2 (decide (u < 0))
    have hc' : c ∈ (if s = [45] ∨ s = [43] then signText s (decide (u < 0)) ++ bodyText b (WP.padL (w + f) u.natAbs) else bodyText b (WP.padL (w + f) u.natAbs) ++ signText s (decide (u < 0))) := hc
    split at hc'
    · rcases List.mem_append.mp hc' with e | e
      · exact hs c e
      · exact hb c e
    · rcases List.mem_append.mp hc' with e | e
      · exact hb c e
      · exact hs c e
theorem mulTX {H : Hp} {Q : VK} (q : Q (.str (SX.S TX3)) H) : WP.rMulS (.str (SX.S [97, 98, 32, 99, 47])) (.int 3) H Q := ⟨SX.S TXB, 3, rfl, rfl, mulOk3, by rw [mul3]; exact q⟩
end MF

namespace MS
open PySem PySem.Spec PyProof.Rows L2
/-! ### storages and records -/
def sgn (l : List Nat) : List V := (l.map fun c => SX.S [c]).map V.str
theorem sgn_eq (l : List Nat) : (l.map fun c => [c]).map SX.S = l.map fun c => SX.S [c] := by rw [List.map_map]; rfl
theorem sgn_len (l : List Nat) : (sgn l).length = l.length := by unfold sgn; rw [List.length_map, List.length_map]
/-- a storage at x, its list at d -/
def StAt (mg : WP.MG) (H : Hp) (x d : Addr) (l : List Nat) : Prop := ∃ dx, H x = some (.ins (WP.ca mg "Storage") dx [("_characters", .ref d)]) ∧ H d = some (.lst (sgn l))
/-- pairs of offsets and pictures -/
def CellsAt (K : PySem.W.Frag) (H : Hp) (q : Addr) (cs : List (Nat × MR.Res)) : Prop := ∃ ps : List Addr, SqL K H q (ps.map V.ref) ∧ ps.length = cs.length ∧ ∀ (i : Nat) (p : Addr) (c : Nat × MR.Res), ps[i]? = some p → cs[i]? = some c → ∃ pp, SqT K H p [.int (c.1 : Int), .ref pp] ∧ SqT K H pp c.2.vs
def recH (n : Nat) (cs : List (Nat × MR.Res)) (l : List Nat) : Bool := decide (l.length = n) && cs.all fun c => MF.hld c.2 ((l.drop c.1).take (MR.sizT c.2))
def txtP (ps : List (MR.Res × List Nat)) : List Nat := (ps.map (·.2)).flatten
def offs : Nat → List (MR.Res × List Nat) → List (Nat × MR.Res)
  | _, [] => []
  | o, p :: ps => (o, p.1) :: offs (o + p.2.length) ps
structure PartOk (p : MR.Res × List Nat) : Prop where
  ln : p.2.length = MR.sizT p.1
  s1 : 1 ≤ p.2.length
  s2 : p.2.length ≤ 64
  ok : ∀ q, p.1 = .pic q → q.Ok
  hl : MF.hld p.1 p.2 = true
  lt : ∀ c ∈ p.2, c < 128
theorem txtP_app (ps : List (MR.Res × List Nat)) (p : MR.Res × List Nat) : txtP (ps ++ [p]) = txtP ps ++ p.2 := by unfold txtP; simp
theorem offs_app : ∀ (ps : List (MR.Res × List Nat)) (o : Nat) (p : MR.Res × List Nat), offs o (ps ++ [p]) = offs o ps ++ [(o + (txtP ps).length, p.1)]
  | [], o, p => by simp [offs, txtP]
  | x :: ps, o, p => by
    show (o, x.1) :: offs (o + x.2.length) (ps ++ [p]) = ((o, x.1) :: offs (o + x.2.length) ps) ++ [(o + (txtP (x :: ps)).length, p.1)]
    rw [offs_app ps]
    have : (txtP (x :: ps)).length = x.2.length + (txtP ps).length := by unfold txtP; simp
    rw [this, Nat.add_assoc]
    rfl
theorem offs_len : ∀ (ps : List (MR.Res × List Nat)) (o : Nat), (offs o ps).length = ps.length
  | [], _ => rfl
  | x :: ps, o => by
    show (offs (o + x.2.length) ps).length + 1 = ps.length + 1
    rw [offs_len ps]
theorem offs_mem : ∀ (ps : List (MR.Res × List Nat)) (o : Nat) (c : Nat × MR.Res), c ∈ offs o ps → ∃ p ∈ ps, c.2 = p.1
  | [], _, c, h => by cases h
  | x :: ps, o, c, h => by
    rcases List.mem_cons.mp h with e | e
    · exact ⟨x, .head _, by rw [e]⟩
    · obtain ⟨p, hp, e2⟩ := offs_mem ps _ c e
      exact ⟨p, .tail _ hp, e2⟩
/-- each field holds its part -/
theorem offs_all : ∀ (ps : List (MR.Res × List Nat)) (a : List Nat), (∀ p ∈ ps, PartOk p) → (offs a.length ps).all (fun c => MF.hld c.2 (((a ++ txtP ps).drop c.1).take (MR.sizT c.2))) = true
  | [], _, _ => rfl
  | x :: ps, a, h => by
    have hx := h x (.head _)
    have e : txtP (x :: ps) = x.2 ++ txtP ps := by unfold txtP; simp
    show (MF.hld x.1 (((a ++ txtP (x :: ps)).drop a.length).take (MR.sizT x.1)) && (offs (a.length + x.2.length) ps).all _) = true
    rw [List.drop_left, e, ← hx.ln, List.take_left, hx.hl, Bool.true_and]
    have ih := offs_all ps (a ++ x.2) fun p hp => h p (.tail _ hp)
    rw [List.length_append, List.append_assoc] at ih
    exact ih
theorem txtP_len (ps : List (MR.Res × List Nat)) (h : ∀ p ∈ ps, PartOk p) : ps.length ≤ (txtP ps).length ∧ (txtP ps).length ≤ 64 * ps.length := by
  induction ps with
  | nil => exact ⟨Nat.le_refl _, Nat.le_refl _⟩
  | cons x ps ih =>
    have := ih fun p hp => h p (.tail _ hp)
    have hx := h x (.head _)
    have h1 := hx.s1
    have h2 := hx.s2
    have e : (txtP (x :: ps)).length = x.2.length + (txtP ps).length := by unfold txtP; simp
    rw [e, List.length_cons]
    omega
theorem txtP_lt (ps : List (MR.Res × List Nat)) (h : ∀ p ∈ ps, PartOk p) : ∀ c ∈ txtP ps, c < 128 := fun c hc => by
  unfold txtP at hc
  obtain ⟨t, ht, hct⟩ := List.mem_flatten.mp hc
  obtain ⟨p, hp, rfl⟩ := List.mem_map.mp ht
  exact (h p hp).lt c hct
theorem CellsAt.sm {K : PySem.W.Frag} {H H' : Hp} {q : Addr} {cs : List (Nat × MR.Res)} (e : WP.Sm H H') (h : CellsAt K H q cs) : CellsAt K H' q cs := by
  obtain ⟨ps, h1, h2, h3⟩ := h
  refine ⟨ps, e.lst h1, h2, fun i p c hp hc => ?_⟩
  obtain ⟨pp, a, b⟩ := h3 i p c hp hc
  exact ⟨pp, e.tup a, e.tup b⟩
end MS

namespace MV
open PySem PySem.Spec PyProof.Rows L2 MP MR
open SX (S)
/-! ### the sides of a move -/
inductive Side where
  | str
  | dec
  | res (r : Res)
  | grp (rs : List Res)
def STR : List Nat := [115, 116, 114, 105, 110, 103]
def DEC : List Nat := [100, 101, 99, 105, 109, 97, 108]
def TXT : List Nat := [116, 101, 120, 116]
def NUM : List Nat := [110, 117, 109, 98, 101, 114]
def EDT : List Nat := [101, 100, 105, 116, 101, 100]
def GRP : List Nat := [103, 114, 111, 117, 112]
def Side.hd : Side → List Nat
  | .str => STR
  | .dec => DEC
  | .res (.txt _) => TXT
  | .res (.pic (.num _ _ _)) => NUM
  | .res (.pic (.ed _ _ _ _)) => EDT
  | .grp _ => GRP
def ROk : Res → Prop
  | .txt n => 1 ≤ n ∧ n ≤ 12
  | .pic q => q.Ok
def Side.Ok : Side → Prop
  | .res r => ROk r
  | .grp rs => 1 ≤ rs.length ∧ rs.length ≤ 3 ∧ ∀ r ∈ rs, ROk r
  | _ => True
def Side.ds : Side → List PyData
  | .str => [.str (S STR)]
  | .dec => [.str (S DEC)]
  | .res r => r.ds
  | .grp rs => [.str (S GRP), .tuple (rs.map fun r => .tuple r.ds)]
def SideAt (K : PySem.W.Frag) (H : Hp) (p : Addr) : Side → Prop
  | .str => SqT K H p [.str (S STR)]
  | .dec => SqT K H p [.str (S DEC)]
  | .res r => SqT K H p r.vs
  | .grp rs => ∃ (q : Addr) (as : List Addr), SqT K H p [.str (S GRP), .ref q] ∧ SqT K H q (as.map V.ref) ∧ as.length = rs.length ∧ ∀ (i : Nat) (a : Addr) (r : Res), as[i]? = some a → rs[i]? = some r → SqT K H a r.vs
theorem SideAt.sm {K : PySem.W.Frag} {H H' : Hp} {p : Addr} {s : Side} (e : WP.Sm H H') (h : SideAt K H p s) : SideAt K H' p s := by
  cases s with
  | str => exact e.tup h
  | dec => exact e.tup h
  | res r => exact e.tup h
  | grp rs =>
    obtain ⟨q, as, h1, h2, h3, h4⟩ := h
    exact ⟨q, as, e.tup h1, e.tup h2, h3, fun i a r ha hr => e.tup (h4 i a r ha hr)⟩
theorem SideAt.at0 {K : PySem.W.Frag} {H : Hp} {p : Addr} {s : Side} (h : SideAt K H p s) : ∃ xs, SqT K H p xs ∧ atI xs (0 : Int) = some (.str (S s.hd)) := by
  cases s with
  | str => exact ⟨_, h, WP.at0⟩
  | dec => exact ⟨_, h, WP.at0⟩
  | res r =>
    refine ⟨_, h, ?_⟩
    cases r with
    | txt n => exact WP.at0
    | pic q => cases q <;> exact WP.at0
  | grp rs =>
    obtain ⟨q, as, h1, _⟩ := h
    exact ⟨_, h1, WP.at0⟩
theorem rok_lt {r : Res} (h : ROk r) : r.Lt := by
  cases r with
  | txt n => exact trivial
  | pic q =>
    cases q with
    | num sg w f => exact trivial
    | ed b w f s =>
      have h : (Pic.ed b w f s).Ok := h
      refine ⟨fun c hc => ?_, (show ∀ s ∈ MP.signs, ∀ c ∈ s, c < 128 by decide) s h.2.2.2⟩
      have := h.2.2.1.ok c hc
      have : (c = 122 ∨ c = 42 ∨ c = 57) ∨ c = 46 ∨ c = 44 ∨ c = 98 ∨ c = 48 ∨ c = 47 := by simpa [okM, isD, isI, or_assoc] using this
      omega
theorem dp_grp {K : PySem.W.Frag} {H : Hp} : ∀ (as : List Addr) (rs : List Res), as.length = rs.length → (∀ (i : Nat) (a : Addr) (r : Res), as[i]? = some a → rs[i]? = some r → SqT K H a r.vs) → DpAll K H (as.map V.ref) (rs.map fun r => PyData.tuple r.ds)
  | [], [], _, _ => .nil
  | a :: as, r :: rs, h, k => .cons (.tup (k 0 a r rfl rfl) (Res.dp r)) (dp_grp as rs (by simpa using h) fun i a' r' ha hr => k (i + 1) a' r' ha hr)
theorem SideAt.dp {K : PySem.W.Frag} {H : Hp} {p : Addr} {s : Side} (h : SideAt K H p s) : Dp K H (.ref p) (.tuple s.ds) := by
  cases s with
  | str => exact .tup h (.cons (.str _) .nil)
  | dec => exact .tup h (.cons (.str _) .nil)
  | res r => exact .tup h (Res.dp r)
  | grp rs =>
    obtain ⟨q, as, h1, h2, h3, h4⟩ := h
    exact .tup h1 (.cons (.str _) (.cons (.tup h2 (dp_grp as rs h3 h4)) .nil))
theorem lay_all : ∀ rs : List Res, (∀ r ∈ rs, ROk r) → PyData.canLayAll0 (rs.map fun r => PyData.tuple r.ds) = true
  | [], _ => rfl
  | r :: rs, h => and2 (Res.lay (rok_lt (h r (.head _)))) (lay_all rs fun x hx => h x (.tail _ hx))
theorem depth_res (r : Res) : PyData.depth (.tuple r.ds) ≤ 3 := by
  cases r with
  | txt n => exact Nat.le_of_ble_eq_true rfl
  | pic q => cases q <;> exact Nat.le_of_ble_eq_true rfl
theorem depth_all : ∀ rs : List Res, PyData.depthAll (rs.map fun r => PyData.tuple r.ds) ≤ 3
  | [] => by show (0 : Nat) ≤ 3; decide
  | r :: rs => by
    show max (PyData.depth (.tuple r.ds)) (PyData.depthAll (rs.map fun r => PyData.tuple r.ds)) ≤ 3
    have := depth_res r
    have := depth_all rs
    omega
theorem Side.sh {s : Side} (h : s.Ok) : SeqAt.shaped (.tuple s.ds) = true := by
  cases s with
  | str => exact and2 (and2 (WP.sok_S (l := STR) (by decide)) rfl) rfl
  | dec => exact and2 (and2 (WP.sok_S (l := DEC) (by decide)) rfl) rfl
  | res r => exact Res.sh (rok_lt h)
  | grp rs =>
    refine and2 (and2 (WP.sok_S (l := GRP) (by decide)) (and2 (lay_all rs h.2.2) rfl)) (decide_eq_true ?_)
    have := depth_all rs
    show max 0 (max (PyData.depthAll (rs.map fun r => PyData.tuple r.ds) + 1) 0) + 1 ≤ 64
    omega
/-! ### what may be moved -/
def whole : Side → Bool
  | .res (.pic (.num _ _ f)) => decide (f = 0)
  | _ => false
def cn (s t : Side) : Bool := match t with
  | .grp ts => PyData.eqv (.tuple s.ds) (.tuple (Side.grp ts).ds)
  | .res (.txt _) => decide (s.hd ∈ [STR, TXT, EDT, GRP]) || whole s
  | _ => decide (s.hd ∈ [DEC, NUM, EDT])
theorem eqv_hd {a b : List Nat} {xs ys : List PyData} (h : a ≠ b) : PyData.eqv (.tuple (.str (S a) :: xs)) (.tuple (.str (S b) :: ys)) = false := by
  show (PyData.eqv (.str (S a)) (.str (S b)) && _) = false
  have : PyData.eqv (.str (S a)) (.str (S b)) = false := by
    show (S a == S b) = false
    rw [SX.S_beq_eq]
    exact decide_eq_false h
  rw [this, Bool.false_and]
theorem cn_grp {s : Side} {ts : List Res} (h : s.hd ≠ GRP) : cn s (.grp ts) = false := by
  cases s with
  | str => exact eqv_hd (by decide)
  | dec => exact eqv_hd (by decide)
  | res r =>
    cases r with
    | txt n => exact eqv_hd (show TXT ≠ GRP by decide)
    | pic q =>
      cases q with
      | num sg w f => exact eqv_hd (show NUM ≠ GRP by decide)
      | ed b w f s => exact eqv_hd (show EDT ≠ GRP by decide)
  | grp rs => exact absurd rfl h
/-! ### what is moved -/
/-- the content of a side -/
inductive Cont where
  | tx (l : List Nat)
  | nm (u : Int) (sc : Nat)
def lu (p : Pic) (r : Int) : Int := if p.sgd = true ∧ r / 9 % 2 = 1 then -(if r / 3 % 3 = 0 then r % 100 % 10 ^ p.n else r % 10 ^ p.n) else (if r / 3 % 3 = 0 then r % 100 % 10 ^ p.n else r % 10 ^ p.n)
theorem lu_suits (p : Pic) (r : Int) : Suits p (lu p r) := by
  have hT : (0 : Int) < 10 ^ p.n := Int.pow_pos (by decide)
  have key : Suits p (if r / 3 % 3 = 0 then r % 100 % 10 ^ p.n else r % 10 ^ p.n) := by
    split
    · exact suits_abs (Int.emod_nonneg _ (by omega)) (Int.emod_lt_of_pos _ hT)
    · exact suits_abs (Int.emod_nonneg _ (by omega)) (Int.emod_lt_of_pos _ hT)
  unfold lu
  split
  · rename_i h
    exact ⟨by rw [Int.natAbs_neg]; exact key.1, .inr h.1⟩
  · exact key
/-- a content that a side may have -/
def COk : Side → Cont → Prop
  | .dec, .nm u sc => MD.Dec u sc ∧ sc ≤ 18 ∧ u.natAbs ≤ 10 ^ 18
  | .dec, _ => False
  | .res (.pic p), .tx l => ∃ u, Suits p u ∧ l = writ p u
  | .res (.txt n), .tx l => l.length = n ∧ ∀ c ∈ l, 32 ≤ c ∧ c ≤ 126 ∧ c ≠ 37
  | _, .tx l => l.length ≤ 200 ∧ ∀ c ∈ l, 32 ≤ c ∧ c ≤ 126 ∧ c ≠ 37
  | _, _ => False
def ContAt (K : PySem.W.Frag) (H : Hp) (v : V) : Cont → Prop
  | .tx l => v = .str (S l)
  | .nm u sc => ∃ p, v = .ref p ∧ SqT K H p (WP.dv u sc)
theorem ContAt.sm {K : PySem.W.Frag} {H H' : Hp} {v : V} {c : Cont} (e : WP.Sm H H') (h : ContAt K H v c) : ContAt K H' v c := by
  cases c with
  | tx l => exact h
  | nm u sc =>
    obtain ⟨p, h1, h2⟩ := h
    exact ⟨p, h1, e.tup h2⟩
def ua (u : Int) (own scale : Nat) (r : Bool) : Int := if own ≤ scale then u * 10 ^ (scale - own) else MQ.quot u (10 ^ (own - scale)) r
def trm (p : Pic) (u : Int) : Int := if u < 0 ∧ p.sgd = true then -((u.natAbs : Int) % 10 ^ p.n) else (u.natAbs : Int) % 10 ^ p.n
def cutT (p : Pic) (u : Int) (sc : Nat) : List Nat := writ p (trm p (ua u sc p.fr false))
def pad (l : List Nat) (n : Nat) : List Nat := l.take n ++ List.replicate (n - l.length) 32
def strp (s : Side) (l : List Nat) : List Nat := match s with
  | .res (.pic (.num sg _ _)) => if sg = true then l.drop 1 else l
  | _ => l
/-- the decimal of a source -/
def val (s : Side) (c : Cont) : Int × Nat := match s, c with
  | .res (.pic p), .tx l => MD.nrm (likely p l) p.fr
  | _, .nm u sc => (u, sc)
  | _, _ => (0, 0)
where likely (p : Pic) (l : List Nat) : Int := MF.likely p l
def mvT (s t : Side) (c : Cont) : List Nat := match t, c with
  | .res (.txt n), .tx l => pad (strp s l) n
  | .res (.pic p), _ => cutT p (val s c).1 (val s c).2
  | _, .tx l => l
  | _, _ => []
theorem writ_prn {p : Pic} {u : Int} (ho : p.Ok) : ∀ c ∈ writ p u, 32 ≤ c ∧ c ≤ 126 ∧ c ≠ 37 := by
  have sgp : ∀ s ∈ MP.signs, ∀ neg : Bool, ∀ c ∈ signText s neg, 32 ≤ c ∧ c ≤ 126 ∧ c ≠ 37 := by decide
  have pdp : ∀ k n c, c ∈ WP.padL k n → 32 ≤ c ∧ c ≤ 126 ∧ c ≠ 37 := fun k n c h => by have := MF.padL_dig k n c h; omega
  have bdp : ∀ (fill : Nat), 32 ≤ fill ∧ fill ≤ 126 ∧ fill ≠ 37 → ∀ (ms : List Nat) (hid : Bool) (fs : List Nat), (∀ c ∈ ms, okM c = true) → (∀ c ∈ fs, 32 ≤ c ∧ c ≤ 126 ∧ c ≠ 37) → ∀ c ∈ bodyF fill hid ms fs, 32 ≤ c ∧ c ≤ 126 ∧ c ≠ 37 := by
    intro fill hf ms
    induction ms with
    | nil => intro hid fs _ _ c hc; unfold bodyF at hc; cases hc
    | cons m ms ih =>
      intro hid fs h1 h2 c hc
      have ok := h1 m (.head _)
      have h1' : ∀ c ∈ ms, okM c = true := fun c hc => h1 c (.tail _ hc)
      cases hD : isD m with
      | true =>
        cases fs with
        | nil => unfold bodyF at hc; rw [if_pos hD] at hc; cases hc
        | cons d ds =>
          rw [bodyF_D hD] at hc
          rcases List.mem_cons.mp hc with e | e
          · rw [e]
            split
            · exact hf
            · exact h2 d (.head _)
          · exact ih _ ds h1' (fun c hc => h2 c (.tail _ hc)) c e
      | false =>
        by_cases h46 : m = 46
        · subst h46
          rw [bodyF_P] at hc
          rcases List.mem_cons.mp hc with e | e
          · rw [e]; decide
          · exact ih _ fs h1' h2 c e
        · rw [bodyF_I hD h46] at hc
          rcases List.mem_cons.mp hc with e | e
          · rw [e]
            split
            · exact hf
            · have hI : m = 44 ∨ m = 98 ∨ m = 48 ∨ m = 47 := by
                have : (m == 46) = false := beq_eq_false_iff_ne.mpr h46
                simpa [okM, hD, this, isI, or_assoc] using ok
              rcases hI with rfl | rfl | rfl | rfl <;> decide
          · exact ih _ fs h1' h2 c e
  intro c hc
  cases p with
  | num sg w f =>
    rcases List.mem_append.mp (show c ∈ signText (if sg then [43] else []) (decide (u < 0)) ++ WP.padL (w + f) u.natAbs from hc) with e | e
    · refine sgp _ ?_ _ c e
      cases sg
      · exact (show ([] : List Nat) ∈ MP.signs by decide)
      · exact (show ([43] : List Nat) ∈ MP.signs by decide)
    · exact pdp _ _ c e
  | ed b w f s =>
    have hb : ∀ c ∈ bodyText b (WP.padL (w + f) u.natAbs), 32 ≤ c ∧ c ≤ 126 ∧ c ≠ 37 := bdp _ (by unfold fillOf; split <;> decide) _ _ _ ho.2.2.1.ok (fun c hc => pdp _ _ c hc)
    have hs := sgp s ho.2.2.2 (decide (u < 0))
    have hc' : c ∈ (if s = [45] ∨ s = [43] then signText s (decide (u < 0)) ++ bodyText b (WP.padL (w + f) u.natAbs) else bodyText b (WP.padL (w + f) u.natAbs) ++ signText s (decide (u < 0))) := hc
    split at hc'
    · rcases List.mem_append.mp hc' with e | e
      · exact hs c e
      · exact hb c e
    · rcases List.mem_append.mp hc' with e | e
      · exact hb c e
      · exact hs c e
theorem prn_of {l : List Nat} (h : ∀ c ∈ l, 32 ≤ c ∧ c ≤ 126 ∧ c ≠ 37) : MW.prn l = true := by
  unfold MW.prn
  rw [List.all_eq_true]
  exact fun c hc => decide_eq_true (h c hc)
theorem ljust_S (l : List Nat) (n : Nat) : Txt.ljust (S l) (n : Int) = S (l ++ List.replicate (n - l.length) 32) := by
  unfold Txt.ljust
  rw [SX.S_len]
  split
  · rename_i h
    rw [show n - l.length = 0 by omega]
    show S l = S (l ++ [])
    rw [List.append_nil]
  · unfold Builtin.Str.padded
    simp [SX.S]
theorem padOk {n : Nat} (h : n ≤ 100000) : PadOk (n : Int) = true := by
  unfold PadOk fitsSsize
  rw [decide_eq_false (by omega), decide_eq_false (by omega)]
  unfold Builtin.Str.tooLong
  rw [decide_eq_false (by rw [sizeLine_eq, Int.toNat_natCast]; omega)]
  rfl
theorem pad_eq (l : List Nat) (n : Nat) : l.take n ++ List.replicate (n - (l.take n).length) 32 = pad l n := by
  unfold pad
  congr 2
  rw [List.length_take]; omega
theorem pad_eq2 (l : List Nat) (n : Nat) : (l ++ List.replicate (n - l.length) 32).take n = pad l n := by
  unfold pad
  rw [List.take_append, List.take_of_length_le (l := List.replicate (n - l.length) 32) (by rw [List.length_replicate]; exact Nat.le_refl _)]
theorem pad_len (l : List Nat) (n : Nat) : (pad l n).length = n := by
  unfold pad
  rw [List.length_append, List.length_take, List.length_replicate]; omega
theorem pad_prn {l : List Nat} {n : Nat} (h : ∀ c ∈ l, 32 ≤ c ∧ c ≤ 126 ∧ c ≠ 37) : ∀ c ∈ pad l n, 32 ≤ c ∧ c ≤ 126 ∧ c ≠ 37 := fun c hc => by
  unfold pad at hc
  rcases List.mem_append.mp hc with e | e
  · exact h c (List.mem_of_mem_take e)
  · rw [List.eq_of_mem_replicate e]; decide
theorem numL_big {m n : Nat} (h : (TL.numL m).length ≤ n) : m < 10 ^ n := by
  have e : NumText.digitsVal (TL.numL m) = m := by
    have := MT.dF_val (m : Int) 0
    unfold MT.dF at this
    rw [MT.digits_zero, Int.natAbs_natCast] at this
    exact this
  have := MF.dv_lt (TL.numL m) (fun c hc => by have := TL.numL_digits m c hc; omega)
  rw [e] at this
  exact Nat.lt_of_lt_of_le this (Nat.pow_le_pow_right (by decide) h)
theorem stored_iff (p : Pic) (hn : 1 ≤ p.n) (u : Int) : ((u < 0 ∧ p.sgd = false) ∨ (u ≠ 0 ∧ p.n < (TL.numL u.natAbs).length)) ↔ ¬ Suits p u := by
  constructor
  · rintro (⟨h1, h2⟩ | ⟨h1, h2⟩) hs
    · rcases hs.2 with h | h
      · omega
      · rw [h2] at h; cases h
    · have := TL.numL_len (k := p.n) (by omega) hs.1
      omega
  · intro h
    by_cases c : u.natAbs < 10 ^ p.n
    · left
      have : ¬ (0 ≤ u ∨ p.sgd = true) := fun z => h ⟨c, z⟩
      refine ⟨by omega, ?_⟩
      cases hs : p.sgd with
      | false => rfl
      | true => exact absurd (Or.inr hs) this
    · right
      refine ⟨fun z => c (by rw [z]; exact Nat.pow_pos (by decide)), ?_⟩
      rcases Nat.lt_or_ge p.n (TL.numL u.natAbs).length with h2 | h2
      · exact h2
      · exact absurd (numL_big h2) c
theorem ua_le {u : Int} {own scale : Nat} {r : Bool} (hu : u.natAbs ≤ 10 ^ 18) (h1 : scale ≤ 18) : (ua u own scale r).natAbs ≤ 10 ^ 36 := by
  unfold ua
  split
  · rw [Int.natAbs_mul, Int.natAbs_pow]
    have e : (10 : Int).natAbs = 10 := rfl
    rw [e]
    have h2 : 10 ^ (scale - own) ≤ 10 ^ 18 := Nat.pow_le_pow_right (by decide) (by omega)
    exact Nat.le_trans (Nat.mul_le_mul hu h2) (by decide)
  · rw [MQ.quot_abs]
    unfold MQ.qsz
    have h3 : ∀ b : Nat, u.natAbs / b ≤ u.natAbs := fun b => Nat.div_le_self _ _
    have := h3 ((10 : Int) ^ (own - scale)).natAbs
    have h36 : (10 : Nat) ^ 18 + 1 ≤ 10 ^ 36 := by decide
    split <;> omega
/-- a side that may be a target -/
def Side.Tg : Side → Prop
  | .res _ => True
  | .grp _ => True
  | _ => False
theorem cok_len {s : Side} {l : List Nat} (os : s.Ok) (h : COk s (.tx l)) : l.length ≤ 5000 := by
  cases s with
  | dec => exact h.elim
  | str => exact Nat.le_trans h.1 (by decide)
  | grp rs => exact Nat.le_trans h.1 (by decide)
  | res r =>
    cases r with
    | txt n =>
      have h : l.length = n ∧ _ := h
      have os : 1 ≤ n ∧ n ≤ 12 := os
      omega
    | pic p =>
      obtain ⟨u, hu, rfl⟩ := h
      have os : p.Ok := os
      rw [(MF.writ_parts os hu).1]
      have := MF.siz_le os
      omega
theorem hd_num {s : Side} (h : s.hd = NUM) : ∃ sg w f, s = .res (.pic (.num sg w f)) := by
  cases s with
  | str => exact absurd h (by decide)
  | dec => exact absurd h (by decide)
  | grp rs => exact absurd h (show GRP ≠ NUM by decide)
  | res r =>
    cases r with
    | txt n => exact absurd h (show TXT ≠ NUM by decide)
    | pic q =>
      cases q with
      | num sg w f => exact ⟨sg, w, f, rfl⟩
      | ed b w f s => exact absurd h (show EDT ≠ NUM by decide)
theorem hd_dec {s : Side} (h : s.hd = DEC) : s = .dec := by
  cases s with
  | str => exact absurd h (by decide)
  | dec => rfl
  | grp rs => exact absurd h (show GRP ≠ DEC by decide)
  | res r =>
    cases r with
    | txt n => exact absurd h (show TXT ≠ DEC by decide)
    | pic q =>
      cases q with
      | num sg w f => exact absurd h (show NUM ≠ DEC by decide)
      | ed b w f s => exact absurd h (show EDT ≠ DEC by decide)
theorem hd_pic {s : Side} (h : s.hd ∈ [DEC, NUM, EDT]) (hd : s.hd ≠ DEC) : ∃ p, s = .res (.pic p) := by
  cases s with
  | str => exact absurd h (by decide)
  | dec => exact absurd rfl hd
  | grp rs => exact absurd h (show ¬ GRP ∈ [DEC, NUM, EDT] by decide)
  | res r =>
    cases r with
    | txt n => exact absurd h (show ¬ TXT ∈ [DEC, NUM, EDT] by decide)
    | pic q => exact ⟨q, rfl⟩
theorem strp_not {s : Side} {l : List Nat} (h : s.hd ≠ NUM) : strp s l = l := by
  cases s with
  | res r =>
    cases r with
    | txt n => rfl
    | pic q =>
      cases q with
      | num sg w f => exact absurd rfl h
      | ed b w f s => rfl
  | _ => rfl
theorem bt18 {u : Int} (h : u.natAbs ≤ 10 ^ 18) : WP.Bt u 3900 := Nat.lt_of_le_of_lt h (Nat.lt_of_lt_of_le (show 10 ^ 18 < 2 ^ 60 by decide) (Nat.pow_le_pow_right (by decide) (by decide)))
theorem suits18 {p : Pic} {u : Int} (ho : p.Ok) (h : Suits p u) : u.natAbs ≤ 10 ^ 18 := Nat.le_of_lt (Nat.lt_of_lt_of_le h.1 (Nat.pow_le_pow_right (by decide) ho.n1.2))
theorem cok_res {r : Res} {l : List Nat} (os : ROk r) (h : COk (.res r) (.tx l)) : l.length ≤ 64 ∧ ∀ c ∈ l, 32 ≤ c ∧ c ≤ 126 ∧ c ≠ 37 := by
  cases r with
  | txt n =>
    have h : l.length = n ∧ _ := h
    have os : 1 ≤ n ∧ n ≤ 12 := os
    exact ⟨by omega, h.2⟩
  | pic p =>
    obtain ⟨u, hu, rfl⟩ := h
    have os : p.Ok := os
    exact ⟨by rw [(MF.writ_parts os hu).1]; exact MF.siz_le os, writ_prn os⟩
theorem cok_prn {s : Side} {l : List Nat} (os : s.Ok) (h : COk s (.tx l)) : ∀ c ∈ l, 32 ≤ c ∧ c ≤ 126 ∧ c ≠ 37 := by
  cases s with
  | dec => exact h.elim
  | str => exact h.2
  | grp rs => exact h.2
  | res r => exact (cok_res os h).2
theorem cok_tx {s : Side} {c : Cont} (h : COk s c) (hs : s ≠ .dec) : ∃ l, c = .tx l := by
  cases c with
  | tx l => exact ⟨l, rfl⟩
  | nm u sc =>
    exfalso
    cases s with
    | dec => exact hs rfl
    | str => exact h
    | grp rs => exact h
    | res r => cases r <;> exact h
theorem tg_ne {t : Side} (h : t.Tg) (h1 : t.hd ≠ GRP) (h2 : t.hd ≠ TXT) : ∃ p, t = .res (.pic p) := by
  cases t with
  | str => exact h.elim
  | dec => exact h.elim
  | grp rs => exact absurd rfl h1
  | res r =>
    cases r with
    | txt n => exact absurd rfl h2
    | pic q => exact ⟨q, rfl⟩
theorem tg_grp {t : Side} (h : t.hd = GRP) : ∃ rs, t = .grp rs := by
  cases t with
  | str => exact absurd h (by decide)
  | dec => exact absurd h (by decide)
  | grp rs => exact ⟨rs, rfl⟩
  | res r =>
    cases r with
    | txt n => exact absurd h (show TXT ≠ GRP by decide)
    | pic q =>
      cases q with
      | num sg w f => exact absurd h (show NUM ≠ GRP by decide)
      | ed b w f s => exact absurd h (show EDT ≠ GRP by decide)
theorem tg_txt {t : Side} (h : t.hd = TXT) : ∃ n, t = .res (.txt n) := by
  cases t with
  | str => exact absurd h (by decide)
  | dec => exact absurd h (by decide)
  | grp rs => exact absurd h (show GRP ≠ TXT by decide)
  | res r =>
    cases r with
    | txt n => exact ⟨n, rfl⟩
    | pic q =>
      cases q with
      | num sg w f => exact absurd h (show NUM ≠ TXT by decide)
      | ed b w f s => exact absurd h (show EDT ≠ TXT by decide)
/-- what is moved is held -/
theorem mv_hld {s : Side} {r : Res} {c : Cont} (os : s.Ok) (ot : ROk r) (hc : COk s c) (hcn : cn s (.res r) = true) : MF.hld r (mvT s (.res r) c) = true ∧ (mvT s (.res r) c).length ≤ 64 ∧ ∀ x ∈ mvT s (.res r) c, x < 128 := by
  cases r with
  | txt n =>
    have hn : 1 ≤ n ∧ n ≤ 12 := ot
    have hs : s ≠ .dec := fun e => by
      subst e
      have : cn .dec (.res (.txt n)) = (decide (DEC ∈ [STR, TXT, EDT, GRP]) || false) := rfl
      rw [this] at hcn
      revert hcn; decide
    obtain ⟨l, rfl⟩ := cok_tx hc hs
    have hp := cok_prn os hc
    have hp2 : ∀ c ∈ strp s l, 32 ≤ c ∧ c ≤ 126 ∧ c ≠ 37 := fun c hc => by
      unfold strp at hc
      split at hc
      · split at hc
        · exact hp c (List.mem_of_mem_drop hc)
        · exact hp c hc
      · exact hp c hc
    have hp3 := pad_prn (n := n) hp2
    have e : mvT s (.res (.txt n)) (.tx l) = pad (strp s l) n := rfl
    rw [e]
    refine ⟨?_, by rw [pad_len]; omega, fun x hx => by have := hp3 x hx; omega⟩
    show (decide ((pad (strp s l) n).length = n) && MW.prn (pad (strp s l) n)) = true
    rw [pad_len, decide_eq_true rfl, prn_of hp3]; rfl
  | pic p =>
    have op : p.Ok := ot
    have hsu : Suits p (trm p (ua (val s c).1 (val s c).2 p.fr false)) := suits_cut
    have e : mvT s (.res (.pic p)) c = writ p (trm p (ua (val s c).1 (val s c).2 p.fr false)) := rfl
    rw [e]
    refine ⟨?_, ?_, MF.writ_lt op⟩
    · show (MF.rd p (writ p (trm p (ua (val s c).1 (val s c).2 p.fr false)))).isSome = true
      rw [MF.rd_writ op hsu]; rfl
    · rw [(MF.writ_parts op hsu).1]; exact MF.siz_le op
end MV

namespace D
open PySem PySem.Spec PyProof.Rows L2
local macro_rules | `(tactic| k_memK) => `(tactic| first
  | (with_reducible refine WP.eqTS ?_) | (with_reducible refine WP.neTS ?_) | (with_reducible refine WP.bm ?_) | (with_reducible refine WP.tyS ?_) | (with_reducible refine WP.gsub ?_) | (with_reducible refine WP.rng3 ?_) | (with_reducible refine WP.sfld ?_) | (with_reducible refine WP.make ?_) | (with_reducible refine WP.gsl ?_) | (with_reducible refine WP.wstr ?_) | (with_reducible refine WP.bm0 ?_) | (with_reducible refine WP.lc ?_) | (with_reducible refine WP.jr ?_) | (with_reducible refine WP.zipS ?_)
  | (with_reducible refine WP.seq ?_) | (with_reducible refine WP.asg ?_) | (with_reducible refine WP.name ?_)
  | ((with_reducible show tVar _ _ _ _); refine WP.var rfl ?_) | (with_reducible refine WP.con ?_) | (with_reducible refine WP.op ?_) | (with_reducible refine WP.i0 ?_)
  | (with_reducible refine WP.un ?_) | (with_reducible refine WP.rU_ ?_)
  | (with_reducible refine WP.ifS ?_) | (with_reducible refine WP.ifE ?_) | (with_reducible refine WP.test ?_) | (with_reducible refine WP.bt ?_) | (with_reducible refine WP.isbV ?_)
  | (with_reducible refine WP.ret ?_) | (with_reducible refine WP.retN ?_) | (with_reducible refine WP.drop ?_) | (with_reducible refine WP.next ?_) | (with_reducible refine WP.brk ?_) | (with_reducible refine WP.cont ?_)
  | (with_reducible refine WP.cb ?_) | (with_reducible refine WP.call ?_) | (with_reducible refine WP.cons ?_) | (with_reducible refine WP.nil ?_) | (with_reducible refine WP.tup ?_) | (with_reducible refine WP.lst ?_)
  | (with_reducible refine WP.eqI ?_) | (with_reducible refine WP.neI ?_) | (with_reducible refine WP.eqT ?_) | (with_reducible refine WP.neT ?_) | (with_reducible refine WP.eqB ?_) | (with_reducible refine WP.neB ?_)
  | (with_reducible refine WP.notT ?_) | (with_reducible refine WP.andT ?_) | (with_reducible refine WP.orT ?_) | (with_reducible refine WP.andV ?_) | (with_reducible refine WP.orV ?_) | (with_reducible refine WP.notV ?_)
  | (with_reducible refine WP.sl ?_) | (with_reducible refine WP.noPart ?_) | (with_reducible refine WP.part ?_) | (with_reducible refine WP.isi ?_) | (with_reducible refine WP.isbV ?_) | (with_reducible refine WP.gsCons ?_) | (with_reducible refine WP.gsNil ?_) | (with_reducible refine WP.forl ?_) | (with_reducible refine WP.rng1 ?_) | (with_reducible refine WP.rng2 ?_) | (with_reducible refine WP.walkL ?_) | (with_reducible refine WP.walkT ?_))
local macro_rules | `(tactic| k_updF) => `(tactic| repeat k_memK)

def top (i : Nat) : Stmt := PySem.Challenge.pw_cardwright_k23_moves_and_stores.main.body.getD i (.Pass ⟨0, 0, 0, 0⟩)
structure Blt (w : World) (K : PySem.W.Frag) (mg : Str → Option Value) : Prop where
  b_abs : mg "abs" = none
  b_all : mg "all" = none
  b_bool : mg "bool" = none
  b_divmod : mg "divmod" = none
  b_int : mg "int" = none
  b_isinstance : mg "isinstance" = none
  b_len : mg "len" = none
  b_max : mg "max" = none
  b_min : mg "min" = none
  b_ord : mg "ord" = none
  b_range : mg "range" = none
  b_str : mg "str" = none
  b_tuple : mg "tuple" = none
  b_zip : mg "zip" = none
  c_DIGIT_MARKS : WP.KTp K mg "DIGIT_MARKS" [.str (SX.S [122]), .str (SX.S [42]), .str (SX.S [57])]
  c_FIGURES : ∃ u, mg "FIGURES" = some u ∧ RelV (.str (SX.S [48, 49, 50, 51, 52, 53, 54, 55, 56, 57])) u
  c_FIRST_PRINTABLE : ∃ u, mg "FIRST_PRINTABLE" = some u ∧ RelV (.int 32) u
  c_HIDING_MARKS : WP.KTp K mg "HIDING_MARKS" [.str (SX.S [122]), .str (SX.S [42])]
  c_INSERTED_CHARACTERS : WP.KDc K w mg "INSERTED_CHARACTERS" [(",", .str (SX.S [44])), ("b", .str (SX.S [32])), ("0", .str (SX.S [48])), ("/", .str (SX.S [47]))]
  c_LAST_PRINTABLE : ∃ u, mg "LAST_PRINTABLE" = some u ∧ RelV (.int 126) u
  c_NEGATIVE_SIGNS : WP.KTp K mg "NEGATIVE_SIGNS" [.str (SX.S [45]), .str (SX.S [67, 82]), .str (SX.S [68, 66])]
  c_NOT_PRINTABLE : ∃ u, mg "NOT_PRINTABLE" = some u ∧ RelV (.int 37) u
  e_BadPicture : WP.ExcOk K mg "BadPicture"
abbrev s__law_rich : Stmt := top 49
abbrev N__law_rich : List Str := ["cell", "k", "mixed"]
theorem sc__law_rich : FnScope N__law_rich ["cell", "k"] (defScope s__law_rich) := ⟨rfl, rfl, rfl, by decide +kernel, rfl, by decide +kernel, by decide +kernel⟩
def sp__law_rich (K : PySem.W.Frag) (mg : WP.MG) : Sp := fun vs H Q _ => ∃ c k : Int, vs = [.int c, .int k] ∧ ∀ r : Int, 0 ≤ r → Q (.int r) H
section
variable {P : Program} {w : World} {K : PySem.W.Frag} {mg : Str → Option Value} {base : Heap}
theorem ok__law_rich {f : Addr} {fd : FuncData} (F : Fun K "_law_rich" "_law_rich" s__law_rich f fd) (B : Blt w K mg)  : FnOk P w K mg base CX0 1 f fd ["cell", "k"] (sp__law_rich K mg) := by
  refine F.ok sc__law_rich (fun vs H Q E h => ?_) (fun cdv A outer s H vs Q E hr h => ?_)
  · first | (obtain ⟨_, rfl, _⟩ := h; rfl) | (obtain ⟨_, _, rfl, _⟩ := h; rfl) | (obtain ⟨_, _, _, rfl, _⟩ := h; rfl) | (obtain ⟨_, _, _, _, rfl, _⟩ := h; rfl) | (obtain ⟨_, _, _, _, _, rfl, _⟩ := h; rfl) | (obtain ⟨_, _, _, _, _, _, rfl, _⟩ := h; rfl) | (obtain ⟨_, _, _, _, _, _, _, rfl, _⟩ := h; rfl) | (obtain ⟨_, _, _, _, _, _, _, _, rfl, _⟩ := h; rfl) | (obtain ⟨rfl, _⟩ := h; rfl)
  · obtain ⟨c, i, rfl, k⟩ := h
    refine ⟨_, (pss_cons (ps_if (pt_cmpR op_ge (pv 0) (pe_op op_pow pe_int pe_int) (nomark _)) (pss_one (ps_ret (pe_callTy WP.c_int1 (by rfl) B.b_int (by decide +kernel) (WP.pa_consN (pv 0) pa_nil)))) pss_nil)
      (pss_cons (ps_set (i := 2) sc__law_rich.nd rfl (Or.inl rfl) (pe_op op_mod (pe_callTy WP.c_int1 (by rfl) B.b_int (by decide +kernel) (WP.pa_consN (pe_op op_add (pe_op op_add (pe_op op_mul (pv 0) pe_int) (pe_op op_mul (pv 1) pe_int)) pe_int) pa_nil)) pe_int))
      (pss_one (ps_ret (pe_op op_add (pe_op op_mul (pv 2) pe_int) (pe_op op_mod (pe_callTy WP.c_int1 (by rfl) B.b_int (by decide +kernel) (WP.pa_consN (pe_op op_add (pe_op op_mul (pv 2) pe_int) (pv 0)) pa_nil)) pe_int)))))), ?_⟩
    k_updF
    refine WP.iC ⟨by decide, by decide, by decide⟩ ?_
    k_updF
    refine WP.br (fun g => ?_) (fun g => ?_)
    · k_updF
      refine WP.intI (k _ ?_)
      have : (0 : Int) ≤ 10 ^ (18 : Int).toNat := by decide
      omega
    · k_updF
      refine WP.iC (.inr (by decide)) ?_
      k_updF
      refine WP.iC (.inr (by decide)) ?_
      k_updF
      refine WP.intI ?_
      k_updF
      refine WP.iC (by decide) ?_
      k_updF
      refine WP.iC (.inr (by decide)) ?_
      k_updF
      refine WP.iC (.inr (by decide)) ?_
      k_updF
      refine WP.intI ?_
      k_updF
      refine WP.iC (by decide) ?_
      k_updF
      refine k _ ?_
      have h1 := Int.emod_nonneg (c * 48271 + i * 69621 + 11) (show (2147483647 : Int) ≠ 0 by decide)
      have h2 := Int.emod_nonneg ((c * 48271 + i * 69621 + 11) % 2147483647 * 16807 + c) (show (2147483629 : Int) ≠ 0 by decide)
      omega
end
abbrev s__law_picture : Stmt := top 53
abbrev N__law_picture : List Str := ["rich", "choice", "rest", "whole", "body", "fraction", "sign", "digits", "mark"]
theorem sc__law_picture : FnScope N__law_picture ["rich"] (defScope s__law_picture) := ⟨rfl, rfl, rfl, by decide +kernel, rfl, by decide +kernel, by decide +kernel⟩
def sp__law_picture (K : PySem.W.Frag) (mg : WP.MG) : Sp := fun vs H Q _ => ∃ r : Int, vs = [.int r] ∧ (r % 8 = 0 → ∀ n : Nat, 1 ≤ n → n ≤ 12 → WP.RetT [.str (SX.S [116, 101, 120, 116]), .int (n : Int)] H Q) ∧ (r % 8 ≠ 0 → ∀ pic : MP.Pic, pic.Ok → WP.RetT pic.vs H Q)
section
variable {P : Program} {w : World} {K : PySem.W.Frag} {mg : Str → Option Value} {base : Heap}
theorem ok__law_picture {f : Addr} {fd : FuncData} (F : Fun K "_law_picture" "_law_picture" s__law_picture f fd) (B : Blt w K mg)  : FnOk P w K mg base CX0 1 f fd ["rich"] (sp__law_picture K mg) := by
  refine F.ok sc__law_picture (fun vs H Q E h => ?_) (fun cdv A outer s H vs Q E hr h => ?_)
  · first | (obtain ⟨_, rfl, _⟩ := h; rfl) | (obtain ⟨_, _, rfl, _⟩ := h; rfl) | (obtain ⟨_, _, _, rfl, _⟩ := h; rfl) | (obtain ⟨_, _, _, _, rfl, _⟩ := h; rfl) | (obtain ⟨_, _, _, _, _, rfl, _⟩ := h; rfl) | (obtain ⟨_, _, _, _, _, _, rfl, _⟩ := h; rfl) | (obtain ⟨_, _, _, _, _, _, _, rfl, _⟩ := h; rfl) | (obtain ⟨_, _, _, _, _, _, _, _, rfl, _⟩ := h; rfl) | (obtain ⟨rfl, _⟩ := h; rfl)
  · obtain ⟨r, rfl, kT, k⟩ := h
    refine ⟨_, (pss_cons (ps_set (i := 1) sc__law_picture.nd rfl (Or.inl rfl) (pe_op op_mod (pv 0) pe_int))
      (pss_cons (ps_set (i := 2) sc__law_picture.nd rfl (Or.inl rfl) (pe_op op_fdiv (pv 0) pe_int))
      (pss_cons (ps_if (pt_cmpR op_eq (pv 1) pe_int (nomark _)) (pss_one (ps_ret (pe_tup (WP.pa_consN (WP.pe_strL [116, 101, 120, 116] (by decide +kernel)) (WP.pa_consN (pe_op op_add pe_int (pe_op op_mod (pv 2) pe_int)) pa_nil))))) pss_nil)
      (pss_cons (ps_if (pt_cmpR op_lt (pv 1) pe_int (nomark _)) (pss_cons (ps_set (i := 3) sc__law_picture.nd rfl (Or.inl rfl) (pe_op op_mod (pv 2) pe_int))
      (pss_one (ps_ret (pe_tup (WP.pa_consN (WP.pe_strL [110, 117, 109, 98, 101, 114] (by decide +kernel)) (WP.pa_consN (pe_cmpR op_eq (pe_op op_mod (pe_op op_fdiv (pv 2) pe_int) pe_int) pe_int (nomark _)) (WP.pa_consN (pe_callB (WP.c_max2 rfl) (by rfl) B.b_max (by decide +kernel) (WP.pa_consN (pv 3) (WP.pa_consN (pe_op op_sub pe_int (pe_op op_mod (pe_op op_fdiv (pv 2) pe_int) pe_int)) pa_nil))) (WP.pa_consN (pe_op op_mod (pe_op op_fdiv (pv 2) pe_int) pe_int) pa_nil)))))))) pss_nil)
      (pss_cons (ps_set (i := 4) sc__law_picture.nd rfl (Or.inl rfl) (pe_ix ix_list (pe_lst (WP.pa_consN (WP.pe_strL [122, 122, 57] (by decide +kernel)) (WP.pa_consN (WP.pe_strL [122, 122, 122] (by decide +kernel)) (WP.pa_consN (WP.pe_strL [122, 57] (by decide +kernel)) (WP.pa_consN (WP.pe_strL [57] (by decide +kernel)) (WP.pa_consN (WP.pe_strL [42, 42, 42] (by decide +kernel)) (WP.pa_consN (WP.pe_strL [42, 42, 57] (by decide +kernel)) (WP.pa_consN (WP.pe_strL [122, 122, 44, 122, 122, 57] (by decide +kernel)) (WP.pa_consN (WP.pe_strL [42, 42, 44, 42, 42, 42] (by decide +kernel)) (WP.pa_consN (WP.pe_strL [57, 57, 47, 57, 57] (by decide +kernel)) (WP.pa_consN (WP.pe_strL [122, 44, 122, 122, 57, 98, 57] (by decide +kernel)) (WP.pa_consN (WP.pe_strL [57, 98, 57] (by decide +kernel)) (WP.pa_consN (WP.pe_strL [122, 48, 122] (by decide +kernel)) (WP.pa_consN (WP.pe_strL [57, 57] (by decide +kernel)) (WP.pa_consN (WP.pe_strL [122, 98, 57] (by decide +kernel)) pa_nil))))))))))))))) (pe_op op_mod (pv 2) pe_int) (fun _ _ => rfl)))
      (pss_cons (ps_set (i := 5) sc__law_picture.nd rfl (Or.inl rfl) (pe_op op_mod (pe_op op_fdiv (pv 2) pe_int) pe_int))
      (Evl.pss_cut (ps_if (pt_cmpR op_gt (pv 5) pe_int (nomark _)) (pss_one (ps_set (i := 4) sc__law_picture.nd rfl (Or.inl rfl) (pe_op WP.op_addS (pe_op WP.op_addS (pv 4) (WP.pe_strL [46] (by decide +kernel))) (pe_slice sl_str (WP.pe_strL [57, 57, 57] (by decide +kernel)) po_none (po_some (pv 5)))))) pss_nil)
      (pss_cons (ps_set (i := 6) sc__law_picture.nd rfl (Or.inl rfl) (pe_ix ix_list (pe_lst (WP.pa_consN (WP.pe_strL [] (by decide +kernel)) (WP.pa_consN (WP.pe_strL [45] (by decide +kernel)) (WP.pa_consN (WP.pe_strL [43] (by decide +kernel)) (WP.pa_consN (WP.pe_strL [46, 45] (by decide +kernel)) (WP.pa_consN (WP.pe_strL [46, 43] (by decide +kernel)) (WP.pa_consN (WP.pe_strL [99, 114] (by decide +kernel)) (WP.pa_consN (WP.pe_strL [100, 98] (by decide +kernel)) (WP.pa_consN (WP.pe_strL [] (by decide +kernel)) pa_nil))))))))) (pe_op op_mod (pe_op op_fdiv (pv 2) pe_int) pe_int) (fun _ _ => rfl)))
      (pss_cons (ps_set (i := 7) sc__law_picture.nd rfl (Or.inl rfl) (pe_callB WP.c_len (by rfl) B.b_len (by decide +kernel) (WP.pa_consN (pe_lc (own := [("mark", 8)]) (g := gName 8) rfl sc__law_picture.nd (pi_str (pv 4)) (blkOk_by (own := [("mark", 8)]) (N := N__law_picture) (sc := defScope s__law_picture) (by decide +kernel)) (fun _ _ _ _ _ => pg_name (i := 8) sc__law_picture.nd rfl (Or.inl rfl)) (fun _ _ _ _ _ => (pts_one (pt_cmpR WP.op_inSign (pv 8) (WP.pe_strL [122, 42, 57] (by decide +kernel)) rfl))) (fun _ _ _ _ _ => (pv 8))) pa_nil)))
      (Evl.pss_cut (ps_if (PW.pt (pw_and (pt_cmpR op_eq (pv 6) (WP.pe_strL [] (by decide +kernel)) (nomark _)) (pw_and1 (pt_cmpR op_in_seq (pv 4) (pe_lst (WP.pa_consN (WP.pe_strL [57] (by decide +kernel)) (WP.pa_consN (WP.pe_strL [57, 57] (by decide +kernel)) pa_nil))) rfl)))) (pss_one (ps_set (i := 6) sc__law_picture.nd rfl (Or.inl rfl) (WP.pe_strL [45] (by decide +kernel)))) pss_nil)
      (pss_one (ps_ret (pe_tup (WP.pa_consN (WP.pe_strL [101, 100, 105, 116, 101, 100] (by decide +kernel)) (WP.pa_consN (pv 4) (WP.pa_consN (pe_op op_sub (pv 7) (pv 5)) (WP.pa_consN (pv 5) (WP.pa_consN (pv 6) pa_nil)))))))))))))))))), ?_⟩
    k_updF
    refine WP.iC (by decide) ?_
    k_updF
    refine WP.iC ⟨by decide, by decide⟩ ?_
    k_updF
    generalize r / 8 = rest
    refine WP.br (fun c => ?_) (fun c => ?_)
    · k_updF
      refine WP.iC (by decide) ?_
      k_updF
      have h0 := Int.emod_nonneg rest (show (12 : Int) ≠ 0 by decide)
      have h1 := Int.emod_lt_of_pos rest (show (0 : Int) < 12 by decide)
      refine ⟨WP.sz2, ?_⟩
      have := kT c (1 + rest % 12).toNat (by omega) (by omega)
      rw [show (((1 + rest % 12).toNat : Nat) : Int) = 1 + rest % 12 by omega] at this
      exact this.new (Same.refl _)
    have k := k c
    clear kT c
    k_updF
    refine WP.br (fun c => ?_) (fun c => ?_)
    · k_updF
      refine WP.iC (by decide) ?_
      k_updF
      refine WP.iC ⟨by decide, by decide⟩ ?_
      k_updF
      refine WP.iC (by decide) ?_
      k_updF
      refine WP.iC ⟨by decide, by decide⟩ ?_
      k_updF
      refine WP.iC (by decide) ?_
      k_updF
      refine WP.maxI ?_
      k_updF
      refine WP.iC ⟨by decide, by decide⟩ ?_
      k_updF
      refine WP.iC (by decide) ?_
      k_updF
      have h0 := Int.emod_nonneg rest (show (5 : Int) ≠ 0 by decide)
      have h1 := Int.emod_lt_of_pos rest (show (0 : Int) < 5 by decide)
      have h2 := Int.emod_nonneg (rest / 10) (show (3 : Int) ≠ 0 by decide)
      have h3 := Int.emod_lt_of_pos (rest / 10) (show (0 : Int) < 3 by decide)
      generalize rest % 5 = v0 at *
      generalize rest / 10 % 3 = v1 at *
      refine ⟨WP.sz (show 4 ≤ 1000000 by decide), ?_⟩
      obtain ⟨m0, hm0⟩ : ∃ m0 : Nat, max v0 (1 - v1) = (m0 : Int) := ⟨(max v0 (1 - v1)).toNat, by omega⟩
      obtain ⟨m1, hm1⟩ : ∃ m1 : Nat, v1 = (m1 : Int) := ⟨v1.toNat, by omega⟩
      rw [hm0, hm1]
      exact (k (.num (decide (rest / 5 % 2 = 1)) m0 m1) ⟨by omega, by omega⟩).new (Same.refl _)
    k_updF
    refine ⟨WP.sz (show 14 ≤ 1000000 by decide), fun L hL => ?_⟩
    k_updF
    refine WP.iC (by decide) ?_
    obtain ⟨b, hb, eb⟩ := WP.at_S (ls := MP.bodies) (Int.emod_nonneg rest (show (14 : Int) ≠ 0 by decide)) (Int.emod_lt_of_pos rest (show (0 : Int) < 14 by decide))
    refine WP.ixL (SqL.of upd_same) eb ?_
    generalize hH : upd H L _ = H1
    have e1 : Same H H1 := by rw [← hH]; exact WP.same_new hL
    clear hH eb
    k_updF
    refine WP.iC ⟨by decide, by decide⟩ ?_
    k_updF
    refine WP.iC (by decide) ?_
    k_updF
    have f0 := Int.emod_nonneg (rest / 14) (show (4 : Int) ≠ 0 by decide)
    have f1 := Int.emod_lt_of_pos (rest / 14) (show (0 : Int) < 4 by decide)
    obtain ⟨fr, hfr⟩ : ∃ fr : Nat, rest / 14 % 4 = (fr : Int) := ⟨(rest / 14 % 4).toNat, by omega⟩
    rw [hfr] at f0 f1 ⊢
    obtain ⟨q1, q2, q3, q4, q5, q6, q7, q8, q9⟩ := MP.bodies_ok b hb fr (by omega)
    refine WP.cut (fun σ' H' => H' = H1 ∧ ∃ (b' : List Nat) (n : Nat), σ' = [some (.int r), some (.int (r % 8)), some (.int rest), none, some (.str (SX.S b')), some (.int (fr : Int)), none, none, none] ∧ MP.Body b' (n + fr) ∧ 1 ≤ n ∧ n ≤ 5) ?_ ?_
    · k_updF
      refine WP.br (fun c => ?_) (fun c => ?_)
      · k_updF
        refine WP.catS ?_ (by rw [sizeLine_eq]; show _ + 1 ≤ _; omega)
        k_updF
        refine WP.slTo (by omega) (by rw [sizeLine_eq]; decide) ?_
        rw [Int.toNat_natCast]
        refine WP.catS ?_ (by rw [sizeLine_eq, ← List.length_append]; omega)
        k_updF
        exact ⟨rfl, _, _, rfl, MP.body_of q1 q2 q3 q4, q5, q6⟩
      · k_updF
        obtain rfl : fr = 0 := by omega
        exact ⟨rfl, _, _, rfl, MP.body_of q7 q8 q9 rfl, q5, q6⟩
    clear q1 q2 q3 q4 q5 q6 q7 q8 q9 hb
    rintro σ' H' ⟨rfl, b', n, rfl, hB, n1, n5⟩
    k_updF
    refine ⟨WP.sz (show 8 ≤ 1000000 by decide), fun L2 hL2 => ?_⟩
    k_updF
    refine WP.iC ⟨by decide, by decide⟩ ?_
    k_updF
    refine WP.iC (by decide) ?_
    obtain ⟨s, hs, es⟩ := WP.at_S (ls := [[], [45], [43], [46, 45], [46, 43], [99, 114], [100, 98], []]) (Int.emod_nonneg (rest / 56) (show (8 : Int) ≠ 0 by decide)) (Int.emod_lt_of_pos (rest / 56) (show (0 : Int) < 8 by decide))
    refine WP.ixL (SqL.of upd_same) es ?_
    have hs' : s ∈ MP.signs := (show ∀ s ∈ [[], [45], [43], [46, 45], [46, 43], [99, 114], [100, 98], []], s ∈ MP.signs by decide) s hs
    clear hs es
    generalize hH : upd H' L2 _ = H2
    have e2 : Same H H2 := by rw [← hH]; exact e1.trans (WP.same_new hL2)
    clear hH
    k_updF
    refine ⟨_, rfl, fun D hD => WP.lc_txt (fun i Hx => Hx = upd H2 D (.lst (((b'.take i).filter MP.isD).map fun c => V.str (SX.S [c])))) rfl ?_ ?_⟩
    · rintro i c Hx hc rfl
      obtain ⟨hib, hget⟩ := List.getElem?_eq_some_iff.mp hc
      have et : b'.take (i + 1) = b'.take i ++ [c] := by rw [List.take_succ, hc]; rfl
      k_updF
      refine ⟨rfl, ?_⟩
      k_updF
      refine WP.inSign ?_
      rw [MP.memI]
      k_updF
      cases hDc : MP.isD c with
      | true =>
        refine WP.brT rfl ?_
        k_updF
        refine ⟨_, upd_same, ?_, ?_⟩
        · rw [List.length_map, sizeLine_eq]
          have := List.length_filter_le MP.isD (b'.take i)
          have := hB.ln
          rw [List.length_take] at *
          omega
        · rw [et, List.filter_append, List.map_append, show [c].filter MP.isD = [c] by simp [hDc], upd_upd]
          rfl
      | false =>
        refine WP.brF rfl ?_
        rw [et, List.filter_append, show [c].filter MP.isD = [] by simp [hDc], List.append_nil]
    rintro Hx rfl
    have e3 : Same H (upd H2 D (.lst (((b'.take b'.length).filter MP.isD).map fun c => V.str (SX.S [c])))) := e2.trans (WP.same_new hD)
    k_updF
    refine WP.lenL (SqL.of upd_same) ?_
    rw [List.length_map, List.take_length, hB.ct]
    rw [List.take_length] at e3
    generalize upd H2 D _ = H3 at e3 ⊢
    k_updF
    refine WP.cut (fun σ' H' => Same H H' ∧ ∃ (s : List Nat) (z : Option V), σ' = [some (.int r), some (.int (r % 8)), some (.int rest), none, some (.str (SX.S b')), some (.int (fr : Int)), some (.str (SX.S s)), some (.int ((n + fr : Nat) : Int)), z] ∧ s ∈ MP.signs) ?_ ?_
    · k_updF
      refine WP.br (fun c => ?_) (fun c => ?_)
      · k_updF
        refine ⟨WP.sz2, fun L3 hL3 => ?_⟩
        refine WP.inL [[57], [57, 57]] (SqL.of upd_same) rfl ?_
        k_updF
        refine WP.br (fun d => ?_) (fun d => ?_)
        · k_updF
          exact ⟨e3.trans (WP.same_new hL3), [45], _, rfl, by decide⟩
        · k_updF
          exact ⟨e3.trans (WP.same_new hL3), s, _, rfl, hs'⟩
      · refine WP.brF rfl ?_
        k_updF
        exact ⟨e3, s, _, rfl, hs'⟩
    rintro σ' H4 ⟨e4, s, z, rfl, hs'⟩
    k_updF
    refine ⟨WP.sz (show 5 ≤ 1000000 by decide), ?_⟩
    rw [show ((n + fr : Nat) : Int) - (fr : Int) = (n : Int) by omega]
    exact (k (.ed b' n fr s) ⟨by omega, by omega, hB, hs'⟩).new e4
end
abbrev s__law_side : Stmt := top 59
abbrev N__law_side : List Str := ["rich", "shape", "k"]
theorem sc__law_side : FnScope N__law_side ["rich"] (defScope s__law_side) := ⟨rfl, rfl, rfl, by decide +kernel, rfl, by decide +kernel, by decide +kernel⟩
def sp__law_side (K : PySem.W.Frag) (mg : WP.MG) : Sp := fun vs H Q _ => ∃ r : Int, vs = [.int r] ∧ 0 ≤ r ∧ ∀ (p : Addr) (s : MV.Side) (H' : Hp), Same H H' → MV.SideAt K H' p s → s.Ok → s.Tg → Q (.ref p) H'
section
variable {P : Program} {w : World} {K : PySem.W.Frag} {mg : Str → Option Value} {base : Heap}
theorem ok__law_side {f : Addr} {fd : FuncData} (F : Fun K "_law_side" "_law_side" s__law_side f fd) (B : Blt w K mg) (c__law_picture : WP.Callee P w K mg base CX0 1 "_law_picture" ["rich"] (sp__law_picture K mg)) : FnOk P w K mg base CX0 2 f fd ["rich"] (sp__law_side K mg) := by
  refine F.ok sc__law_side (fun vs H Q E h => ?_) (fun cdv A outer s H vs Q E hr h => ?_)
  · first | (obtain ⟨_, rfl, _⟩ := h; rfl) | (obtain ⟨_, _, rfl, _⟩ := h; rfl) | (obtain ⟨_, _, _, rfl, _⟩ := h; rfl) | (obtain ⟨_, _, _, _, rfl, _⟩ := h; rfl) | (obtain ⟨_, _, _, _, _, rfl, _⟩ := h; rfl) | (obtain ⟨_, _, _, _, _, _, rfl, _⟩ := h; rfl) | (obtain ⟨_, _, _, _, _, _, _, rfl, _⟩ := h; rfl) | (obtain ⟨_, _, _, _, _, _, _, _, rfl, _⟩ := h; rfl) | (obtain ⟨rfl, _⟩ := h; rfl)
  · obtain ⟨r, rfl, hr0, k⟩ := h
    refine ⟨_, (pss_cons (ps_if (pt_cmpR op_eq (pe_op op_mod (pv 0) pe_int) pe_int (nomark _)) (pss_cons (ps_set (i := 1) sc__law_side.nd rfl (Or.inl rfl) (pe_lst pa_nil))
      (pss_cons (ps_for PassesOwn.never rfl (pi_range1 rfl B.b_range (WP.pa_consN (pe_op op_add pe_int (pe_op op_mod (pe_op op_fdiv (pv 0) pe_int) pe_int)) pa_nil)) (pg_name (i := 2) sc__law_side.nd rfl (Or.inl rfl)) (pss_one (ps_expr (pe_bm PySem.F.plainAttrs_list PySem.F.slot_list_append PySem.F.type_list_append mt_append (pv 1) (WP.pa_consN (WP.pe_callC c__law_picture hr rfl pass0 (WP.pa_consN (pe_op op_add (pe_op op_fdiv (pv 0) pe_int) (pe_op op_mul pe_int (pv 2))) pa_nil)) pa_nil)))))
      (pss_one (ps_ret (pe_tup (WP.pa_consN (WP.pe_strL [103, 114, 111, 117, 112] (by decide +kernel)) (WP.pa_consN (pe_callTy WP.c_tupOf (by rfl) B.b_tuple (by decide +kernel) (WP.pa_consN (pv 1) pa_nil)) pa_nil))))))) pss_nil)
      (pss_one (ps_ret (WP.pe_callC c__law_picture hr rfl pass0 (WP.pa_consN (pe_op op_fdiv (pv 0) pe_int) pa_nil))))), ?_⟩
    k_updF
    refine WP.iC (by decide) ?_
    k_updF
    refine WP.br (fun c => ?_) (fun c => ?_)
    · k_updF
      refine ⟨WP.sz (by decide), fun L hL => ?_⟩
      k_updF
      refine WP.iC ⟨by decide, by decide⟩ ?_
      k_updF
      refine WP.iC (by decide) ?_
      k_updF
      have h0 := Int.emod_nonneg (r / 9) (show (3 : Int) ≠ 0 by decide)
      have h3 := Int.emod_lt_of_pos (r / 9) (show (0 : Int) < 3 by decide)
      generalize r / 9 % 3 = m at h0 h3 ⊢
      refine ⟨_, rfl, by omega, by omega, for_range (lo := 0) (n := _) (fun i σ' H' => ∃ (rs : List MR.Res) (as : List Addr) (z : Option V), σ' = [some (.int r), some (.ref L), z] ∧ Same H H' ∧ H' L = some (.lst (as.map V.ref)) ∧ as.length = rs.length ∧ rs.length = i ∧ (∀ r ∈ rs, MV.ROk r) ∧
        ∀ (j : Nat) (a : Addr) (r : MR.Res), as[j]? = some a → rs[j]? = some r → SqT K H' a r.vs)
        ⟨[], [], none, rfl, WP.same_new hL, upd_same, rfl, rfl, (fun r h => by cases h), (fun j a r h => by cases h)⟩ ?_ ?_⟩
      · rintro i σ' H1 hi ⟨rs, as, z, rfl, e1, hl, hal, hlen, hok, hcs⟩
        have fin : ∀ (x : MR.Res) (p : Addr) (H2 : Hp) (y : Option V), Same H1 H2 → SqT K H2 p x.vs → MV.ROk x → ∃ (rs' : List MR.Res) (as' : List Addr) (z : Option V), [some (V.int r), some (.ref L), y] = [some (.int r), some (.ref L), z] ∧ Same H (upd H2 L (.lst (as.map V.ref ++ [.ref p]))) ∧
            (upd H2 L (.lst (as.map V.ref ++ [.ref p]))) L = some (.lst (as'.map V.ref)) ∧ as'.length = rs'.length ∧ rs'.length = i + 1 ∧ (∀ r ∈ rs', MV.ROk r) ∧ ∀ (j : Nat) (a : Addr) (r : MR.Res), as'[j]? = some a → rs'[j]? = some r → SqT K (upd H2 L (.lst (as.map V.ref ++ [.ref p]))) a r.vs := by
          intro x p H2 y e2 hp hx
          have hl2 := e2 _ _ hl
          refine ⟨rs ++ [x], as ++ [p], y, rfl, WP.same_mut (e1.trans e2) hL, by rw [upd_same, List.map_append]; rfl, by rw [List.length_append, List.length_append, hal]; rfl, by rw [List.length_append, hlen]; rfl, fun r' hr' => ?_, fun j a' r' ha' hr' => ?_⟩
          · rcases List.mem_append.mp hr' with h | h
            · exact hok r' h
            · rw [List.mem_singleton.mp h]; exact hx
          · rcases Nat.lt_or_ge j as.length with h | h
            · rw [List.getElem?_append_left h] at ha'
              rw [List.getElem?_append_left (by omega)] at hr'
              exact WP.sqtX (d := L) WP.Sx.upd hl2 (WP.sqt e2 (hcs j a' r' ha' hr'))
            · rw [List.getElem?_append_right h] at ha'
              rw [List.getElem?_append_right (by omega)] at hr'
              have hj0 : j - as.length = 0 := by
                have := (List.getElem?_eq_some_iff.mp ha').1
                simp at this; omega
              rw [← hal] at hr'
              rw [hj0] at ha' hr'
              cases ha'
              cases hr'
              exact WP.sqtX (d := L) WP.Sx.upd hl2 hp
        have hz : (as.map V.ref).length < sizeLine := by rw [List.length_map, sizeLine_eq]; omega
        k_updF
        refine WP.tyL (SqL.of hl) ?_
        k_updF
        refine WP.iC ⟨by decide, by decide⟩ ?_
        k_updF
        refine WP.iC (.inl (by decide)) ?_
        k_updF
        refine ⟨_, rfl, fun _ n n1 n2 p H2 e2 hp => ?_, fun _ pic ho p H2 e2 hp => ?_⟩
        · k_updF
          refine WP.appL (e2 _ _ hl) hz ?_
          exact fin (.txt n) p H2 _ e2 (SqT.of hp) ⟨n1, n2⟩
        · k_updF
          refine WP.appL (e2 _ _ hl) hz ?_
          exact fin (.pic pic) p H2 _ e2 (SqT.of hp) ho
      · rintro σ' H1 ⟨rs, as, z, rfl, e1, hl, hal, hlen, hok, hcs⟩
        k_updF
        refine WP.tupL (SqL.of hl) (fun q hq => ?_)
        k_updF
        refine ⟨WP.sz2, fun p hp => ?_⟩
        have e2 : Same H1 (upd H1 q (.tup (as.map V.ref))) := WP.same_new hq
        have e3 : Same (upd H1 q (.tup (as.map V.ref))) (upd (upd H1 q (.tup (as.map V.ref))) p (.tup [.str (SX.S MV.GRP), .ref q])) := WP.same_new hp
        refine k p (.grp rs) _ ((e1.trans e2).trans e3) ⟨q, as, SqT.of upd_same, WP.sqt e3 (SqT.of upd_same), hal, fun j a r ha hr => WP.sqt (e2.trans e3) (hcs j a r ha hr)⟩ ⟨by omega, by omega, hok⟩ trivial
    · k_updF
      refine WP.iC ⟨by decide, by decide⟩ ?_
      k_updF
      exact ⟨_, rfl, fun _ n n1 n2 p H2 e2 hp => k p (.res (.txt n)) H2 e2 (SqT.of hp) ⟨n1, n2⟩ trivial, fun _ pic ho p H2 e2 hp => k p (.res (.pic pic)) H2 e2 (SqT.of hp) ho trivial⟩
end
abbrev s__law_can : Stmt := top 60
abbrev N__law_can : List Str := ["source", "target"]
theorem sc__law_can : FnScope N__law_can ["source", "target"] (defScope s__law_can) := ⟨rfl, rfl, rfl, by decide +kernel, rfl, by decide +kernel, by decide +kernel⟩
def sp__law_can (K : PySem.W.Frag) (mg : WP.MG) : Sp := fun vs H Q _ => ∃ (p q : Addr) (s t : MV.Side), vs = [.ref p, .ref q] ∧ MV.SideAt K H p s ∧ MV.SideAt K H q t ∧ s.Ok ∧ t.Ok ∧ t.Tg ∧ WP.RetV (.bl (MV.cn s t)) H Q
section
variable {P : Program} {w : World} {K : PySem.W.Frag} {mg : Str → Option Value} {base : Heap}
theorem ok__law_can {f : Addr} {fd : FuncData} (F : Fun K "_law_can" "_law_can" s__law_can f fd) (B : Blt w K mg)  : FnOk P w K mg base CX0 1 f fd ["source", "target"] (sp__law_can K mg) := by
  refine F.ok sc__law_can (fun vs H Q E h => ?_) (fun cdv A outer s H vs Q E hr h => ?_)
  · first | (obtain ⟨_, rfl, _⟩ := h; rfl) | (obtain ⟨_, _, rfl, _⟩ := h; rfl) | (obtain ⟨_, _, _, rfl, _⟩ := h; rfl) | (obtain ⟨_, _, _, _, rfl, _⟩ := h; rfl) | (obtain ⟨_, _, _, _, _, rfl, _⟩ := h; rfl) | (obtain ⟨_, _, _, _, _, _, rfl, _⟩ := h; rfl) | (obtain ⟨_, _, _, _, _, _, _, rfl, _⟩ := h; rfl) | (obtain ⟨_, _, _, _, _, _, _, _, rfl, _⟩ := h; rfl) | (obtain ⟨rfl, _⟩ := h; rfl)
  · obtain ⟨p, q, s, t, rfl, hp, hq, os, ot, tt, k⟩ := h
    refine ⟨_, (Evl.pss_cut (ps_if (PW.pt (pw_and (pt_cmpR op_eq (pe_ix ix_tup (pv 0) pe_int (fun _ _ => rfl)) (WP.pe_strL [103, 114, 111, 117, 112] (by decide +kernel)) (nomark _)) (pw_and1 (pt_cmpR op_eq (pe_ix ix_tup (pv 1) pe_int (fun _ _ => rfl)) (WP.pe_strL [103, 114, 111, 117, 112] (by decide +kernel)) (nomark _))))) (pss_one (ps_ret (pe_cmpR (op_eqD hr.units) (pv 0) (pv 1) (nomark _)))) pss_nil)
      (pss_cons (ps_if (pt_cmpR op_eq (pe_ix ix_tup (pv 1) pe_int (fun _ _ => rfl)) (WP.pe_strL [116, 101, 120, 116] (by decide +kernel)) (nomark _)) (pss_one (ps_ret (pe_or (pe_cmpR op_in_seq (pe_ix ix_tup (pv 0) pe_int (fun _ _ => rfl)) (pe_lst (WP.pa_consN (WP.pe_strL [115, 116, 114, 105, 110, 103] (by decide +kernel)) (WP.pa_consN (WP.pe_strL [116, 101, 120, 116] (by decide +kernel)) (WP.pa_consN (WP.pe_strL [101, 100, 105, 116, 101, 100] (by decide +kernel)) (WP.pa_consN (WP.pe_strL [103, 114, 111, 117, 112] (by decide +kernel)) pa_nil))))) rfl) (pe_one (pe_and (pe_cmpR op_eq (pe_ix ix_tup (pv 0) pe_int (fun _ _ => rfl)) (WP.pe_strL [110, 117, 109, 98, 101, 114] (by decide +kernel)) (nomark _)) (pe_one (pe_cmpR op_eq (pe_ix ix_tup (pv 0) pe_int (fun _ _ => rfl)) pe_int (nomark _)))))))) pss_nil)
      (pss_one (ps_ret (pe_and (pe_cmpR op_ne (pe_ix ix_tup (pv 1) pe_int (fun _ _ => rfl)) (WP.pe_strL [103, 114, 111, 117, 112] (by decide +kernel)) (nomark _)) (pe_one (pe_cmpR op_in_seq (pe_ix ix_tup (pv 0) pe_int (fun _ _ => rfl)) (pe_lst (WP.pa_consN (WP.pe_strL [100, 101, 99, 105, 109, 97, 108] (by decide +kernel)) (WP.pa_consN (WP.pe_strL [110, 117, 109, 98, 101, 114] (by decide +kernel)) (WP.pa_consN (WP.pe_strL [101, 100, 105, 116, 101, 100] (by decide +kernel)) pa_nil)))) rfl))))))), ?_⟩
    obtain ⟨xs, hx, h0⟩ := hp.at0
    obtain ⟨ys, hy, h1⟩ := hq.at0
    have rest : t.hd ≠ MV.GRP ∨ s.hd ≠ MV.GRP → (t.hd ≠ MV.GRP ∨ MV.cn s t = false) := fun h => by
      rcases h with h | h
      · exact .inl h
      · by_cases c : t.hd = MV.GRP
        · obtain ⟨ts, rfl⟩ := MV.tg_grp c
          exact .inr (MV.cn_grp h)
        · exact .inl c
    refine WP.cut (fun σ' H' => H' = H ∧ σ' = [some (.ref p), some (.ref q)] ∧ (t.hd ≠ MV.GRP ∨ s.hd ≠ MV.GRP)) ?_ ?_
    · k_updF
      refine WP.ixT hx h0 ?_
      k_updF
      refine WP.br (fun c => ?_) (fun c => ?_)
      · k_updF
        refine WP.ixT hy h1 ?_
        k_updF
        refine WP.br (fun c2 => ?_) (fun c2 => ?_)
        · k_updF
          refine WP.eqD hp.dp hq.dp ?_ (MV.Side.sh os) (MV.Side.sh ot)
          obtain ⟨ts, rfl⟩ := MV.tg_grp c2
          exact k _ (.refl _)
        · k_updF
          exact ⟨rfl, rfl, .inl c2⟩
      · refine WP.brF rfl ?_
        k_updF
        exact ⟨rfl, rfl, .inr c⟩
    rintro σ' H' ⟨rfl, rfl, hne⟩
    have hne := rest hne
    k_updF
    refine WP.ixT hy h1 ?_
    k_updF
    refine WP.br (fun c2 => ?_) (fun c2 => ?_)
    · obtain ⟨n, rfl⟩ := MV.tg_txt c2
      have e : MV.cn s (.res (.txt n)) = (decide (s.hd ∈ [MV.STR, MV.TXT, MV.EDT, MV.GRP]) || MV.whole s) := rfl
      rw [e] at k
      k_updF
      refine WP.ixT hx h0 ?_
      k_updF
      refine ⟨WP.sz (show 4 ≤ 1000000 by decide), fun T hT => ?_⟩
      refine WP.inL [MV.STR, MV.TXT, MV.EDT, MV.GRP] (SqL.of upd_same) rfl ?_
      have e1 : Same H' (upd H' T (.lst [.str (SX.S MV.STR), .str (SX.S MV.TXT), .str (SX.S MV.EDT), .str (SX.S MV.GRP)])) := WP.same_new hT
      cases hm : decide (s.hd ∈ [MV.STR, MV.TXT, MV.EDT, MV.GRP]) with
      | true =>
        rw [hm, Bool.true_or] at k
        refine ⟨_, rfl, ?_⟩
        refine WP.brT rfl ?_
        exact k _ e1
      | false =>
        rw [hm, Bool.false_or] at k
        refine ⟨_, rfl, ?_⟩
        refine WP.brF rfl ?_
        k_updF
        refine WP.ixT (WP.sqt e1 hx) h0 ?_
        k_updF
        by_cases c3 : s.hd = MV.NUM
        · refine WP.brT (decide_eq_true c3) ?_
          obtain ⟨sg, w, f, rfl⟩ := MV.hd_num c3
          k_updF
          have hp : SqT K H' p [V.str (SX.S [110, 117, 109, 98, 101, 114]), .bl sg, .int (w : Int), .int (f : Int)] := hp
          refine WP.ixT (WP.sqt e1 hp) WP.at3 ?_
          k_updF
          have e : decide ((f : Int) = 0) = decide (f = 0) := by
            by_cases h : f = 0
            · rw [decide_eq_true h, decide_eq_true (by omega)]
            · rw [decide_eq_false h, decide_eq_false (by omega)]
          rw [e]
          exact k _ e1
        · refine WP.brF (decide_eq_false c3) ?_
          have e : MV.whole s = false := by
            cases s with
            | res r =>
              cases r with
              | txt n => rfl
              | pic q =>
                cases q with
                | ed b w f s => rfl
                | num sg w f => exact absurd rfl c3
            | _ => rfl
          rw [e] at k
          exact k _ e1
    k_updF
    refine WP.ixT hy h1 ?_
    k_updF
    by_cases cg : t.hd = MV.GRP
    · refine WP.brF (by rw [decide_eq_true (show t.hd = [103, 114, 111, 117, 112] from cg)]; rfl) ?_
      rcases hne with h | h
      · exact absurd cg h
      · rw [h] at k
        exact k _ (.refl _)
    · refine WP.brT (by rw [decide_eq_false (show ¬ t.hd = [103, 114, 111, 117, 112] from cg)]; rfl) ?_
      obtain ⟨pt, rfl⟩ := MV.tg_ne tt cg c2
      have e : MV.cn s (.res (.pic pt)) = decide (s.hd ∈ [MV.DEC, MV.NUM, MV.EDT]) := rfl
      rw [e] at k
      k_updF
      refine WP.ixT hx h0 ?_
      k_updF
      refine ⟨WP.sz (show 3 ≤ 1000000 by decide), fun T hT => ?_⟩
      refine WP.inL [MV.DEC, MV.NUM, MV.EDT] (SqL.of upd_same) rfl ?_
      exact k _ (WP.same_new hT)
end
abbrev s__law_figures : Stmt := top 55
abbrev N__law_figures : List Str := ["units", "size", "figures", "k"]
theorem sc__law_figures : FnScope N__law_figures ["units", "size"] (defScope s__law_figures) := ⟨rfl, rfl, rfl, by decide +kernel, rfl, by decide +kernel, by decide +kernel⟩
def sp__law_figures (K : PySem.W.Frag) (mg : WP.MG) : Sp := fun vs H Q _ => ∃ (u : Int) (n : Nat), vs = [.int u, .int (n : Int)] ∧ 1 ≤ n ∧ n ≤ 18 ∧ u.natAbs < 10 ^ n ∧ Q (.str (SX.S (WP.padL n u.natAbs))) H
section
variable {P : Program} {w : World} {K : PySem.W.Frag} {mg : Str → Option Value} {base : Heap}
theorem ok__law_figures {f : Addr} {fd : FuncData} (F : Fun K "_law_figures" "_law_figures" s__law_figures f fd) (B : Blt w K mg)  : FnOk P w K mg base CX0 1 f fd ["units", "size"] (sp__law_figures K mg) := by
  refine F.ok sc__law_figures (fun vs H Q E h => ?_) (fun cdv A outer s H vs Q E hr h => ?_)
  · first | (obtain ⟨_, rfl, _⟩ := h; rfl) | (obtain ⟨_, _, rfl, _⟩ := h; rfl) | (obtain ⟨_, _, _, rfl, _⟩ := h; rfl) | (obtain ⟨_, _, _, _, rfl, _⟩ := h; rfl) | (obtain ⟨_, _, _, _, _, rfl, _⟩ := h; rfl) | (obtain ⟨_, _, _, _, _, _, rfl, _⟩ := h; rfl) | (obtain ⟨_, _, _, _, _, _, _, rfl, _⟩ := h; rfl) | (obtain ⟨_, _, _, _, _, _, _, _, rfl, _⟩ := h; rfl) | (obtain ⟨rfl, _⟩ := h; rfl)
  · obtain ⟨u, n, rfl, n1, n18, hu, k⟩ := h
    refine ⟨_, (pss_cons (ps_set (i := 2) sc__law_figures.nd rfl (Or.inl rfl) (pe_callTy WP.c_str (by rfl) B.b_str (by decide +kernel) (WP.pa_consN (pe_callB WP.c_abs (by rfl) B.b_abs (by decide +kernel) (WP.pa_consN (pv 0) pa_nil)) pa_nil)))
      (pss_cons (ps_for PassesOwn.never rfl (pi_range1 rfl B.b_range (WP.pa_consN (pv 1) pa_nil)) (pg_name (i := 3) sc__law_figures.nd rfl (Or.inl rfl)) (pss_one (ps_if (pt_cmpR op_lt (pe_callB WP.c_len (by rfl) B.b_len (by decide +kernel) (WP.pa_consN (pv 2) pa_nil)) (pv 1) (nomark _)) (pss_one (ps_set (i := 2) sc__law_figures.nd rfl (Or.inl rfl) (pe_op WP.op_addS (WP.pe_strL [48] (by decide +kernel)) (pv 2)))) pss_nil)))
      (pss_one (ps_ret (pv 2))))), ?_⟩
    have hl := TL.numL_len (by omega) hu
    rw [WP.padL_num n u.natAbs (by omega) hu] at k
    generalize hN : TL.numL u.natAbs = N at k hl
    k_updF
    refine WP.absI ?_
    k_updF
    refine WP.strN (WP.log2_lt (by decide) (Nat.lt_of_lt_of_le hu (Nat.le_trans (Nat.pow_le_pow_right (by decide) n18) (by decide +kernel)))) ?_
    rw [hN]
    k_updF
    refine ⟨_, rfl, by omega, by omega, for_range (lo := 0) (n := _) (fun i σ' H' => H' = H ∧ ∃ z, σ' = [some (.int u), some (.int (n : Int)), some (.str (SX.S (List.replicate (min i (n - N.length)) 48 ++ N))), z]) ⟨rfl, none, by rw [Nat.zero_min]; rfl⟩ ?_ ?_⟩
    · rintro i σ' H' hi ⟨rfl, z, rfl⟩
      have hL : (List.replicate (min i (n - N.length)) 48 ++ N).length = min i (n - N.length) + N.length := by rw [List.length_append, List.length_replicate]
      k_updF
      refine WP.lenS' (by rw [sizeLine_eq, hL]; omega) ?_
      rw [hL]
      k_updF
      refine WP.br (fun c => ?_) (fun c => ?_)
      · k_updF
        refine WP.catS ?_ (by rw [sizeLine_eq, hL]; show 1 + _ ≤ _; omega)
        k_updF
        refine ⟨rfl, some (.int (0 + (i : Int))), ?_⟩
        rw [show min (i + 1) (n - N.length) = min i (n - N.length) + 1 by omega, List.replicate_succ]
        rfl
      · k_updF
        refine ⟨rfl, some (.int (0 + (i : Int))), ?_⟩
        rw [show min (i + 1) (n - N.length) = min i (n - N.length) by omega]
        rfl
    · rintro σ' H' ⟨rfl, z, rfl⟩
      rw [Int.toNat_natCast, show min n (n - N.length) = n - N.length by omega]
      k_updF
      exact k
end
abbrev s__law_body : Stmt := top 56
abbrev N__law_body : List Str := ["marks", "figures", "hiding", "filler", "text", "at", "mark"]
theorem sc__law_body : FnScope N__law_body ["marks", "figures"] (defScope s__law_body) := ⟨rfl, rfl, rfl, by decide +kernel, rfl, by decide +kernel, by decide +kernel⟩
def sp__law_body (K : PySem.W.Frag) (mg : WP.MG) : Sp := fun vs H Q _ => ∃ (b fs : List Nat) (n : Nat), vs = [.str (SX.S b), .str (SX.S fs)] ∧ MP.Body b n ∧ fs.length = n ∧ n ≤ 100 ∧ WP.RetV (.str (SX.S (MP.bodyText b fs))) H Q
section
variable {P : Program} {w : World} {K : PySem.W.Frag} {mg : Str → Option Value} {base : Heap}
theorem ok__law_body {f : Addr} {fd : FuncData} (F : Fun K "_law_body" "_law_body" s__law_body f fd) (B : Blt w K mg)  : FnOk P w K mg base CX0 1 f fd ["marks", "figures"] (sp__law_body K mg) := by
  refine F.ok sc__law_body (fun vs H Q E h => ?_) (fun cdv A outer s H vs Q E hr h => ?_)
  · first | (obtain ⟨_, rfl, _⟩ := h; rfl) | (obtain ⟨_, _, rfl, _⟩ := h; rfl) | (obtain ⟨_, _, _, rfl, _⟩ := h; rfl) | (obtain ⟨_, _, _, _, rfl, _⟩ := h; rfl) | (obtain ⟨_, _, _, _, _, rfl, _⟩ := h; rfl) | (obtain ⟨_, _, _, _, _, _, rfl, _⟩ := h; rfl) | (obtain ⟨_, _, _, _, _, _, _, rfl, _⟩ := h; rfl) | (obtain ⟨_, _, _, _, _, _, _, _, rfl, _⟩ := h; rfl) | (obtain ⟨rfl, _⟩ := h; rfl)
  · obtain ⟨b, fs, n, rfl, hb, hf, hn, k⟩ := h
    refine ⟨_, (pss_cons (ps_set (i := 2) sc__law_body.nd rfl (Or.inl rfl) (pe_cmpR op_ne (pe_ix ix_str (pv 0) pe_int (fun _ _ => rfl)) (WP.pe_strL [57] (by decide +kernel)) (nomark _)))
      (pss_cons (ps_set (i := 3) sc__law_body.nd rfl (Or.inl rfl) (pe_ifExp (pt_cmpR op_eq (pe_ix ix_str (pv 0) pe_int (fun _ _ => rfl)) (WP.pe_strL [42] (by decide +kernel)) (nomark _)) (WP.pe_strL [42] (by decide +kernel)) (WP.pe_strL [32] (by decide +kernel))))
      (pss_cons (ps_set (i := 4) sc__law_body.nd rfl (Or.inl rfl) (WP.pe_strL [] (by decide +kernel)))
      (pss_cons (ps_set (i := 5) sc__law_body.nd rfl (Or.inl rfl) pe_int)
      (pss_cons (ps_for PassesOwn.never rfl (pi_str (pv 0)) (pg_name (i := 6) sc__law_body.nd rfl (Or.inl rfl)) (pss_one (ps_if (pt_cmpR WP.op_inSign (pv 6) (WP.pe_strL [44, 98, 48, 47] (by decide +kernel)) rfl) (pss_one (ps_set (i := 4) sc__law_body.nd rfl (Or.inl rfl) (pe_op WP.op_addS (pv 4) (pe_ifExp (pt_val (pv 2)) (pv 3) (WP.pe_dgetD (hu_of hr) (pe_disp (pps_cons (WP.pe_strL [98] (by decide +kernel)) (WP.pe_strL [32] (by decide +kernel)) pps_nil) (by rfl) (by rfl) (fun h => nomatch h) (by decide)) (pv 6) (pv 6) ⟨by rfl, by rfl, by rfl, by rfl⟩))))) (pss_one (ps_if (pt_cmpR op_eq (pv 6) (WP.pe_strL [46] (by decide +kernel)) (nomark _)) (pss_cons (ps_set (i := 2) sc__law_body.nd rfl (Or.inl rfl) pe_bl)
      (pss_one (ps_set (i := 4) sc__law_body.nd rfl (Or.inl rfl) (pe_op WP.op_addS (pv 4) (WP.pe_strL [46] (by decide +kernel)))))) (Evl.pss_cut (ps_if (PW.pt (pw_or (pt_cmpR op_eq (pv 6) (WP.pe_strL [57] (by decide +kernel)) (nomark _)) (pw_or1 (pt_cmpR op_ne (pe_ix ix_str (pv 1) (pv 5) (fun _ _ => rfl)) (WP.pe_strL [48] (by decide +kernel)) (nomark _))))) (pss_one (ps_set (i := 2) sc__law_body.nd rfl (Or.inl rfl) pe_bl)) pss_nil)
      (pss_cons (ps_set (i := 4) sc__law_body.nd rfl (Or.inl rfl) (pe_op WP.op_addS (pv 4) (pe_ifExp (pt_val (pv 2)) (pv 3) (pe_ix ix_str (pv 1) (pv 5) (fun _ _ => rfl)))))
      (pss_one (ps_set (i := 5) sc__law_body.nd rfl (Or.inl rfl) (pe_op op_add (pv 5) pe_int))))))))))
      (pss_one (ps_ret (pv 4)))))))), ?_⟩
    obtain ⟨c0, r0, hb0, hD0⟩ := hb.hd
    have hlen := hb.ln
    have hl : b.length ≤ sizeLine := by rw [sizeLine_eq]; omega
    have hfl : fs.length ≤ sizeLine := by rw [sizeLine_eq]; omega
    have at0 : atI b (0 : Int) = some c0 := by rw [hb0]; exact WP.at0
    have hh : MP.hd b = c0 := by rw [hb0]; rfl
    k_updF
    refine WP.ixS1 at0 hl ?_
    k_updF
    refine WP.ixS1 at0 hl ?_
    k_updF
    refine WP.ifSS ?_
    have ef : (if [c0] = [42] then [42] else [32]) = [MP.fillOf b] := by
      unfold MP.fillOf
      rw [hh]
      by_cases h : c0 = 42
      · subst h; rfl
      · rw [if_neg (by simpa using h), if_neg h]
    have e57 : ∀ c : Nat, decide ([c] = [57]) = (c == 57) := fun c => by
      by_cases h : c = 57
      · subst h; rfl
      · rw [decide_eq_false (by simpa using h), beq_eq_false_iff_ne.mpr h]
    have e48 : ∀ c : Nat, decide ([c] = [48]) = (c == 48) := fun c => by
      by_cases h : c = 48
      · subst h; rfl
      · rw [decide_eq_false (by simpa using h), beq_eq_false_iff_ne.mpr h]
    rw [ef, e57]
    have eT : MP.bodyText b fs = MP.bodyF (MP.fillOf b) (!(MP.hd b == 57)) b fs := rfl
    rw [hh] at eT
    generalize MP.bodyText b fs = T at eT k
    generalize MP.fillOf b = fill at eT ⊢
    k_updF
    refine ⟨_, rfl, WP.for_txt (fun i σ' H' => ∃ (hid : Bool) (acc : List Nat) (a : Nat) (z6 : Option V), σ' = [some (.str (SX.S b)), some (.str (SX.S fs)), some (.bl hid), some (.str (SX.S [fill])), some (.str (SX.S acc)), some (.int (a : Int)), z6] ∧
      Same H H' ∧ acc ++ MP.bodyF fill hid (b.drop i) (fs.drop a) = T ∧ ((b.drop i).filter MP.isD).length = (fs.drop a).length ∧ acc.length = i ∧ i ≤ b.length)
      ⟨_, [], 0, none, rfl, Same.refl _, by rw [List.drop_zero, List.drop_zero, eT]; rfl, by rw [List.drop_zero, List.drop_zero, hb.ct, hf], rfl, Nat.zero_le _⟩ ?_ ?_⟩
    · rintro i c σ' H1 hc ⟨hid, acc, a, z6, rfl, e1, hT, hF, hA, hi⟩
      have hds := MP.drop_some hc
      obtain ⟨hib, hget⟩ := List.getElem?_eq_some_iff.mp hc
      have hok : MP.okM c = true := hb.ok c (by rw [← hget]; exact List.getElem_mem hib)
      rw [hds] at hT hF
      have hz : acc.length + [fill].length ≤ sizeLine := by rw [sizeLine_eq]; show _ + 1 ≤ _; omega
      have fin : ∀ (hid' : Bool) (ch a' : Nat) (H' : Hp), Same H H' → MP.bodyF fill hid (c :: b.drop (i + 1)) (fs.drop a) = ch :: MP.bodyF fill hid' (b.drop (i + 1)) (fs.drop a') → ((b.drop (i + 1)).filter MP.isD).length = (fs.drop a').length →
          ∃ (hid : Bool) (acc' : List Nat) (a : Nat) (z6 : Option V), [some (V.str (SX.S b)), some (.str (SX.S fs)), some (.bl hid'), some (.str (SX.S [fill])), some (.str (SX.S (acc ++ [ch]))), some (.int (a' : Int)), some (.str (SX.S [c]))] = [some (.str (SX.S b)), some (.str (SX.S fs)), some (.bl hid), some (.str (SX.S [fill])), some (.str (SX.S acc')), some (.int (a : Int)), z6] ∧
            Same H H' ∧ acc' ++ MP.bodyF fill hid (b.drop (i + 1)) (fs.drop a) = T ∧ ((b.drop (i + 1)).filter MP.isD).length = (fs.drop a).length ∧ acc'.length = i + 1 ∧ i + 1 ≤ b.length := fun hid' ch a' H' e' h1 h2 =>
        ⟨hid', acc ++ [ch], a', _, rfl, e', by rw [← hT, h1, List.append_assoc]; rfl, h2, by rw [List.length_append, hA]; rfl, hib⟩
      k_updF
      refine WP.inSign ?_
      rw [MP.memJ]
      k_updF
      cases hI : MP.isI c with
      | true =>
        have hI' : c = 44 ∨ c = 98 ∨ c = 48 ∨ c = 47 := by simpa [MP.isI, or_assoc] using hI
        have hD : MP.isD c = false := by rcases hI' with rfl | rfl | rfl | rfl <;> rfl
        have h46 : c ≠ 46 := by rcases hI' with rfl | rfl | rfl | rfl <;> decide
        rw [List.filter_cons, if_neg (by rw [hD]; exact Bool.false_ne_true)] at hF
        refine WP.brT rfl ?_
        k_updF
        cases hid with
        | true =>
          refine WP.brT rfl ?_
          k_updF
          refine WP.catS ?_ hz
          k_updF
          exact fin true fill a _ e1 (MP.bodyF_I hD h46) hF
        | false =>
          refine WP.brF rfl ?_
          refine WP.dget2 (WP.disp1 fun D hD' => ?_)
          refine ⟨D, rfl, .inl ⟨_, .inl upd_same⟩, ?_⟩
          k_updF
          refine ⟨_, DGet.k (k := .inr (SX.S [c])) upd_same, ?_⟩
          have ev : (valV [((Sum.inr (SX.S [98]) : Key), V.str (SX.S [32]))] (.inr (SX.S [c]))).getD (.str (SX.S [c])) = .str (SX.S [MP.insM c]) := by
            rw [WP.valV1]
            unfold MP.insM
            by_cases h : c = 98
            · subst h; rfl
            · rw [if_neg (fun e => h (by simpa using e.symm)), if_neg h]; rfl
          rw [ev]
          refine WP.catS ?_ hz
          k_updF
          exact fin false (MP.insM c) a _ (e1.trans (WP.same_disp hD')) (MP.bodyF_I hD h46) hF
      | false =>
        refine WP.brF rfl ?_
        k_updF
        by_cases h46 : c = 46
        · subst h46
          rw [List.filter_cons, if_neg (by decide)] at hF
          refine WP.brT (by decide) ?_
          k_updF
          refine WP.catS ?_ hz
          k_updF
          exact fin false 46 a _ e1 MP.bodyF_P hF
        · have hD : MP.isD c = true := by
            have : (c == 46) = false := beq_eq_false_iff_ne.mpr h46
            simpa [MP.okM, hI, this] using hok
          refine WP.brF (decide_eq_false (by simpa using h46)) ?_
          rw [List.filter_cons, if_pos hD, List.length_cons] at hF
          have ha : a < fs.length := by rw [List.length_drop] at hF; omega
          have hfs := MP.drop_some (l := fs) (i := a) (c := fs[a]) (List.getElem?_eq_getElem ha)
          have hat : atI fs (a : Int) = some fs[a] := atI_nat (List.getElem?_eq_getElem ha)
          generalize fs[a] = d at hfs hat
          have hF' : ((b.drop (i + 1)).filter MP.isD).length = (fs.drop (a + 1)).length := by rw [hfs, List.length_cons] at hF; omega
          refine WP.cut (fun σ' H' => H' = H1 ∧ σ' = [some (.str (SX.S b)), some (.str (SX.S fs)), some (.bl (hid && (!(c == 57)) && (d == 48))), some (.str (SX.S [fill])), some (.str (SX.S acc)), some (.int (a : Int)), some (.str (SX.S [c]))]) ?_ ?_
          · k_updF
            rw [e57]
            cases h57 : (c == 57) with
            | true =>
              refine WP.brT rfl ?_
              refine WP.brT rfl ?_
              k_updF
              refine ⟨rfl, ?_⟩
              cases hid <;> rfl
            | false =>
              refine WP.brF rfl ?_
              k_updF
              refine WP.ixS1 hat hfl ?_
              k_updF
              rw [e48]
              cases h48 : (d == 48) with
              | true =>
                refine WP.brF rfl ?_
                k_updF
                refine ⟨rfl, ?_⟩
                cases hid <;> rfl
              | false =>
                refine WP.brT rfl ?_
                k_updF
                refine ⟨rfl, ?_⟩
                cases hid <;> rfl
          rintro σ' H' ⟨rfl, rfl⟩
          have hB : MP.bodyF fill hid (c :: b.drop (i + 1)) (fs.drop a) = (if (hid && (!(c == 57)) && (d == 48)) = true then fill else d) :: MP.bodyF fill (hid && (!(c == 57)) && (d == 48)) (b.drop (i + 1)) (fs.drop (a + 1)) := by rw [hfs, MP.bodyF_D hD]
          generalize (hid && (!(c == 57)) && (d == 48)) = h' at hB ⊢
          k_updF
          cases h' with
          | true =>
            refine WP.brT rfl ?_
            k_updF
            refine WP.catS ?_ hz
            k_updF
            exact fin true fill (a + 1) _ e1 hB hF'
          | false =>
            refine WP.brF rfl ?_
            k_updF
            refine WP.ixS1 hat hfl ?_
            refine WP.catS ?_ hz
            k_updF
            exact fin false d (a + 1) _ e1 hB hF'
    · rintro σ' H1 ⟨hid, acc, a, z6, rfl, e1, hT, hF, hA, hi⟩
      rw [List.drop_length] at hT
      have e0 : MP.bodyF fill hid [] (fs.drop a) = [] := by rw [MP.bodyF]
      rw [e0, List.append_nil] at hT
      subst hT
      k_updF
      exact k _ e1
end
abbrev s__law_written : Stmt := top 57
abbrev N__law_written : List Str := ["picture", "units", "figures", "sign", "body", "mark"]
theorem sc__law_written : FnScope N__law_written ["picture", "units"] (defScope s__law_written) := ⟨rfl, rfl, rfl, by decide +kernel, rfl, by decide +kernel, by decide +kernel⟩
def sp__law_written (K : PySem.W.Frag) (mg : WP.MG) : Sp := fun vs H Q _ => ∃ (p : Addr) (pic : MP.Pic) (u : Int), vs = [.ref p, .int u] ∧ SqT K H p pic.vs ∧ pic.Ok ∧ MP.Suits pic u ∧ WP.RetV (.str (SX.S (MP.writ pic u))) H Q
section
variable {P : Program} {w : World} {K : PySem.W.Frag} {mg : Str → Option Value} {base : Heap}
theorem ok__law_written {f : Addr} {fd : FuncData} (F : Fun K "_law_written" "_law_written" s__law_written f fd) (B : Blt w K mg) (c__law_figures : WP.Callee P w K mg base CX0 1 "_law_figures" ["units", "size"] (sp__law_figures K mg)) (c__law_body : WP.Callee P w K mg base CX0 1 "_law_body" ["marks", "figures"] (sp__law_body K mg)) : FnOk P w K mg base CX0 2 f fd ["picture", "units"] (sp__law_written K mg) := by
  refine F.ok sc__law_written (fun vs H Q E h => ?_) (fun cdv A outer s H vs Q E hr h => ?_)
  · first | (obtain ⟨_, rfl, _⟩ := h; rfl) | (obtain ⟨_, _, rfl, _⟩ := h; rfl) | (obtain ⟨_, _, _, rfl, _⟩ := h; rfl) | (obtain ⟨_, _, _, _, rfl, _⟩ := h; rfl) | (obtain ⟨_, _, _, _, _, rfl, _⟩ := h; rfl) | (obtain ⟨_, _, _, _, _, _, rfl, _⟩ := h; rfl) | (obtain ⟨_, _, _, _, _, _, _, rfl, _⟩ := h; rfl) | (obtain ⟨_, _, _, _, _, _, _, _, rfl, _⟩ := h; rfl) | (obtain ⟨rfl, _⟩ := h; rfl)
  · obtain ⟨p, pic, u, rfl, hp, ho, hs, k⟩ := h
    refine ⟨_, (pss_cons (ps_set (i := 2) sc__law_written.nd rfl (Or.inl rfl) (WP.pe_callC c__law_figures hr rfl pass0 (WP.pa_consN (pv 1) (WP.pa_consN (pe_op op_add (pe_ix ix_tup (pv 0) pe_int (fun _ _ => rfl)) (pe_ix ix_tup (pv 0) pe_int (fun _ _ => rfl))) pa_nil))))
      (pss_cons (ps_if (pt_cmpR op_eq (pe_ix ix_tup (pv 0) pe_int (fun _ _ => rfl)) (WP.pe_strL [110, 117, 109, 98, 101, 114] (by decide +kernel)) (nomark _)) (pss_cons (ps_set (i := 3) sc__law_written.nd rfl (Or.inl rfl) (pe_ifExp (pt_cmpR op_lt (pv 1) pe_int (nomark _)) (WP.pe_strL [45] (by decide +kernel)) (WP.pe_strL [43] (by decide +kernel))))
      (pss_one (ps_ret (pe_ifExp (pt_val (pe_ix ix_tup (pv 0) pe_int (fun _ _ => rfl))) (pe_op WP.op_addS (pv 3) (pv 2)) (pv 2))))) pss_nil)
      (pss_cons (ps_set (i := 4) sc__law_written.nd rfl (Or.inl rfl) (WP.pe_callC c__law_body hr rfl pass0 (WP.pa_consN (pe_ix ix_tup (pv 0) pe_int (fun _ _ => rfl)) (WP.pa_consN (pv 2) pa_nil))))
      (pss_cons (ps_set (i := 3) sc__law_written.nd rfl (Or.inl rfl) (pe_ix ix_tup (pv 0) pe_int (fun _ _ => rfl)))
      (pss_cons (ps_if (pt_cmpR op_eq (pv 3) (WP.pe_strL [] (by decide +kernel)) (nomark _)) (pss_one (ps_ret (pv 4))) pss_nil)
      (pss_cons (ps_if (PW.pt (pw_or (pt_cmpR op_eq (pv 3) (WP.pe_strL [99, 114] (by decide +kernel)) (nomark _)) (pw_or1 (pt_cmpR op_eq (pv 3) (WP.pe_strL [100, 98] (by decide +kernel)) (nomark _))))) (pss_one (ps_ret (pe_op WP.op_addS (pv 4) (pe_ifExp (pt_cmpR op_lt (pv 1) pe_int (nomark _)) (pe_bm0 PySem.F.plainAttrs_str PySem.F.slot_str_upper PySem.F.type_str_upper WP.m_upper (pv 3)) (WP.pe_strL [32, 32] (by decide +kernel)))))) pss_nil)
      (pss_cons (ps_set (i := 5) sc__law_written.nd rfl (Or.inl rfl) (pe_ifExp (pt_cmpR op_lt (pv 1) pe_int (nomark _)) (WP.pe_strL [45] (by decide +kernel)) (pe_dget (hu_of hr) (pe_disp (pps_cons (WP.pe_strL [45] (by decide +kernel)) (WP.pe_strL [32] (by decide +kernel)) (pps_cons (WP.pe_strL [43] (by decide +kernel)) (WP.pe_strL [43] (by decide +kernel)) pps_nil)) (by rfl) (by rfl) (fun h => nomatch h) (by decide)) (pe_ix ix_str (pv 3) (pe_un un_neg pe_int) (fun _ _ => rfl)) (fun _ _ => rfl))))
      (pss_one (ps_ret (pe_ifExp (pt_cmpR op_eq (pe_callB WP.c_len (by rfl) B.b_len (by decide +kernel) (WP.pa_consN (pv 3) pa_nil)) pe_int (nomark _)) (pe_op WP.op_addS (pv 5) (pv 4)) (pe_op WP.op_addS (pv 4) (pv 5)))))))))))), ?_⟩
    have hn := ho.n1
    k_updF
    refine WP.ixT hp (MP.at_w pic) ?_
    k_updF
    refine WP.ixT hp (MP.at_f pic) ?_
    k_updF
    rw [← Int.natCast_add]
    refine ⟨u, pic.n, rfl, hn.1, hn.2, hs.1, ?_⟩
    have l2 := WP.padL_len pic.n u.natAbs
    cases pic with
    | num sg a b =>
      have ps : ∀ {u : Int}, 0 ≤ u ∨ sg = true → sg = false → ¬ u < 0 := fun h e => by
        rcases h with h | h
        · omega
        · rw [e] at h; cases h
      k_updF
      refine WP.ixT hp WP.at0 ?_
      k_updF
      refine WP.brT (by decide) ?_
      k_updF
      refine WP.ifSS ?_
      k_updF
      refine WP.ixT hp WP.at1 ?_
      k_updF
      have kk : WP.RetV (.str (SX.S (MP.signText (if sg then [43] else []) (decide (u < 0)) ++ WP.padL (a + b) u.natAbs))) H Q := k
      cases sg with
      | true =>
        refine WP.brT rfl ?_
        k_updF
        refine WP.catS ?_ (by rw [sizeLine_eq, l2]; have := hn.2; split <;> show 1 + _ ≤ _ <;> omega)
        have e : MP.signText (if true = true then [43] else []) (decide (u < 0)) = if u < 0 then [45] else [43] := by
          by_cases c : u < 0
          · rw [decide_eq_true c, if_pos c]; rfl
          · rw [decide_eq_false c, if_neg c]; rfl
        rw [e] at kk
        exact kk _ (Same.refl _)
      | false =>
        refine WP.brF rfl ?_
        k_updF
        rw [decide_eq_false (ps hs.2 rfl)] at kk
        exact kk _ (Same.refl _)
    | ed b a f s =>
      k_updF
      refine WP.ixT hp WP.at0 ?_
      k_updF
      refine WP.brF (by decide) ?_
      k_updF
      refine WP.ixT hp WP.at1 ?_
      k_updF
      refine ⟨b, _, _, rfl, ho.2.2.1, l2, by show a + f ≤ 100; exact Nat.le_trans ho.2.1 (by decide), fun H1 e1 => ?_⟩
      have hp := WP.sqt e1 hp
      have lb : (MP.bodyText b (WP.padL (MP.Pic.ed b a f s).n u.natAbs)).length ≤ 60 := by
        have : ∀ (fill : Nat) (ms : List Nat) (hid : Bool) (fs : List Nat), (MP.bodyF fill hid ms fs).length ≤ ms.length := fun fill ms => by
          induction ms with
          | nil => intro hid fs; rw [MP.bodyF]; exact Nat.le_refl _
          | cons m ms ih =>
            intro hid fs
            conv => lhs; unfold MP.bodyF
            split
            · split
              · exact Nat.zero_le _
              · exact Nat.succ_le_succ (ih _ _)
            · split
              · exact Nat.succ_le_succ (ih _ _)
              · exact Nat.succ_le_succ (ih _ _)
        exact Nat.le_trans (this _ _ _ _) ho.2.2.1.ln
      have kk : WP.RetV (.str (SX.S (if s = [45] ∨ s = [43] then MP.signText s (decide (u < 0)) ++ MP.bodyText b (WP.padL (MP.Pic.ed b a f s).n u.natAbs) else MP.bodyText b (WP.padL (MP.Pic.ed b a f s).n u.natAbs) ++ MP.signText s (decide (u < 0))))) H Q := k
      clear k
      generalize MP.bodyText b (WP.padL (MP.Pic.ed b a f s).n u.natAbs) = T at kk lb ⊢
      have hz : ∀ x : List Nat, x.length ≤ 2 → T.length + x.length ≤ sizeLine := fun x hx => by rw [sizeLine_eq]; omega
      have hz' : ∀ x : List Nat, x.length ≤ 2 → x.length + T.length ≤ sizeLine := fun x hx => by rw [sizeLine_eq]; omega
      k_updF
      refine WP.ixT hp WP.at4 ?_
      k_updF
      have hs' : s = [] ∨ s = [45] ∨ s = [43] ∨ s = [46, 45] ∨ s = [46, 43] ∨ s = [99, 114] ∨ s = [100, 98] := by simpa [MP.signs] using ho.2.2.2
      rcases hs' with rfl | rfl | rfl | rfl | rfl | rfl | rfl
      · refine WP.brT rfl ?_
        k_updF
        have e : T ++ MP.signText [] (decide (u < 0)) = T := List.append_nil T
        rw [if_neg (by decide), e] at kk
        exact kk _ e1
      case inr.inr.inr.inr.inr.inl | inr.inr.inr.inr.inr.inr =>
        refine WP.brF (by decide) ?_
        k_updF
        first
          | (refine WP.brT (by decide) ?_; refine WP.brT rfl ?_)
          | (refine WP.brF (by decide) ?_; k_updF; refine WP.brT (by decide) ?_)
        rw [if_neg (by decide)] at kk
        k_updF
        refine WP.br (fun c => ?_) (fun c => ?_)
        · rw [decide_eq_true c] at kk
          k_updF
          refine WP.upS (by decide) (by decide) ?_
          refine WP.catS ?_ (hz _ (by decide))
          exact kk _ e1
        · rw [decide_eq_false c] at kk
          k_updF
          refine WP.catS ?_ (hz _ (by decide))
          exact kk _ e1
      all_goals
        refine WP.brF (by decide) ?_
        k_updF
        refine WP.brF (by decide) ?_
        k_updF
        refine WP.brF (by decide) ?_
        k_updF
        refine WP.br (fun c => ?_) (fun c => ?_)
      case inr.inl.refine_1 | inr.inr.inl.refine_1 =>
        rw [if_pos (by decide), decide_eq_true c] at kk
        k_updF
        refine WP.lenS' (by rw [sizeLine_eq]; decide) ?_
        k_updF
        refine WP.brT (by decide) ?_
        k_updF
        refine WP.catS ?_ (hz' _ (by decide))
        exact kk _ e1
      case inr.inr.inr.inl.refine_1 | inr.inr.inr.inr.inl.refine_1 =>
        rw [if_neg (by decide), decide_eq_true c] at kk
        k_updF
        refine WP.lenS' (by rw [sizeLine_eq]; decide) ?_
        k_updF
        refine WP.brF (by decide) ?_
        k_updF
        refine WP.catS ?_ (hz _ (by decide))
        exact kk _ e1
      all_goals
        rw [decide_eq_false c] at kk
        refine WP.dget (WP.disp2 (by decide) fun D hD => ?_)
        have e2 := e1.trans (WP.same_disp (o := .dK []) (u := .dK [(.inr (SX.S [45]), V.str (SX.S [32])), (.inr (SX.S [43]), V.str (SX.S [43]))]) hD)
        k_updF
      case inr.inl.refine_2 =>
        refine WP.ixS1 (i := -1) (c := 45) rfl (by rw [sizeLine_eq]; decide) ?_
        refine ⟨D, .str (SX.S [32]), rfl, by have := DGet.k (k := .inr (SX.S [45])) (upd_same (H := upd H1 D (.dK [])) (a := D) (o := .dK [(.inr (SX.S [45]), V.str (SX.S [32])), (.inr (SX.S [43]), V.str (SX.S [43]))])); rw [WP.valV2] at this; exact this, ?_⟩
        rw [if_pos (by decide)] at kk
        k_updF
        refine WP.lenS' (by rw [sizeLine_eq]; decide) ?_
        k_updF
        refine WP.brT (by decide) ?_
        k_updF
        refine WP.catS ?_ (hz' _ (by decide))
        exact kk _ e2
      case inr.inr.inl.refine_2 =>
        refine WP.ixS1 (i := -1) (c := 43) rfl (by rw [sizeLine_eq]; decide) ?_
        refine ⟨D, .str (SX.S [43]), rfl, by have := DGet.k (k := .inr (SX.S [43])) (upd_same (H := upd H1 D (.dK [])) (a := D) (o := .dK [(.inr (SX.S [45]), V.str (SX.S [32])), (.inr (SX.S [43]), V.str (SX.S [43]))])); rw [WP.valV2] at this; exact this, ?_⟩
        rw [if_pos (by decide)] at kk
        k_updF
        refine WP.lenS' (by rw [sizeLine_eq]; decide) ?_
        k_updF
        refine WP.brT (by decide) ?_
        k_updF
        refine WP.catS ?_ (hz' _ (by decide))
        exact kk _ e2
      case inr.inr.inr.inl.refine_2 =>
        refine WP.ixS1 (i := -1) (c := 45) rfl (by rw [sizeLine_eq]; decide) ?_
        refine ⟨D, .str (SX.S [32]), rfl, by have := DGet.k (k := .inr (SX.S [45])) (upd_same (H := upd H1 D (.dK [])) (a := D) (o := .dK [(.inr (SX.S [45]), V.str (SX.S [32])), (.inr (SX.S [43]), V.str (SX.S [43]))])); rw [WP.valV2] at this; exact this, ?_⟩
        rw [if_neg (by decide)] at kk
        k_updF
        refine WP.lenS' (by rw [sizeLine_eq]; decide) ?_
        k_updF
        refine WP.brF (by decide) ?_
        k_updF
        refine WP.catS ?_ (hz _ (by decide))
        exact kk _ e2
      case inr.inr.inr.inr.inl.refine_2 =>
        refine WP.ixS1 (i := -1) (c := 43) rfl (by rw [sizeLine_eq]; decide) ?_
        refine ⟨D, .str (SX.S [43]), rfl, by have := DGet.k (k := .inr (SX.S [43])) (upd_same (H := upd H1 D (.dK [])) (a := D) (o := .dK [(.inr (SX.S [45]), V.str (SX.S [32])), (.inr (SX.S [43]), V.str (SX.S [43]))])); rw [WP.valV2] at this; exact this, ?_⟩
        rw [if_neg (by decide)] at kk
        k_updF
        refine WP.lenS' (by rw [sizeLine_eq]; decide) ?_
        k_updF
        refine WP.brF (by decide) ?_
        k_updF
        refine WP.catS ?_ (hz _ (by decide))
        exact kk _ e2
end
abbrev s__law_word : Stmt := top 50
abbrev N__law_word : List Str := ["size", "chars", "seed", "word", "rest", "k"]
theorem sc__law_word : FnScope N__law_word ["size", "chars", "seed"] (defScope s__law_word) := ⟨rfl, rfl, rfl, by decide +kernel, rfl, by decide +kernel, by decide +kernel⟩
def sp__law_word (K : PySem.W.Frag) (mg : WP.MG) : Sp := fun vs H Q _ => ∃ (n : Nat) (cs : List Nat) (r : Int), vs = [.int (n : Int), .str (SX.S cs), .int r] ∧ n ≤ 50000 ∧ 1 ≤ cs.length ∧ cs.length ≤ 100 ∧ ∀ l : List Nat, l.length = n → (∀ c ∈ l, c ∈ cs) → Q (.str (SX.S l)) H
section
variable {P : Program} {w : World} {K : PySem.W.Frag} {mg : Str → Option Value} {base : Heap}
theorem ok__law_word {f : Addr} {fd : FuncData} (F : Fun K "_law_word" "_law_word" s__law_word f fd) (B : Blt w K mg)  : FnOk P w K mg base CX0 1 f fd ["size", "chars", "seed"] (sp__law_word K mg) := by
  refine F.ok sc__law_word (fun vs H Q E h => ?_) (fun cdv A outer s H vs Q E hr h => ?_)
  · first | (obtain ⟨_, rfl, _⟩ := h; rfl) | (obtain ⟨_, _, rfl, _⟩ := h; rfl) | (obtain ⟨_, _, _, rfl, _⟩ := h; rfl) | (obtain ⟨_, _, _, _, rfl, _⟩ := h; rfl) | (obtain ⟨_, _, _, _, _, rfl, _⟩ := h; rfl) | (obtain ⟨_, _, _, _, _, _, rfl, _⟩ := h; rfl) | (obtain ⟨_, _, _, _, _, _, _, rfl, _⟩ := h; rfl) | (obtain ⟨_, _, _, _, _, _, _, _, rfl, _⟩ := h; rfl) | (obtain ⟨rfl, _⟩ := h; rfl)
  · obtain ⟨n, cs, r, rfl, hn, c1, c2, k⟩ := h
    refine ⟨_, (pss_cons (ps_set (i := 3) sc__law_word.nd rfl (Or.inl rfl) (WP.pe_strL [] (by decide +kernel)))
      (pss_cons (ps_set (i := 4) sc__law_word.nd rfl (Or.inl rfl) (pe_callTy WP.c_int1 (by rfl) B.b_int (by decide +kernel) (WP.pa_consN (pv 2) pa_nil)))
      (pss_cons (ps_for PassesOwn.never rfl (pi_range1 rfl B.b_range (WP.pa_consN (pv 0) pa_nil)) (pg_name (i := 5) sc__law_word.nd rfl (Or.inl rfl)) (pss_cons (ps_set (i := 3) sc__law_word.nd rfl (Or.inl rfl) (pe_op WP.op_addS (pv 3) (pe_ix ix_str (pv 1) (pe_op op_mod (pe_callTy WP.c_int1 (by rfl) B.b_int (by decide +kernel) (WP.pa_consN (pv 4) pa_nil)) (pe_callB WP.c_len (by rfl) B.b_len (by decide +kernel) (WP.pa_consN (pv 1) pa_nil))) (fun _ _ => rfl))))
      (pss_one (ps_set (i := 4) sc__law_word.nd rfl (Or.inl rfl) (pe_op op_fdivW (pv 4) (pe_callB WP.c_len (by rfl) B.b_len (by decide +kernel) (WP.pa_consN (pv 1) pa_nil)))))))
      (pss_one (ps_ret (pv 3)))))), ?_⟩
    have hz : cs.length ≤ sizeLine := by rw [sizeLine_eq]; omega
    k_updF
    refine WP.intI ?_
    k_updF
    refine ⟨_, rfl, by omega, by omega, for_range (lo := 0) (n := _) (fun i σ' H' => H' = H ∧ ∃ (l : List Nat) (r' : Int) (z : Option V), σ' = [some (.int (n : Int)), some (.str (SX.S cs)), some (.int r), some (.str (SX.S l)), some (.int r'), z] ∧ l.length = i ∧ ∀ c ∈ l, c ∈ cs)
      ⟨rfl, [], r, none, rfl, rfl, fun c hc => by cases hc⟩ ?_ ?_⟩
    · rintro i σ' H' hi ⟨rfl, l, r', z, rfl, hl, hm⟩
      rw [Int.toNat_natCast] at hi
      k_updF
      refine WP.intI ?_
      k_updF
      refine WP.lenS' hz ?_
      k_updF
      refine WP.iC (show (0 : Int) < (cs.length : Int) by omega) ?_
      obtain ⟨x, hx, hxa⟩ := WP.at_C (l := cs) (Int.emod_nonneg r' (show (cs.length : Int) ≠ 0 by omega)) (Int.emod_lt_of_pos r' (show (0 : Int) < (cs.length : Int) by omega))
      refine WP.ixS1 hxa hz ?_
      refine WP.catS ?_ (by rw [sizeLine_eq]; show _ + 1 ≤ _; omega)
      k_updF
      refine WP.lenS' hz ?_
      k_updF
      refine WP.iC (WP.Bt.d' (b := 10) (by omega) (by unfold WP.Bt; omega)) ?_
      k_updF
      refine ⟨rfl, l ++ [x], _, _, rfl, by rw [List.length_append, hl]; rfl, fun c hc => ?_⟩
      rcases List.mem_append.mp hc with h | h
      · exact hm c h
      · rw [List.mem_singleton.mp h]; exact hx
    rintro σ' H' ⟨rfl, l, r', z, rfl, hl, hm⟩
    rw [Int.toNat_natCast] at hl
    k_updF
    exact k l hl hm
end
abbrev s__law_decimal : Stmt := top 51
abbrev N__law_decimal : List Str := ["units", "scale", "k"]
theorem sc__law_decimal : FnScope N__law_decimal ["units", "scale"] (defScope s__law_decimal) := ⟨rfl, rfl, rfl, by decide +kernel, rfl, by decide +kernel, by decide +kernel⟩
def sp__law_decimal (K : PySem.W.Frag) (mg : WP.MG) : Sp := fun vs H Q _ => ∃ (u : Int) (s : Int), vs = [.int u, .int s] ∧ 0 ≤ s ∧ s ≤ 5000 ∧ WP.RetT (WP.dv (MD.nrm u s.toNat).1 (MD.nrm u s.toNat).2) H Q
section
variable {P : Program} {w : World} {K : PySem.W.Frag} {mg : Str → Option Value} {base : Heap}
theorem ok__law_decimal {f : Addr} {fd : FuncData} (F : Fun K "_law_decimal" "_law_decimal" s__law_decimal f fd) (B : Blt w K mg)  : FnOk P w K mg base CX0 1 f fd ["units", "scale"] (sp__law_decimal K mg) := by
  refine F.ok sc__law_decimal (fun vs H Q E h => ?_) (fun cdv A outer s H vs Q E hr h => ?_)
  · first | (obtain ⟨_, rfl, _⟩ := h; rfl) | (obtain ⟨_, _, rfl, _⟩ := h; rfl) | (obtain ⟨_, _, _, rfl, _⟩ := h; rfl) | (obtain ⟨_, _, _, _, rfl, _⟩ := h; rfl) | (obtain ⟨_, _, _, _, _, rfl, _⟩ := h; rfl) | (obtain ⟨_, _, _, _, _, _, rfl, _⟩ := h; rfl) | (obtain ⟨_, _, _, _, _, _, _, rfl, _⟩ := h; rfl) | (obtain ⟨_, _, _, _, _, _, _, _, rfl, _⟩ := h; rfl) | (obtain ⟨rfl, _⟩ := h; rfl)
  · obtain ⟨u, s', rfl, hs, hs2, k⟩ := h
    refine ⟨_, (pss_cons (ps_for PassesOwn.never rfl (pi_range1 rfl B.b_range (WP.pa_consN (pv 1) pa_nil)) (pg_name (i := 2) sc__law_decimal.nd rfl (Or.inl rfl)) (pss_one (ps_if (pt_cmpR op_eq (pe_op op_mod (pe_callTy WP.c_int1 (by rfl) B.b_int (by decide +kernel) (WP.pa_consN (pv 0) pa_nil)) pe_int) pe_int (nomark _)) (pss_cons (ps_set (i := 0) sc__law_decimal.nd rfl (Or.inl rfl) (pe_op op_fdiv (pv 0) pe_int))
      (pss_one (ps_set (i := 1) sc__law_decimal.nd rfl (Or.inl rfl) (pe_op op_sub (pv 1) pe_int)))) (pss_one (ps_ret (pe_tup (WP.pa_consN (pv 0) (WP.pa_consN (pv 1) pa_nil))))))))
      (pss_one (ps_ret (pe_tup (WP.pa_consN (pv 0) (WP.pa_consN (pv 1) pa_nil)))))), ?_⟩
    k_updF
    refine ⟨_, rfl, by omega, by omega, for_range (lo := 0) (n := s'.toNat) (fun i σ' H' => ∃ (a : Int) (n : Nat) (z : Option V), σ' = [some (.int a), some (.int (n : Int)), z] ∧ H' = H ∧ n + i = s'.toNat ∧ MD.nrm a n = MD.nrm u s'.toNat)
      ⟨u, s'.toNat, none, by rw [Int.toNat_of_nonneg hs]; rfl, rfl, by omega, rfl⟩ ?_ ?_⟩
    · rintro i σ' H' hi ⟨a, n, z, rfl, rfl, hn, e⟩
      obtain ⟨n', rfl⟩ : ∃ n', n = n' + 1 := ⟨n - 1, by omega⟩
      k_updF
      refine WP.intI ?_
      k_updF
      refine WP.iC (show (0 : Int) < 10 by decide) ?_
      k_updF
      refine WP.br (fun c => ?_) (fun c => ?_)
      · k_updF
        refine WP.iC ⟨by decide, by decide⟩ ?_
        k_updF
        refine ⟨a / 10, n', some (.int (0 + (i : Int))), ?_, rfl, by omega, ?_⟩
        · rw [show ((n' + 1 : Nat) : Int) - 1 = (n' : Int) by omega]; rfl
        · rw [← e]
          show _ = if a % 10 = 0 then _ else _
          rw [if_pos c]
      · k_updF
        refine ⟨WP.sz2, ?_⟩
        rw [← e, MD.nrm_self (.inr c)] at k
        exact k.new (Same.refl _)
    · rintro σ' H' ⟨a, n, z, rfl, rfl, hn, e⟩
      obtain rfl : n = 0 := by omega
      k_updF
      refine ⟨WP.sz2, ?_⟩
      rw [← e] at k
      exact k.new (Same.refl _)
end
abbrev s__law_number : Stmt := top 52
abbrev N__law_number : List Str := ["rich", "choice", "rest"]
theorem sc__law_number : FnScope N__law_number ["rich"] (defScope s__law_number) := ⟨rfl, rfl, rfl, by decide +kernel, rfl, by decide +kernel, by decide +kernel⟩
/-- some decimal of at most 18 figures -/
def sp__law_number (K : PySem.W.Frag) (mg : WP.MG) : Sp := fun vs H Q _ => ∃ r : Int, vs = [.int r] ∧ ∀ (u : Int) (s : Nat), MD.Dec u s → s ≤ 18 → u.natAbs ≤ 10 ^ 18 → WP.RetT (WP.dv u s) H Q
section
variable {P : Program} {w : World} {K : PySem.W.Frag} {mg : Str → Option Value} {base : Heap}
theorem ok__law_number {f : Addr} {fd : FuncData} (F : Fun K "_law_number" "_law_number" s__law_number f fd) (B : Blt w K mg) (c__law_decimal : WP.Callee P w K mg base CX0 1 "_law_decimal" ["units", "scale"] (sp__law_decimal K mg)) : FnOk P w K mg base CX0 2 f fd ["rich"] (sp__law_number K mg) := by
  refine F.ok sc__law_number (fun vs H Q E h => ?_) (fun cdv A outer s H vs Q E hr h => ?_)
  · first | (obtain ⟨_, rfl, _⟩ := h; rfl) | (obtain ⟨_, _, rfl, _⟩ := h; rfl) | (obtain ⟨_, _, _, rfl, _⟩ := h; rfl) | (obtain ⟨_, _, _, _, rfl, _⟩ := h; rfl) | (obtain ⟨_, _, _, _, _, rfl, _⟩ := h; rfl) | (obtain ⟨_, _, _, _, _, _, rfl, _⟩ := h; rfl) | (obtain ⟨_, _, _, _, _, _, _, rfl, _⟩ := h; rfl) | (obtain ⟨_, _, _, _, _, _, _, _, rfl, _⟩ := h; rfl) | (obtain ⟨rfl, _⟩ := h; rfl)
  · obtain ⟨r, rfl, k⟩ := h
    refine ⟨_, (pss_cons (ps_set (i := 1) sc__law_number.nd rfl (Or.inl rfl) (pe_op op_mod (pv 0) pe_int))
      (pss_cons (ps_set (i := 2) sc__law_number.nd rfl (Or.inl rfl) (pe_op op_fdiv (pv 0) pe_int))
      (pss_cons (ps_if (pt_cmpR op_eq (pv 1) pe_int (nomark _)) (pss_one (ps_ret (WP.pe_callC c__law_decimal hr rfl pass0 (WP.pa_consN (pe_ix ix_list (pe_lst (WP.pa_consN pe_int (WP.pa_consN pe_int (WP.pa_consN (pe_un un_neg pe_int) (WP.pa_consN pe_int (WP.pa_consN (pe_un un_neg pe_int) (WP.pa_consN pe_int pa_nil))))))) (pe_op op_mod (pv 2) pe_int) (fun _ _ => rfl)) (WP.pa_consN (pe_op op_mod (pe_op op_fdiv (pv 2) pe_int) pe_int) pa_nil))))) pss_nil)
      (pss_cons (ps_if (pt_cmpR op_lt (pv 1) pe_int (nomark _)) (pss_one (ps_ret (WP.pe_callC c__law_decimal hr rfl pass0 (WP.pa_consN (pe_op op_sub (pe_op op_mod (pv 2) pe_int) pe_int) (WP.pa_consN (pe_op op_mod (pe_op op_fdiv (pv 2) pe_int) pe_int) pa_nil))))) pss_nil)
      (pss_one (ps_ret (WP.pe_callC c__law_decimal hr rfl pass0 (WP.pa_consN (pe_op op_sub (pe_op op_mod (pv 2) (pe_op op_mul pe_int (pe_op op_pow pe_int pe_int))) (pe_op op_pow pe_int pe_int)) (WP.pa_consN (pe_op op_mod (pe_op op_fdivW (pv 2) (pe_op op_pow pe_int pe_int)) pe_int) pa_nil))))))))), ?_⟩
    have fin : ∀ (u s : Int) (H' : Hp), Same H H' → u.natAbs ≤ 10 ^ 18 → 0 ≤ s → s ≤ 18 → WP.RetT (WP.dv (MD.nrm u s.toNat).1 (MD.nrm u s.toNat).2) H' Q := fun u s H' e hu h0 h1 p H2 e2 hp =>
      k _ _ (MD.nrm_dec _ _) (by have := MD.nrm_le s.toNat u; omega) (Nat.le_trans (MD.nrm_abs _ _) hu) p H2 (e.trans e2) hp
    k_updF
    refine WP.iC (by decide) ?_
    k_updF
    refine WP.iC ⟨by decide, by decide⟩ ?_
    k_updF
    refine WP.br (fun c => ?_) (fun c => ?_)
    · k_updF
      refine ⟨by show 6 ≤ sizeLine; exact WP.sz (by decide), fun l hl => ?_⟩
      k_updF
      refine WP.iC (by decide) ?_
      have hm := Int.emod_nonneg (r / 6) (show (6 : Int) ≠ 0 by decide)
      have hm2 := Int.emod_lt_of_pos (r / 6) (show (0 : Int) < 6 by decide)
      refine WP.ixL (xs := [0, 1, -1, 10, -100, 5].map V.int) (SqL.of upd_same) (WP.at_ints hm hm2) ?_
      k_updF
      refine WP.iC ⟨by decide, by decide⟩ ?_
      k_updF
      refine WP.iC (by decide) ?_
      k_updF
      refine ⟨_, _, rfl, Int.emod_nonneg _ (by decide), by have := Int.emod_lt_of_pos (r / 6 / 6) (show (0 : Int) < 3 by decide); omega, fin _ _ _ (WP.same_new hl) ?_ (Int.emod_nonneg _ (by decide)) (by have := Int.emod_lt_of_pos (r / 6 / 6) (show (0 : Int) < 3 by decide); omega)⟩
      have : ∀ j : Nat, j < 6 → ([0, 1, -1, 10, -100, 5] : List Int).getD j 0 ∈ ([0, 1, -1, 10, -100, 5] : List Int) := by decide
      have m := this (r / 6 % 6).toNat (by omega)
      have : ∀ x ∈ ([0, 1, -1, 10, -100, 5] : List Int), x.natAbs ≤ 10 ^ 18 := by decide
      exact this _ m
    · k_updF
      refine WP.br (fun c => ?_) (fun c => ?_)
      · k_updF
        refine WP.iC (by decide) ?_
        k_updF
        refine WP.iC ⟨by decide, by decide⟩ ?_
        k_updF
        refine WP.iC (by decide) ?_
        k_updF
        have a1 := Int.emod_nonneg (r / 6) (show (20001 : Int) ≠ 0 by decide)
        have a2 := Int.emod_lt_of_pos (r / 6) (show (0 : Int) < 20001 by decide)
        have b1 := Int.emod_nonneg (r / 6 / 20001) (show (5 : Int) ≠ 0 by decide)
        have b2 := Int.emod_lt_of_pos (r / 6 / 20001) (show (0 : Int) < 5 by decide)
        exact ⟨_, _, rfl, b1, by omega, fin _ _ _ (Same.refl _) (by omega) b1 (by omega)⟩
      · k_updF
        refine WP.iC ⟨by decide, by decide, by decide⟩ ?_
        refine WP.iC (.inl (by decide)) ?_
        refine WP.iC (by decide) ?_
        k_updF
        refine WP.iC ⟨by decide, by decide, by decide⟩ ?_
        k_updF
        refine WP.iC ⟨by decide, by decide, by decide⟩ ?_
        refine WP.iC (WP.Bt.d' (b := 60) (by decide) (by unfold WP.Bt; decide)) ?_
        k_updF
        refine WP.iC (by decide) ?_
        k_updF
        have e1 : (2 * 10 ^ (18 : Int).toNat : Int) = 2000000000000000000 := by decide
        have e2 : (10 ^ (18 : Int).toNat : Int) = 1000000000000000000 := by decide
        rw [e1, e2]
        have a1 := Int.emod_nonneg (r / 6) (show (2000000000000000000 : Int) ≠ 0 by decide)
        have a2 := Int.emod_lt_of_pos (r / 6) (show (0 : Int) < 2000000000000000000 by decide)
        have b1 := Int.emod_nonneg (r / 6 / (10 ^ (15 : Int).toNat)) (show (19 : Int) ≠ 0 by decide)
        have b2 := Int.emod_lt_of_pos (r / 6 / (10 ^ (15 : Int).toNat)) (show (0 : Int) < 19 by decide)
        exact ⟨_, _, rfl, b1, by omega, fin _ _ _ (Same.refl _) (by omega) b1 (by omega)⟩
end
abbrev s__law_units : Stmt := top 58
abbrev N__law_units : List Str := ["picture", "rich", "limit", "k", "units", "signed"]
theorem sc__law_units : FnScope N__law_units ["picture", "rich"] (defScope s__law_units) := ⟨rfl, rfl, rfl, by decide +kernel, rfl, by decide +kernel, by decide +kernel⟩
def sp__law_units (K : PySem.W.Frag) (mg : WP.MG) : Sp := fun vs H Q _ => ∃ (p : Addr) (pic : MP.Pic) (r : Int), vs = [.ref p, .int r] ∧ SqT K H p pic.vs ∧ pic.Ok ∧ Q (.int (MV.lu pic r)) H
section
variable {P : Program} {w : World} {K : PySem.W.Frag} {mg : Str → Option Value} {base : Heap}
theorem ok__law_units {f : Addr} {fd : FuncData} (F : Fun K "_law_units" "_law_units" s__law_units f fd) (B : Blt w K mg)  : FnOk P w K mg base CX0 1 f fd ["picture", "rich"] (sp__law_units K mg) := by
  refine F.ok sc__law_units (fun vs H Q E h => ?_) (fun cdv A outer s H vs Q E hr h => ?_)
  · first | (obtain ⟨_, rfl, _⟩ := h; rfl) | (obtain ⟨_, _, rfl, _⟩ := h; rfl) | (obtain ⟨_, _, _, rfl, _⟩ := h; rfl) | (obtain ⟨_, _, _, _, rfl, _⟩ := h; rfl) | (obtain ⟨_, _, _, _, _, rfl, _⟩ := h; rfl) | (obtain ⟨_, _, _, _, _, _, rfl, _⟩ := h; rfl) | (obtain ⟨_, _, _, _, _, _, _, rfl, _⟩ := h; rfl) | (obtain ⟨_, _, _, _, _, _, _, _, rfl, _⟩ := h; rfl) | (obtain ⟨rfl, _⟩ := h; rfl)
  · obtain ⟨p, pic, r, rfl, hp, ho, k⟩ := h
    refine ⟨_, (pss_cons (ps_set (i := 2) sc__law_units.nd rfl (Or.inl rfl) pe_int)
      (pss_cons (ps_for PassesOwn.never rfl (pi_range1 rfl B.b_range (WP.pa_consN (pe_op op_add (pe_ix ix_tup (pv 0) pe_int (fun _ _ => rfl)) (pe_ix ix_tup (pv 0) pe_int (fun _ _ => rfl))) pa_nil)) (pg_name (i := 3) sc__law_units.nd rfl (Or.inl rfl)) (pss_one (ps_set (i := 2) sc__law_units.nd rfl (Or.inl rfl) (pe_op op_mul (pv 2) pe_int))))
      (pss_cons (ps_set (i := 4) sc__law_units.nd rfl (Or.inl rfl) (pe_op op_mod (pv 1) (pv 2)))
      (Evl.pss_cut (ps_if (pt_cmpR op_eq (pe_op op_mod (pe_op op_fdiv (pv 1) pe_int) pe_int) pe_int (nomark _)) (pss_one (ps_set (i := 4) sc__law_units.nd rfl (Or.inl rfl) (pe_op op_mod (pe_op op_mod (pv 1) pe_int) (pv 2)))) pss_nil)
      (pss_cons (ps_set (i := 5) sc__law_units.nd rfl (Or.inl rfl) (pe_ifExp (pt_cmpR op_eq (pe_ix ix_tup (pv 0) pe_int (fun _ _ => rfl)) (WP.pe_strL [110, 117, 109, 98, 101, 114] (by decide +kernel)) (nomark _)) (pe_ix ix_tup (pv 0) pe_int (fun _ _ => rfl)) (pe_cmpR op_ne (pe_ix ix_tup (pv 0) pe_int (fun _ _ => rfl)) (WP.pe_strL [] (by decide +kernel)) (nomark _))))
      (pss_one (ps_ret (pe_ifExp (PW.pt (pw_and (pt_val (pv 5)) (pw_and1 (pt_cmpR op_eq (pe_op op_mod (pe_op op_fdiv (pv 1) pe_int) pe_int) pe_int (nomark _))))) (pe_un un_neg (pv 4)) (pv 4))))))))), ?_⟩
    have hn := ho.n1
    k_updF
    refine WP.ixT hp (MP.at_w pic) ?_
    k_updF
    refine WP.ixT hp (MP.at_f pic) ?_
    k_updF
    rw [← Int.natCast_add]
    refine ⟨_, rfl, by have : pic.wh + pic.fr ≤ 18 := hn.2; omega, by have : pic.wh + pic.fr ≤ 18 := hn.2; omega, for_range (lo := 0) (n := _) (fun i σ' H' => H' = H ∧ ∃ z, σ' = [some (.ref p), some (.int r), some (.int (10 ^ i)), z, none, none]) ⟨rfl, none, rfl⟩ ?_ ?_⟩
    · rintro i σ' H' hi ⟨rfl, z, rfl⟩
      k_updF
      refine WP.iC (.inr (by decide)) ?_
      k_updF
      exact ⟨rfl, some (.int (0 + (i : Int))), by rw [Int.pow_succ]; rfl⟩
    rintro σ' H' ⟨rfl, z, rfl⟩
    rw [Int.toNat_natCast]
    change (_ : Prop)
    have hT := WP.ten_pos (pic.wh + pic.fr)
    have k : Q (.int (if pic.sgd = true ∧ r / 9 % 2 = 1 then -(if r / 3 % 3 = 0 then r % 100 % 10 ^ (pic.wh + pic.fr) else r % 10 ^ (pic.wh + pic.fr)) else (if r / 3 % 3 = 0 then r % 100 % 10 ^ (pic.wh + pic.fr) else r % 10 ^ (pic.wh + pic.fr)))) H' := k
    k_updF
    refine WP.iC hT ?_
    k_updF
    refine WP.cut (fun σ' H2 => H2 = H' ∧ σ' = [some (.ref p), some (.int r), some (.int (10 ^ (pic.wh + pic.fr))), z, some (.int (if r / 3 % 3 = 0 then r % 100 % 10 ^ (pic.wh + pic.fr) else r % 10 ^ (pic.wh + pic.fr))), none]) ?_ ?_
    · k_updF
      refine WP.iC ⟨by decide, by decide⟩ ?_
      k_updF
      refine WP.iC (by decide) ?_
      k_updF
      refine WP.br (fun c => ?_) (fun c => ?_)
      · rw [if_pos c]
        k_updF
        refine WP.iC (by decide) ?_
        k_updF
        refine WP.iC hT ?_
        k_updF
        exact ⟨rfl, rfl⟩
      · rw [if_neg c]
        k_updF
        exact ⟨rfl, rfl⟩
    rintro σ' H2 ⟨rfl, rfl⟩
    generalize (if r / 3 % 3 = 0 then r % 100 % 10 ^ (pic.wh + pic.fr) else r % 10 ^ (pic.wh + pic.fr)) = u at k ⊢
    k_memK; k_memK
    refine MP.sgdE rfl hp ?_
    k_updF
    cases hsg : pic.sgd with
    | false =>
      rw [if_neg (fun z => by rw [hsg] at z; cases z.1)] at k
      refine WP.brF rfl ?_
      refine WP.brF rfl ?_
      k_updF
      exact k
    | true =>
      refine WP.brT rfl ?_
      k_updF
      refine WP.iC ⟨by decide, by decide⟩ ?_
      k_updF
      refine WP.iC (by decide) ?_
      k_updF
      refine WP.br (fun c => ?_) (fun c => ?_)
      · rw [if_pos ⟨hsg, c⟩] at k
        k_updF
        exact k
      · rw [if_neg (fun z => c z.2)] at k
        k_updF
        exact k
end
abbrev s__law_content : Stmt := top 61
abbrev N__law_content : List Str := ["source", "rich", "picture"]
theorem sc__law_content : FnScope N__law_content ["source", "rich"] (defScope s__law_content) := ⟨rfl, rfl, rfl, by decide +kernel, rfl, by decide +kernel, by decide +kernel⟩
/-- some content of a side, rich drawn -/
def CR (s : MV.Side) (r : Int) (c : MV.Cont) : Prop := MV.COk s c ∧ ∀ p l, s = .res (.pic p) → c = .tx l → l = MP.writ p (MV.lu p r)
def sp__law_content (K : PySem.W.Frag) (mg : WP.MG) : Nat → Sp
  | 0 => fun _ _ _ _ => False
  | n + 1 => fun vs H Q _ => ∃ (p : Addr) (s : MV.Side) (r : Int), vs = [.ref p, .int r] ∧ MV.SideAt K H p s ∧ s.Ok ∧ 0 ≤ r ∧ (1 ≤ n ∨ ∃ x, s = .res x) ∧ ∀ (v : V) (c : MV.Cont) (H' : Hp), Same H H' → CR s r c → MV.ContAt K H' v c → Q v H'
section
variable {P : Program} {w : World} {K : PySem.W.Frag} {mg : Str → Option Value} {base : Heap}
theorem ok__law_content {f : Addr} {fd : FuncData} (F : Fun K "_law_content" "_law_content" s__law_content f fd) (B : Blt w K mg) (c__law_written : WP.Callee P w K mg base CX0 2 "_law_written" ["picture", "units"] (sp__law_written K mg)) (c__law_word : WP.Callee P w K mg base CX0 1 "_law_word" ["size", "chars", "seed"] (sp__law_word K mg)) (c__law_number : WP.Callee P w K mg base CX0 2 "_law_number" ["rich"] (sp__law_number K mg)) (c__law_units : WP.Callee P w K mg base CX0 1 "_law_units" ["picture", "rich"] (sp__law_units K mg)) {nn : Nat} (c__law_content : WP.Callee P w K mg base CX0 (2 + nn) "_law_content" ["source", "rich"] (sp__law_content K mg nn)) : FnOk P w K mg base CX0 (2 + nn + 1) f fd ["source", "rich"] (sp__law_content K mg (nn + 1)) := by
  refine F.ok sc__law_content (fun vs H Q E h => ?_) (fun cdv A outer s H vs Q E hr h => ?_)
  · first | (obtain ⟨_, rfl, _⟩ := h; rfl) | (obtain ⟨_, _, rfl, _⟩ := h; rfl) | (obtain ⟨_, _, _, rfl, _⟩ := h; rfl) | (obtain ⟨_, _, _, _, rfl, _⟩ := h; rfl) | (obtain ⟨_, _, _, _, _, rfl, _⟩ := h; rfl) | (obtain ⟨_, _, _, _, _, _, rfl, _⟩ := h; rfl) | (obtain ⟨_, _, _, _, _, _, _, rfl, _⟩ := h; rfl) | (obtain ⟨_, _, _, _, _, _, _, _, rfl, _⟩ := h; rfl) | (obtain ⟨rfl, _⟩ := h; rfl)
  · obtain ⟨p, s, r, rfl, hp, os, hr0, hnn, k⟩ := h
    refine ⟨_, (pss_cons (ps_if (pt_cmpR op_eq (pe_ix ix_tup (pv 0) pe_int (fun _ _ => rfl)) (WP.pe_strL [115, 116, 114, 105, 110, 103] (by decide +kernel)) (nomark _)) (pss_one (ps_ret (WP.pe_callC (hl := by omega) c__law_word hr rfl pass0 (WP.pa_consN (pe_op op_add pe_int (pe_op op_mod (pv 1) pe_int)) (WP.pa_consN (WP.pe_strL [97, 98, 32, 99, 57, 45] (by decide +kernel)) (WP.pa_consN (pe_op op_fdiv (pv 1) pe_int) pa_nil)))))) pss_nil)
      (pss_cons (ps_if (pt_cmpR op_eq (pe_ix ix_tup (pv 0) pe_int (fun _ _ => rfl)) (WP.pe_strL [100, 101, 99, 105, 109, 97, 108] (by decide +kernel)) (nomark _)) (pss_one (ps_ret (WP.pe_callC (hl := by omega) c__law_number hr rfl pass0 (WP.pa_consN (pv 1) pa_nil)))) pss_nil)
      (pss_cons (ps_if (pt_cmpR op_eq (pe_ix ix_tup (pv 0) pe_int (fun _ _ => rfl)) (WP.pe_strL [103, 114, 111, 117, 112] (by decide +kernel)) (nomark _)) (pss_one (ps_ret (pe_bm PySem.F.plainAttrs_str PySem.F.slot_str_join PySem.F.type_str_join mt_join (WP.pe_strL [] (by decide +kernel)) (WP.pa_consN (pe_lc (own := [("picture", 2)]) (g := gName 2) (tt := tYes) rfl sc__law_content.nd (pi_tup (pe_ix ix_tup (pv 0) pe_int (fun _ _ => rfl))) (blkOk_by (own := [("picture", 2)]) (N := N__law_content) (sc := defScope s__law_content) (by decide +kernel)) (fun _ _ _ _ _ => pg_name (i := 2) sc__law_content.nd rfl (Or.inl rfl)) (fun _ _ _ _ _ => pts_nil) (fun _ _ _ _ _ => (WP.pe_callC (hl := by omega) c__law_content hr rfl pass0 (WP.pa_consN (pv 2) (WP.pa_consN (pe_op op_add (pe_op op_fdiv (pv 1) pe_int) pe_int) pa_nil))))) pa_nil)))) pss_nil)
      (pss_cons (ps_if (pt_cmpR op_eq (pe_ix ix_tup (pv 0) pe_int (fun _ _ => rfl)) (WP.pe_strL [116, 101, 120, 116] (by decide +kernel)) (nomark _)) (pss_one (ps_ret (WP.pe_callC (hl := by omega) c__law_word hr rfl pass0 (WP.pa_consN (pe_ix ix_tup (pv 0) pe_int (fun _ _ => rfl)) (WP.pa_consN (WP.pe_strL [97, 98, 32, 99, 57, 45] (by decide +kernel)) (WP.pa_consN (pe_op op_fdiv (pv 1) pe_int) pa_nil)))))) pss_nil)
      (pss_one (ps_ret (WP.pe_callC (hl := by omega) c__law_written hr rfl pass0 (WP.pa_consN (pv 0) (WP.pa_consN (WP.pe_callC (hl := by omega) c__law_units hr rfl pass0 (WP.pa_consN (pv 0) (WP.pa_consN (pv 1) pa_nil))) pa_nil))))))))), ?_⟩
    obtain ⟨xs, hx, h0⟩ := hp.at0
    have hch : ∀ c ∈ [97, 98, 32, 99, 57, 45], 32 ≤ c ∧ c ≤ 126 ∧ c ≠ 37 := by decide
    k_updF
    refine WP.ixT hx h0 ?_
    k_updF
    refine WP.br (fun c => ?_) (fun c1 => ?_)
    · have hs : s = .str := by
        cases s with
        | str => rfl
        | dec => exact absurd c (by decide)
        | grp rs => exact absurd c (show MV.GRP ≠ MV.STR by decide)
        | res r =>
          cases r with
          | txt n => exact absurd c (show MV.TXT ≠ MV.STR by decide)
          | pic q =>
            cases q with
            | num sg w f => exact absurd c (show MV.NUM ≠ MV.STR by decide)
            | ed b w f s => exact absurd c (show MV.EDT ≠ MV.STR by decide)
      subst hs
      k_updF
      refine WP.iC (by decide) ?_
      k_updF
      refine WP.iC ⟨by decide, by decide⟩ ?_
      k_updF
      have a0 := Int.emod_nonneg r (show (20 : Int) ≠ 0 by decide)
      have a1 := Int.emod_lt_of_pos r (show (0 : Int) < 20 by decide)
      obtain ⟨m, hm⟩ : ∃ m : Nat, 1 + r % 20 = (m : Int) := ⟨(1 + r % 20).toNat, by omega⟩
      rw [hm]
      refine ⟨m, [97, 98, 32, 99, 57, 45], _, rfl, by omega, by decide, by decide, fun l hl hlm => ?_⟩
      exact k _ (.tx l) _ (.refl _) ⟨⟨by omega, fun c hc => hch c (hlm c hc)⟩, fun p l' e => by cases e⟩ rfl
    k_updF
    refine WP.ixT hx h0 ?_
    k_updF
    refine WP.br (fun c => ?_) (fun c2 => ?_)
    · obtain rfl := MV.hd_dec c
      k_updF
      refine ⟨r, rfl, fun u sc hd hs hu => ?_⟩
      intro a H' e1 ha
      exact k _ (.nm u sc) _ e1 ⟨⟨hd, hs, hu⟩, fun p l' e => by cases e⟩ ⟨a, rfl, SqT.of ha⟩
    k_updF
    refine WP.ixT hx h0 ?_
    k_updF
    refine WP.br (fun c => ?_) (fun c3 => ?_)
    · obtain ⟨rs, rfl⟩ := MV.tg_grp c
      obtain ⟨q, as, h1, h2, h3, h4⟩ := id hp
      have hnn1 : 1 ≤ nn := by
        rcases hnn with h | ⟨x, h⟩
        · exact h
        · cases h
      obtain ⟨n', rfl⟩ : ∃ n', nn = n' + 1 := ⟨nn - 1, by omega⟩
      obtain ⟨l1, l3, hrs⟩ := os
      k_updF
      refine WP.ixT h1 WP.at1 ?_
      refine ⟨q, rfl, ⟨_, h2⟩, fun D hD => lc_tup (K := K) (a := q) (xs := as.map V.ref) (fun i Hx => Same H Hx ∧ ∃ ls : List (List Nat), Hx D = some (.lst ((ls.map SX.S).map V.str)) ∧ ls.length = i ∧ ls.flatten.length ≤ 64 * i ∧ ∀ c ∈ ls.flatten, 32 ≤ c ∧ c ≤ 126 ∧ c ≠ 37) ⟨WP.same_new hD, [], upd_same, rfl, Nat.le_refl _, (fun c h => by cases h)⟩ (fun i Hx _ h => WP.sqt h.1 h2) ?_ ?_⟩
      · rintro i x Hx hix ⟨eS, ls, hDx, hll, hlf, hlp⟩
        rw [List.getElem?_map] at hix
        obtain ⟨a, ha, rfl⟩ : ∃ a, as[i]? = some a ∧ V.ref a = x := by
          cases e : as[i]? with
          | none => rw [e] at hix; cases hix
          | some a => rw [e] at hix; exact ⟨a, rfl, Option.some.inj hix⟩
        obtain ⟨hia, _⟩ := List.getElem?_eq_some_iff.mp ha
        have hri : rs[i]? = some rs[i] := List.getElem?_eq_getElem (by omega)
        have hro := hrs rs[i] (List.getElem_mem _)
        have hra := h4 i a _ ha hri
        generalize rs[i] = rr at *
        k_updF
        refine ⟨rfl, ?_⟩
        refine WP.yes ?_
        k_updF
        refine WP.iC ⟨by decide, by decide⟩ ?_
        k_updF
        refine ⟨a, .res rr, _, rfl, WP.sqt eS hra, hro, by omega, .inr ⟨rr, rfl⟩, fun v c H2 e2 hcr hca => ?_⟩
        obtain ⟨t, rfl⟩ := MV.cok_tx hcr.1 (fun z => by cases z)
        have hca : v = .str (SX.S t) := hca
        subst hca
        obtain ⟨t1, t2⟩ := MV.cok_res hro hcr.1
        have hD2 := e2 _ _ hDx
        refine ⟨_, hD2, by rw [List.length_map, List.length_map, hll, sizeLine_eq]; omega, WP.same_mut (eS.trans e2) hD, ls ++ [t], ?_, by rw [List.length_append, hll]; rfl, ?_, fun c hc => ?_⟩
        · rw [upd_same, List.map_append, List.map_append]; rfl
        · rw [List.flatten_append, List.length_append]
          show _ + (t ++ []).length ≤ _
          rw [List.append_nil]; omega
        · rw [List.flatten_append] at hc
          rcases List.mem_append.mp hc with h | h
          · exact hlp c h
          · exact t2 c (by simpa using h)
      · rintro Hx ⟨eS, ls, hDx, hll, hlf, hlp⟩
        rw [List.length_map] at hll hlf
        k_updF
        refine ⟨SX.S [], D, ls.map SX.S, rfl, rfl, .inl (SqL.of hDx), ?_, ?_⟩
        · rw [SX.lens, SX.S_len, List.length_nil, Nat.mul_zero, Nat.add_zero, ← List.length_flatten]
          omega
        rw [WP.join_nilS]
        exact k _ (.tx ls.flatten) _ eS ⟨⟨by omega, hlp⟩, fun p l' e => by cases e⟩ rfl
    k_updF
    refine WP.ixT hx h0 ?_
    k_updF
    refine WP.br (fun c => ?_) (fun c4 => ?_)
    · obtain ⟨n, rfl⟩ := MV.tg_txt c
      have hp : SqT K H p [V.str (SX.S MV.TXT), .int (n : Int)] := hp
      have hn : 1 ≤ n ∧ n ≤ 12 := os
      k_updF
      refine WP.ixT hp WP.at1 ?_
      k_updF
      refine WP.iC ⟨by decide, by decide⟩ ?_
      k_updF
      refine ⟨n, [97, 98, 32, 99, 57, 45], _, rfl, by omega, by decide, by decide, fun l hl hlm => ?_⟩
      exact k _ (.tx l) _ (.refl _) ⟨⟨hl, fun c hc => hch c (hlm c hc)⟩, fun p l' e => by cases e⟩ rfl
    · have hpic : ∃ pic, s = .res (.pic pic) := by
        cases s with
        | str => exact absurd rfl c1
        | dec => exact absurd rfl c2
        | grp rs => exact absurd rfl c3
        | res r =>
          cases r with
          | txt n => exact absurd rfl c4
          | pic q => exact ⟨q, rfl⟩
      obtain ⟨pic, rfl⟩ := hpic
      have ho : pic.Ok := os
      k_updF
      refine ⟨p, pic, r, rfl, hp, ho, ?_⟩
      k_updF
      refine ⟨p, pic, _, rfl, hp, ho, MV.lu_suits pic r, fun H1 e1 => ?_⟩
      exact k _ (.tx (MP.writ pic (MV.lu pic r))) _ e1 ⟨⟨_, MV.lu_suits pic r, rfl⟩, fun p l' e1 e2 => by cases e1; cases e2; rfl⟩ rfl
end
abbrev s__law_cell : Stmt := top 48
abbrev N__law_cell : List Str := ["script", "k"]
theorem sc__law_cell : FnScope N__law_cell ["script", "k"] (defScope s__law_cell) := ⟨rfl, rfl, rfl, by decide +kernel, rfl, by decide +kernel, by decide +kernel⟩
def sp__law_cell (K : PySem.W.Frag) (mg : WP.MG) : Sp := fun vs H Q _ => ∃ (a : Addr) (ns : List Int) (k : Int), vs = [.ref a, .int k] ∧ SqL K H a (ns.map V.int) ∧ 0 ≤ k ∧ ∀ c : Int, Q (.int c) H
section
variable {P : Program} {w : World} {K : PySem.W.Frag} {mg : Str → Option Value} {base : Heap}
theorem ok__law_cell {f : Addr} {fd : FuncData} (F : Fun K "_law_cell" "_law_cell" s__law_cell f fd) (B : Blt w K mg)  : FnOk P w K mg base CX0 1 f fd ["script", "k"] (sp__law_cell K mg) := by
  refine F.ok sc__law_cell (fun vs H Q E h => ?_) (fun cdv A outer s H vs Q E hr h => ?_)
  · first | (obtain ⟨_, rfl, _⟩ := h; rfl) | (obtain ⟨_, _, rfl, _⟩ := h; rfl) | (obtain ⟨_, _, _, rfl, _⟩ := h; rfl) | (obtain ⟨_, _, _, _, rfl, _⟩ := h; rfl) | (obtain ⟨_, _, _, _, _, rfl, _⟩ := h; rfl) | (obtain ⟨_, _, _, _, _, _, rfl, _⟩ := h; rfl) | (obtain ⟨_, _, _, _, _, _, _, rfl, _⟩ := h; rfl) | (obtain ⟨_, _, _, _, _, _, _, _, rfl, _⟩ := h; rfl) | (obtain ⟨rfl, _⟩ := h; rfl)
  · obtain ⟨a, ns, i, rfl, ha, hi, k⟩ := h
    refine ⟨_, (pss_cons (ps_if (pt_cmpR op_lt (pv 1) (pe_callB WP.c_len (by rfl) B.b_len (by decide +kernel) (WP.pa_consN (pv 0) pa_nil)) (nomark _)) (pss_one (ps_ret (pe_callTy WP.c_int1 (by rfl) B.b_int (by decide +kernel) (WP.pa_consN (pe_ix ix_list (pv 0) (pv 1) (fun _ _ => rfl)) pa_nil)))) pss_nil)
      (pss_one (ps_ret pe_int))), ?_⟩
    k_updF
    refine WP.lenL ha ?_
    k_updF
    refine WP.br (fun c => ?_) (fun c => ?_)
    · k_updF
      rw [List.length_map] at c
      refine WP.ixL ha (WP.at_ints hi c) ?_
      k_updF
      exact WP.intI (k _)
    · k_updF
      exact k 0
end
abbrev s_digits_in : Stmt := top 19
abbrev N_digits_in : List Str := ["picture"]
theorem sc_digits_in : FnScope N_digits_in ["picture"] (defScope s_digits_in) := ⟨rfl, rfl, rfl, by decide +kernel, rfl, by decide +kernel, by decide +kernel⟩
def sp_digits_in (K : PySem.W.Frag) (mg : WP.MG) : Sp := fun vs H Q _ => ∃ (p : Addr) (pic : MP.Pic), vs = [.ref p] ∧ SqT K H p pic.vs ∧ WP.RetT [.int (pic.wh : Int), .int (pic.fr : Int)] H Q
section
variable {P : Program} {w : World} {K : PySem.W.Frag} {mg : Str → Option Value} {base : Heap}
theorem ok_digits_in {f : Addr} {fd : FuncData} (F : Fun K "digits_in" "digits_in" s_digits_in f fd) (B : Blt w K mg)  : FnOk P w K mg base CX0 1 f fd ["picture"] (sp_digits_in K mg) := by
  refine F.ok sc_digits_in (fun vs H Q E h => ?_) (fun cdv A outer s H vs Q E hr h => ?_)
  · first | (obtain ⟨_, rfl, _⟩ := h; rfl) | (obtain ⟨_, _, rfl, _⟩ := h; rfl) | (obtain ⟨_, _, _, rfl, _⟩ := h; rfl) | (obtain ⟨_, _, _, _, rfl, _⟩ := h; rfl) | (obtain ⟨_, _, _, _, _, rfl, _⟩ := h; rfl) | (obtain ⟨_, _, _, _, _, _, rfl, _⟩ := h; rfl) | (obtain ⟨_, _, _, _, _, _, _, rfl, _⟩ := h; rfl) | (obtain ⟨_, _, _, _, _, _, _, _, rfl, _⟩ := h; rfl) | (obtain ⟨rfl, _⟩ := h; rfl)
  · obtain ⟨p, pic, rfl, hp, k⟩ := h
    refine ⟨_, (pss_cons (ps_if (pt_cmpR op_eq (pe_ix ix_tup (pv 0) pe_int (fun _ _ => rfl)) (WP.pe_strL [116, 101, 120, 116] (by decide +kernel)) (nomark _)) (pss_one (WP.ps_raiseC rfl takes0 B.e_BadPicture (by exact rfl))) pss_nil)
      (pss_one (ps_ret (pe_tup (WP.pa_consN (pe_ix ix_tup (pv 0) pe_int (fun _ _ => rfl)) (WP.pa_consN (pe_ix ix_tup (pv 0) pe_int (fun _ _ => rfl)) pa_nil)))))), ?_⟩
    cases pic with
    | num sg a b =>
      k_updF
      refine WP.ixT hp WP.at0 ?_
      k_updF
      refine WP.brF (by decide) ?_
      k_updF
      refine WP.ixT hp WP.at2 ?_
      k_updF
      refine WP.ixT hp WP.at3 ?_
      k_updF
      exact ⟨WP.sz2, k.new (Same.refl _)⟩
    | ed m a b s =>
      k_updF
      refine WP.ixT hp WP.at0 ?_
      k_updF
      refine WP.brF (by decide) ?_
      k_updF
      refine WP.ixT hp WP.at2 ?_
      k_updF
      refine WP.ixT hp WP.at3 ?_
      k_updF
      exact ⟨WP.sz2, k.new (Same.refl _)⟩
end
abbrev s__sign_text : Stmt := top 35
abbrev N__sign_text : List Str := ["sign", "is_negative"]
theorem sc__sign_text : FnScope N__sign_text ["sign", "is_negative"] (defScope s__sign_text) := ⟨rfl, rfl, rfl, by decide +kernel, rfl, by decide +kernel, by decide +kernel⟩
def sp__sign_text (K : PySem.W.Frag) (mg : WP.MG) : Sp := fun vs H Q _ => ∃ (s : List Nat) (neg : Bool), vs = [.str (SX.S s), .bl neg] ∧ s ∈ MP.signs ∧ WP.RetV (.str (SX.S (MP.signText s neg))) H Q
section
variable {P : Program} {w : World} {K : PySem.W.Frag} {mg : Str → Option Value} {base : Heap}
theorem ok__sign_text {f : Addr} {fd : FuncData} (F : Fun K "_sign_text" "_sign_text" s__sign_text f fd) (B : Blt w K mg)  : FnOk P w K mg base CX0 1 f fd ["sign", "is_negative"] (sp__sign_text K mg) := by
  refine F.ok sc__sign_text (fun vs H Q E h => ?_) (fun cdv A outer s H vs Q E hr h => ?_)
  · first | (obtain ⟨_, rfl, _⟩ := h; rfl) | (obtain ⟨_, _, rfl, _⟩ := h; rfl) | (obtain ⟨_, _, _, rfl, _⟩ := h; rfl) | (obtain ⟨_, _, _, _, rfl, _⟩ := h; rfl) | (obtain ⟨_, _, _, _, _, rfl, _⟩ := h; rfl) | (obtain ⟨_, _, _, _, _, _, rfl, _⟩ := h; rfl) | (obtain ⟨_, _, _, _, _, _, _, rfl, _⟩ := h; rfl) | (obtain ⟨_, _, _, _, _, _, _, _, rfl, _⟩ := h; rfl) | (obtain ⟨rfl, _⟩ := h; rfl)
  · obtain ⟨s, neg, rfl, hs, k⟩ := h
    refine ⟨_, (pss_cons (ps_if (pt_cmpR op_in_seq (pv 0) (pe_tup (WP.pa_consN (WP.pe_strL [99, 114] (by decide +kernel)) (WP.pa_consN (WP.pe_strL [100, 98] (by decide +kernel)) pa_nil))) rfl) (pss_one (ps_ret (pe_ifExp (pt_val (pv 1)) (pe_bm0 PySem.F.plainAttrs_str PySem.F.slot_str_upper PySem.F.type_str_upper WP.m_upper (pv 0)) (WP.pe_strL [32, 32] (by decide +kernel))))) pss_nil)
      (pss_cons (ps_if (pt_cmpR op_eq (pv 0) (WP.pe_strL [] (by decide +kernel)) (nomark _)) (pss_one (ps_ret (WP.pe_strL [] (by decide +kernel)))) pss_nil)
      (pss_cons (ps_if (pt_val (pv 1)) (pss_one (ps_ret (WP.pe_strL [45] (by decide +kernel)))) pss_nil)
      (pss_one (ps_ret (pe_ifExp (pt_cmpR op_in_seq (pv 0) (pe_tup (WP.pa_consN (WP.pe_strL [43] (by decide +kernel)) (WP.pa_consN (WP.pe_strL [46, 43] (by decide +kernel)) pa_nil))) rfl) (WP.pe_strL [43] (by decide +kernel)) (WP.pe_strL [32] (by decide +kernel)))))))), ?_⟩
    k_updF
    refine ⟨WP.sz2, fun t ht => ?_⟩
    refine WP.inT [[99, 114], [100, 98]] (SqT.of upd_same) rfl ?_
    generalize hH : upd H t _ = H1
    have e1 : Same H H1 := by rw [← hH]; exact WP.same_new ht
    k_updF
    have hs' : s = [] ∨ s = [45] ∨ s = [43] ∨ s = [46, 45] ∨ s = [46, 43] ∨ s = [99, 114] ∨ s = [100, 98] := by simpa [MP.signs] using hs
    rcases hs' with rfl | rfl | rfl | rfl | rfl | rfl | rfl
    · refine WP.brF (by decide) ?_
      k_updF
      refine WP.brT (by decide) ?_
      k_updF
      exact k _ e1
    all_goals cases neg
    case inr.inr.inr.inr.inr.inl.false | inr.inr.inr.inr.inr.inr.false =>
      refine WP.brT (by decide) ?_
      k_updF
      refine WP.brF rfl ?_
      k_updF
      exact k _ e1
    case inr.inr.inr.inr.inr.inl.true | inr.inr.inr.inr.inr.inr.true =>
      refine WP.brT (by decide) ?_
      k_updF
      refine WP.brT rfl ?_
      k_updF
      refine WP.upS (by decide) (by decide) ?_
      exact k _ e1
    all_goals
      refine WP.brF (by decide) ?_
      k_updF
      refine WP.brF (by decide) ?_
      k_updF
    case inr.inl.true | inr.inr.inl.true | inr.inr.inr.inl.true | inr.inr.inr.inr.inl.true =>
      refine WP.brT rfl ?_
      k_updF
      exact k _ e1
    all_goals
      refine WP.brF rfl ?_
      k_updF
      refine ⟨WP.sz2, fun t ht => ?_⟩
      refine WP.inT [[43], [46, 43]] (SqT.of upd_same) rfl ?_
      k_updF
      have e2 := e1.trans (WP.same_new (o := HO.tup [.str (SX.S [43]), .str (SX.S [46, 43])]) ht)
      first
        | (refine WP.brT (by decide) ?_; k_updF; exact k _ e2)
        | (refine WP.brF (by decide) ?_; k_updF; exact k _ e2)
end
abbrev s__body_text : Stmt := top 36
abbrev N__body_text : List Str := ["marks", "figures", "filler", "is_hiding", "characters", "at", "mark", "character"]
theorem sc__body_text : FnScope N__body_text ["marks", "figures"] (defScope s__body_text) := ⟨rfl, rfl, rfl, by decide +kernel, rfl, by decide +kernel, by decide +kernel⟩
def sp__body_text (K : PySem.W.Frag) (mg : WP.MG) : Sp := fun vs H Q _ => ∃ (b fs : List Nat) (n : Nat), vs = [.str (SX.S b), .str (SX.S fs)] ∧ MP.Body b n ∧ fs.length = n ∧ n ≤ 100 ∧ WP.RetV (.str (SX.S (MP.bodyText b fs))) H Q
section
variable {P : Program} {w : World} {K : PySem.W.Frag} {mg : Str → Option Value} {base : Heap}
theorem ok__body_text {f : Addr} {fd : FuncData} (F : Fun K "_body_text" "_body_text" s__body_text f fd) (B : Blt w K mg)  : FnOk P w K mg base CX0 1 f fd ["marks", "figures"] (sp__body_text K mg) := by
  refine F.ok sc__body_text (fun vs H Q E h => ?_) (fun cdv A outer s H vs Q E hr h => ?_)
  · first | (obtain ⟨_, rfl, _⟩ := h; rfl) | (obtain ⟨_, _, rfl, _⟩ := h; rfl) | (obtain ⟨_, _, _, rfl, _⟩ := h; rfl) | (obtain ⟨_, _, _, _, rfl, _⟩ := h; rfl) | (obtain ⟨_, _, _, _, _, rfl, _⟩ := h; rfl) | (obtain ⟨_, _, _, _, _, _, rfl, _⟩ := h; rfl) | (obtain ⟨_, _, _, _, _, _, _, rfl, _⟩ := h; rfl) | (obtain ⟨_, _, _, _, _, _, _, _, rfl, _⟩ := h; rfl) | (obtain ⟨rfl, _⟩ := h; rfl)
  · obtain ⟨b, fs, n, rfl, hb, hf, hn, k⟩ := h
    refine ⟨_, (pss_cons (ps_set (i := 2) sc__body_text.nd rfl (Or.inl rfl) (pe_ifExp (pt_cmpR op_eq (pe_ix ix_str (pv 0) pe_int (fun _ _ => rfl)) (WP.pe_strL [42] (by decide +kernel)) (nomark _)) (WP.pe_strL [42] (by decide +kernel)) (WP.pe_strL [32] (by decide +kernel))))
      (pss_cons (ps_set (i := 3) sc__body_text.nd rfl (Or.inl rfl) (pe_cmpR op_in_seq (pe_ix ix_str (pv 0) pe_int (fun _ _ => rfl)) (WP.pe_ktup (by rfl) B.c_HIDING_MARKS) rfl))
      (pss_cons (ps_set (i := 4) sc__body_text.nd rfl (Or.inl rfl) (pe_lst pa_nil))
      (pss_cons (ps_set (i := 5) sc__body_text.nd rfl (Or.inl rfl) pe_int)
      (pss_cons (ps_for PassesOwn.never rfl (pi_str (pv 0)) (pg_name (i := 6) sc__body_text.nd rfl (Or.inl rfl)) (Evl.pss_cut (ps_if (pt_cmpR op_in_seq (pv 6) (WP.pe_ktup (by rfl) B.c_DIGIT_MARKS) rfl) (pss_cons (ps_set (i := 3) sc__body_text.nd rfl (Or.inl rfl) (pe_and (pv 3) (pe_and (pe_cmpR op_in_seq (pv 6) (WP.pe_ktup (by rfl) B.c_HIDING_MARKS) rfl) (pe_one (pe_cmpR op_eq (pe_ix ix_str (pv 1) (pv 5) (fun _ _ => rfl)) (WP.pe_strL [48] (by decide +kernel)) (nomark _))))))
      (pss_cons (ps_set (i := 7) sc__body_text.nd rfl (Or.inl rfl) (pe_ix ix_str (pv 1) (pv 5) (fun _ _ => rfl)))
      (pss_one (ps_set (i := 5) sc__body_text.nd rfl (Or.inl rfl) (pe_op op_add (pv 5) pe_int))))) (pss_one (ps_if (pt_cmpR op_eq (pv 6) (WP.pe_strL [46] (by decide +kernel)) (nomark _)) (pss_cons (ps_set (i := 3) sc__body_text.nd rfl (Or.inl rfl) pe_bl)
      (pss_one (ps_set (i := 7) sc__body_text.nd rfl (Or.inl rfl) (WP.pe_strL [46] (by decide +kernel))))) (pss_one (ps_set (i := 7) sc__body_text.nd rfl (Or.inl rfl) (pe_ix ix_kdict (WP.pe_kdict (by rfl) B.c_INSERTED_CHARACTERS) (pv 6) (fun _ _ => rfl)))))))
      (pss_one (ps_expr (pe_bm PySem.F.plainAttrs_list PySem.F.slot_list_append PySem.F.type_list_append mt_append (pv 4) (WP.pa_consN (pe_ifExp (pt_val (pv 3)) (pv 2) (pv 7)) pa_nil))))))
      (pss_one (ps_ret (pe_bm PySem.F.plainAttrs_str PySem.F.slot_str_join PySem.F.type_str_join mt_join (WP.pe_strL [] (by decide +kernel)) (WP.pa_consN (pv 4) pa_nil))))))))), ?_⟩
    obtain ⟨c0, r0, hb0, hD0⟩ := hb.hd
    have hlen := hb.ln
    have hl : b.length ≤ sizeLine := by rw [sizeLine_eq]; omega
    have hfl : fs.length ≤ sizeLine := by rw [sizeLine_eq]; omega
    have at0 : atI b (0 : Int) = some c0 := by rw [hb0]; exact WP.at0
    have hh : MP.hd b = c0 := by rw [hb0]; rfl
    k_updF
    refine WP.ixS1 at0 hl ?_
    k_updF
    refine WP.ifSS ?_
    have ef : (if [c0] = [42] then [42] else [32]) = [MP.fillOf b] := by
      unfold MP.fillOf
      rw [hh]
      by_cases h : c0 = 42
      · subst h; rfl
      · rw [if_neg (by simpa using h), if_neg h]
    rw [ef]
    have eT : MP.bodyText b fs = MP.bodyF (MP.fillOf b) (!(MP.hd b == 57)) b fs := rfl
    rw [hh] at eT
    generalize MP.bodyText b fs = T at eT k
    generalize MP.fillOf b = fill at eT ⊢
    k_updF
    refine WP.ixS1 at0 hl ?_
    k_updF
    refine WP.inT [[122], [42]] (B.c_HIDING_MARKS.s _) rfl ?_
    rw [MP.memH hD0]
    k_updF
    refine ⟨WP.sz (by decide), fun p hp => ?_⟩
    k_updF
    refine ⟨_, rfl, WP.for_txt (fun i σ' H' => ∃ (hid : Bool) (acc : List Nat) (a : Nat) (z6 z7 : Option V), σ' = [some (.str (SX.S b)), some (.str (SX.S fs)), some (.str (SX.S [fill])), some (.bl hid), some (.ref p), some (.int (a : Int)), z6, z7] ∧
      H' p = some (.lst ((acc.map fun c => SX.S [c]).map V.str)) ∧ Same H H' ∧ acc ++ MP.bodyF fill hid (b.drop i) (fs.drop a) = T ∧ ((b.drop i).filter MP.isD).length = (fs.drop a).length ∧ acc.length = i ∧ i ≤ b.length)
      ⟨_, [], 0, none, none, rfl, upd_same, WP.same_new hp, by rw [List.drop_zero, List.drop_zero, eT]; rfl, by rw [List.drop_zero, List.drop_zero, hb.ct, hf], rfl, Nat.zero_le _⟩ ?_ ?_⟩
    · rintro i c σ' H1 hc ⟨hid, acc, a, z6, z7, rfl, hpp, e1, hT, hF, hA, hi⟩
      have hds := MP.drop_some hc
      obtain ⟨hib, hget⟩ := List.getElem?_eq_some_iff.mp hc
      have hok : MP.okM c = true := hb.ok c (by rw [← hget]; exact List.getElem_mem hib)
      rw [hds] at hT hF
      k_updF
      refine WP.cut (fun σ' H' => H' = H1 ∧ ∃ (hid' : Bool) (ch a' : Nat), σ' = [some (.str (SX.S b)), some (.str (SX.S fs)), some (.str (SX.S [fill])), some (.bl hid'), some (.ref p), some (.int (a' : Int)), some (.str (SX.S [c])), some (.str (SX.S [ch]))] ∧
        MP.bodyF fill hid (c :: b.drop (i + 1)) (fs.drop a) = (if hid' = true then fill else ch) :: MP.bodyF fill hid' (b.drop (i + 1)) (fs.drop a') ∧ ((b.drop (i + 1)).filter MP.isD).length = (fs.drop a').length) ?_ ?_
      · k_updF
        refine WP.inT [[122], [42], [57]] (B.c_DIGIT_MARKS.s _) rfl ?_
        rw [MP.memD]
        k_updF
        cases hD : MP.isD c with
        | true =>
          refine WP.brT rfl ?_
          rw [List.filter_cons, if_pos hD, List.length_cons] at hF
          have ha : a < fs.length := by rw [List.length_drop] at hF; omega
          have hfs := MP.drop_some (l := fs) (i := a) (c := fs[a]) (List.getElem?_eq_getElem ha)
          have hat : atI fs (a : Int) = some fs[a] := atI_nat (List.getElem?_eq_getElem ha)
          generalize fs[a] = d at hfs hat
          have hF' : ((b.drop (i + 1)).filter MP.isD).length = (fs.drop (a + 1)).length := by rw [hfs, List.length_cons] at hF; omega
          have fin : ∀ (hid' : Bool), hid' = (hid && (!(c == 57)) && (d == 48)) → ∃ (hid'' : Bool) (ch a' : Nat), [some (V.str (SX.S b)), some (.str (SX.S fs)), some (.str (SX.S [fill])), some (.bl hid'), some (.ref p), some (.int ((a : Int) + 1)), some (.str (SX.S [c])), some (.str (SX.S [d]))] = [some (.str (SX.S b)), some (.str (SX.S fs)), some (.str (SX.S [fill])), some (.bl hid''), some (.ref p), some (.int (a' : Int)), some (.str (SX.S [c])), some (.str (SX.S [ch]))] ∧
              MP.bodyF fill hid (c :: b.drop (i + 1)) (fs.drop a) = (if hid'' = true then fill else ch) :: MP.bodyF fill hid'' (b.drop (i + 1)) (fs.drop a') ∧ ((b.drop (i + 1)).filter MP.isD).length = (fs.drop a').length := fun hid' e =>
            ⟨hid', d, a + 1, rfl, by rw [hfs, MP.bodyF_D hD, e], hF'⟩
          k_updF
          cases hid with
          | false =>
            refine WP.brF rfl ?_
            k_updF
            refine WP.ixS1 hat hfl ?_
            k_updF
            exact ⟨rfl, fin false rfl⟩
          | true =>
            refine WP.brT rfl ?_
            k_updF
            refine WP.inT [[122], [42]] (B.c_HIDING_MARKS.s _) rfl ?_
            rw [MP.memH hD]
            k_updF
            cases h57 : (c == 57) with
            | true =>
              refine WP.brF rfl ?_
              k_updF
              refine WP.ixS1 hat hfl ?_
              k_updF
              exact ⟨rfl, fin false (by rw [h57]; rfl)⟩
            | false =>
              refine WP.brT rfl ?_
              k_updF
              refine WP.ixS1 hat hfl ?_
              k_updF
              refine WP.ixS1 hat hfl ?_
              k_updF
              refine ⟨rfl, fin _ ?_⟩
              rw [h57]
              by_cases h48 : d = 48
              · subst h48; rfl
              · rw [decide_eq_false (by simpa using h48), beq_eq_false_iff_ne.mpr h48]; rfl
        | false =>
          refine WP.brF rfl ?_
          rw [List.filter_cons, if_neg (by rw [hD]; exact Bool.false_ne_true)] at hF
          k_updF
          by_cases h46 : c = 46
          · subst h46
            refine WP.brT (by decide) ?_
            k_updF
            exact ⟨rfl, false, 46, a, rfl, by rw [MP.bodyF_P]; rfl, hF⟩
          · refine WP.brF (decide_eq_false (by simpa using h46)) ?_
            k_updF
            have hI : c = 44 ∨ c = 98 ∨ c = 48 ∨ c = 47 := by
              have : (c == 46) = false := beq_eq_false_iff_ne.mpr h46
              simpa [MP.okM, hD, this, MP.isI, or_assoc] using hok
            refine WP.ixK (v := .str (SX.S [MP.insM c])) B.c_INSERTED_CHARACTERS ?_ ?_
            · rcases hI with rfl | rfl | rfl | rfl
              · exact .head _
              · exact .tail _ (.head _)
              · exact .tail _ (.tail _ (.head _))
              · exact .tail _ (.tail _ (.tail _ (.head _)))
            · k_updF
              exact ⟨rfl, hid, MP.insM c, a, rfl, MP.bodyF_I hD h46, hF⟩
      · rintro σ' H' ⟨rfl, hid', ch, a', rfl, hB, hF'⟩
        k_updF
        refine WP.tyL (SqL.of hpp) ?_
        k_updF
        have hz : ((acc.map fun c => SX.S [c]).map V.str).length < sizeLine := by rw [List.length_map, List.length_map, sizeLine_eq]; omega
        have fin : ∀ x : Nat, x = (if hid' = true then fill else ch) → ∃ (hid : Bool) (acc' : List Nat) (a : Nat) (z6 z7 : Option V), [some (V.str (SX.S b)), some (.str (SX.S fs)), some (.str (SX.S [fill])), some (.bl hid'), some (.ref p), some (.int (a' : Int)), some (.str (SX.S [c])), some (.str (SX.S [ch]))] = [some (.str (SX.S b)), some (.str (SX.S fs)), some (.str (SX.S [fill])), some (.bl hid), some (.ref p), some (.int (a : Int)), z6, z7] ∧
            upd H' p (.lst ((acc.map fun c => SX.S [c]).map V.str ++ [.str (SX.S [x])])) p = some (.lst ((acc'.map fun c => SX.S [c]).map V.str)) ∧ Same H (upd H' p (.lst ((acc.map fun c => SX.S [c]).map V.str ++ [.str (SX.S [x])]))) ∧ acc' ++ MP.bodyF fill hid (b.drop (i + 1)) (fs.drop a) = T ∧ ((b.drop (i + 1)).filter MP.isD).length = (fs.drop a).length ∧ acc'.length = i + 1 ∧ i + 1 ≤ b.length := fun x hx =>
          ⟨hid', acc ++ [x], a', some (.str (SX.S [c])), some (.str (SX.S [ch])), rfl, by rw [upd_same, List.map_append, List.map_append]; rfl, WP.same_mut e1 hp, by rw [← hT, hB, hx, List.append_assoc]; rfl, hF', by rw [List.length_append, hA]; rfl, hib⟩
        cases hid' with
        | true =>
          refine WP.brT rfl ?_
          k_updF
          refine WP.appL hpp hz ?_
          exact fin fill rfl
        | false =>
          refine WP.brF rfl ?_
          k_updF
          refine WP.appL hpp hz ?_
          exact fin ch rfl
    · rintro σ' H1 ⟨hid, acc, a, z6, z7, rfl, hpp, e1, hT, hF, hA, hi⟩
      k_updF
      refine ⟨SX.S [], p, (acc.map fun c => [c]).map SX.S, rfl, rfl, .inl (SqL.of (by rw [List.map_map (l := acc)]; exact hpp)), ?_, ?_⟩
      · rw [SX.lens, SX.S_len, List.length_nil, Nat.mul_zero, Nat.add_zero, List.map_map]
        have : ∀ l : List Nat, (l.map ((fun x : List Nat => x.length) ∘ fun c => [c])).sum = l.length := fun l => by induction l with
          | nil => rfl
          | cons x l ih => rw [List.map_cons, List.sum_cons, ih, List.length_cons]; show 1 + _ = _; omega
        rw [this]
        omega
      · rw [WP.join_nilS]
        have : ∀ l : List Nat, (l.map fun c => [c]).flatten = l := fun l => by induction l with
          | nil => rfl
          | cons x l ih => rw [List.map_cons, List.flatten_cons, ih]; rfl
        rw [this]
        rw [List.drop_length] at hT
        rw [← hT] at k
        show Q _ _
        have e0 : MP.bodyF fill hid [] (fs.drop a) = [] := by rw [MP.bodyF]
        rw [e0, List.append_nil] at k
        exact k _ e1
end
abbrev s_power : Stmt := top 10
abbrev N_power : List Str := ["exponent", "result", "factor", "rest"]
theorem sc_power : FnScope N_power ["exponent"] (defScope s_power) := ⟨rfl, rfl, rfl, by decide +kernel, rfl, by decide +kernel, by decide +kernel⟩
/-- power(e): 10 to the power of e -/
def sp_power (K : PySem.W.Frag) (mg : WP.MG) : Sp := fun vs H Q _ => ∃ e : Int, vs = [.int e] ∧ e ≤ 3000 ∧ Q (.int (10 ^ e.toNat)) H
section
variable {P : Program} {w : World} {K : PySem.W.Frag} {mg : Str → Option Value} {base : Heap}
theorem ok_power {f : Addr} {fd : FuncData} (F : Fun K "power" "power" s_power f fd) (B : Blt w K mg)  : FnOk P w K mg base CX0 1 f fd ["exponent"] (sp_power K mg) := by
  refine F.ok sc_power (fun vs H Q E h => ?_) (fun cdv A outer s H vs Q E hr h => ?_)
  · first | (obtain ⟨_, rfl, _⟩ := h; rfl) | (obtain ⟨_, _, rfl, _⟩ := h; rfl) | (obtain ⟨_, _, _, rfl, _⟩ := h; rfl) | (obtain ⟨_, _, _, _, rfl, _⟩ := h; rfl) | (obtain ⟨_, _, _, _, _, rfl, _⟩ := h; rfl) | (obtain ⟨_, _, _, _, _, _, rfl, _⟩ := h; rfl) | (obtain ⟨_, _, _, _, _, _, _, rfl, _⟩ := h; rfl) | (obtain ⟨_, _, _, _, _, _, _, _, rfl, _⟩ := h; rfl) | (obtain ⟨rfl, _⟩ := h; rfl)
  · obtain ⟨e, rfl, he, k⟩ := h
    refine ⟨_, (pss_cons (ps_set (i := 1) sc_power.nd rfl (Or.inl rfl) pe_int)
      (pss_cons (ps_set (i := 2) sc_power.nd rfl (Or.inl rfl) pe_int)
      (pss_cons (ps_set (i := 3) sc_power.nd rfl (Or.inl rfl) (pv 0))
      (pss_cons (ps_while PassesOwn.never (pt_cmpR op_gt (pv 3) pe_int (nomark _)) (pss_cons (ps_if (pt_cmpR op_eq (pe_op op_mod (pv 3) pe_int) pe_int (nomark _)) (pss_one (ps_set (i := 1) sc_power.nd rfl (Or.inl rfl) (pe_op op_mulW (pv 1) (pv 2)))) pss_nil)
      (pss_cons (ps_set (i := 2) sc_power.nd rfl (Or.inl rfl) (pe_op op_mulW (pv 2) (pv 2)))
      (pss_one (ps_set (i := 3) sc_power.nd rfl (Or.inl rfl) (pe_op op_fdiv (pv 3) pe_int))))))
      (pss_one (ps_ret (pv 1))))))), ?_⟩
    k_updF
    refine ⟨fun m σ H' => ∃ (r b : Nat) (rest : Int), σ = [some (.int e), some (.int (10 ^ r)), some (.int (10 ^ b)), some (.int rest)] ∧ H' = H ∧ m = rest.toNat ∧ (rest ≤ 0 → r = e.toNat) ∧ (0 < rest → r + b * rest.toNat = e.toNat) ∧ 1 ≤ b,
      ⟨e.toNat, 0, 1, e, rfl, rfl, rfl, by omega, by omega, by omega⟩, ?_⟩
    rintro m σ H' ⟨r, b, rest, rfl, rfl, rfl, h1, h2, h3⟩
    k_updF
    refine WP.br (fun c => ?_) (fun c => ?_)
    · have e1 := h2 c
      have hb : b ≤ 3000 := by
        have : b * 1 ≤ b * rest.toNat := Nat.mul_le_mul_left b (by omega)
        omega
      have hrr : r ≤ 3000 := by omega
      have ed : rest.toNat = 2 * (rest / 2).toNat + (rest % 2).toNat := by omega
      refine ⟨fun σ' H2 => ∃ m', m' < rest.toNat ∧ ∃ (r b : Nat) (rest : Int), σ' = [some (.int e), some (.int (10 ^ r)), some (.int (10 ^ b)), some (.int rest)] ∧ H2 = H' ∧ m' = rest.toNat ∧ (rest ≤ 0 → r = e.toNat) ∧ (0 < rest → r + b * rest.toNat = e.toNat) ∧ 1 ≤ b, fun _ _ x => x, ?_⟩
      have step : ∀ r', (rest / 2 ≤ 0 → r' = e.toNat) → (0 < rest / 2 → r' + (b + b) * (rest / 2).toNat = e.toNat) →
          ∃ m', m' < rest.toNat ∧ ∃ (r b' : Nat) (rest' : Int), [some (V.int e), some (.int (10 ^ r')), some (.int (10 ^ b * 10 ^ b)), some (.int (rest / 2))] = [some (.int e), some (.int (10 ^ r)), some (.int (10 ^ b')), some (.int rest')] ∧ H' = H' ∧ m' = rest'.toNat ∧ (rest' ≤ 0 → r = e.toNat) ∧ (0 < rest' → r + b' * rest'.toNat = e.toNat) ∧ 1 ≤ b' := fun r' q1 q2 =>
        ⟨(rest / 2).toNat, by omega, r', b + b, rest / 2, by rw [Int.pow_add], rfl, rfl, q1, q2, by omega⟩
      k_memK; k_memK; k_memK; k_memK; k_memK; k_memK; k_memK
      refine WP.iC (show (0 : Int) < 2 by decide) ?_
      k_updF
      refine WP.br (fun o => ?_) (fun o => ?_)
      · k_updF
        refine WP.iC ((WP.Bt.ten r).w (WP.Bt.ten b)) ?_
        k_updF
        refine WP.iC ((WP.Bt.ten b).w (WP.Bt.ten b)) ?_
        k_updF
        refine WP.iC ⟨by decide, by decide⟩ ?_
        k_updF
        have e2 : b * rest.toNat = (b + b) * (rest / 2).toNat + b := by rw [ed, show (rest % 2).toNat = 1 by omega, Nat.mul_add, ← Nat.mul_assoc, Nat.mul_comm b 2, Nat.two_mul, Nat.mul_one]
        have := step (r + b) (fun q => by rw [show (rest / 2).toNat = 0 by omega] at e2; omega) (fun q => by omega)
        rw [Int.pow_add] at this
        exact this
      · k_updF
        refine WP.iC ((WP.Bt.ten b).w (WP.Bt.ten b)) ?_
        k_updF
        refine WP.iC ⟨by decide, by decide⟩ ?_
        k_updF
        have e2 : b * rest.toNat = (b + b) * (rest / 2).toNat := by rw [ed, show (rest % 2).toNat = 0 by omega, Nat.add_zero, ← Nat.mul_assoc, Nat.mul_comm b 2, Nat.two_mul]
        exact step r (fun q => by omega) (fun q => by omega)
    · k_updF
      rw [h1 (by omega)]
      exact k
end
abbrev s_fits : Stmt := top 15
abbrev N_fits : List Str := ["units", "digits"]
theorem sc_fits : FnScope N_fits ["units", "digits"] (defScope s_fits) := ⟨rfl, rfl, rfl, by decide +kernel, rfl, by decide +kernel, by decide +kernel⟩
def sp_fits (K : PySem.W.Frag) (mg : WP.MG) : Sp := fun vs H Q _ => ∃ u d : Int, vs = [.int u, .int d] ∧ d ≤ 3000 ∧ Q (.bl (decide (u.natAbs < 10 ^ d.toNat))) H
section
variable {P : Program} {w : World} {K : PySem.W.Frag} {mg : Str → Option Value} {base : Heap}
theorem ok_fits {f : Addr} {fd : FuncData} (F : Fun K "fits" "fits" s_fits f fd) (B : Blt w K mg) (c_power : WP.Callee P w K mg base CX0 1 "power" ["exponent"] (sp_power K mg)) : FnOk P w K mg base CX0 2 f fd ["units", "digits"] (sp_fits K mg) := by
  refine F.ok sc_fits (fun vs H Q E h => ?_) (fun cdv A outer s H vs Q E hr h => ?_)
  · first | (obtain ⟨_, rfl, _⟩ := h; rfl) | (obtain ⟨_, _, rfl, _⟩ := h; rfl) | (obtain ⟨_, _, _, rfl, _⟩ := h; rfl) | (obtain ⟨_, _, _, _, rfl, _⟩ := h; rfl) | (obtain ⟨_, _, _, _, _, rfl, _⟩ := h; rfl) | (obtain ⟨_, _, _, _, _, _, rfl, _⟩ := h; rfl) | (obtain ⟨_, _, _, _, _, _, _, rfl, _⟩ := h; rfl) | (obtain ⟨_, _, _, _, _, _, _, _, rfl, _⟩ := h; rfl) | (obtain ⟨rfl, _⟩ := h; rfl)
  · obtain ⟨u, d, rfl, hd, k⟩ := h
    refine ⟨_, (pss_one (ps_ret (pe_cmpR op_lt (pe_callB WP.c_abs (by rfl) B.b_abs (by decide +kernel) (WP.pa_consN (pv 0) pa_nil)) (WP.pe_callC c_power hr rfl pass0 (WP.pa_consN (pv 1) pa_nil)) (nomark _)))), ?_⟩
    k_updF
    refine WP.absI ?_
    k_updF
    refine ⟨_, rfl, hd, ?_⟩
    have e : decide ((u.natAbs : Int) < (10 : Int) ^ d.toNat) = decide (u.natAbs < 10 ^ d.toNat) := by
      have c : ((10 : Int) ^ d.toNat) = ((10 ^ d.toNat : Nat) : Int) := by rw [Int.natCast_pow]; rfl
      rw [c]
      congr 1
      exact propext (by omega)
    k_updF
    rw [e]
    exact k
end
abbrev s_is_signed : Stmt := top 18
abbrev N_is_signed : List Str := ["picture"]
theorem sc_is_signed : FnScope N_is_signed ["picture"] (defScope s_is_signed) := ⟨rfl, rfl, rfl, by decide +kernel, rfl, by decide +kernel, by decide +kernel⟩
def sp_is_signed (K : PySem.W.Frag) (mg : WP.MG) : Sp := fun vs H Q _ => ∃ (p : Addr) (pic : MP.Pic), vs = [.ref p] ∧ SqT K H p pic.vs ∧ Q (.bl pic.sgd) H
section
variable {P : Program} {w : World} {K : PySem.W.Frag} {mg : Str → Option Value} {base : Heap}
theorem ok_is_signed {f : Addr} {fd : FuncData} (F : Fun K "is_signed" "is_signed" s_is_signed f fd) (B : Blt w K mg)  : FnOk P w K mg base CX0 1 f fd ["picture"] (sp_is_signed K mg) := by
  refine F.ok sc_is_signed (fun vs H Q E h => ?_) (fun cdv A outer s H vs Q E hr h => ?_)
  · first | (obtain ⟨_, rfl, _⟩ := h; rfl) | (obtain ⟨_, _, rfl, _⟩ := h; rfl) | (obtain ⟨_, _, _, rfl, _⟩ := h; rfl) | (obtain ⟨_, _, _, _, rfl, _⟩ := h; rfl) | (obtain ⟨_, _, _, _, _, rfl, _⟩ := h; rfl) | (obtain ⟨_, _, _, _, _, _, rfl, _⟩ := h; rfl) | (obtain ⟨_, _, _, _, _, _, _, rfl, _⟩ := h; rfl) | (obtain ⟨_, _, _, _, _, _, _, _, rfl, _⟩ := h; rfl) | (obtain ⟨rfl, _⟩ := h; rfl)
  · obtain ⟨p, pic, rfl, hp, k⟩ := h
    refine ⟨_, (pss_cons (ps_if (pt_cmpR op_eq (pe_ix ix_tup (pv 0) pe_int (fun _ _ => rfl)) (WP.pe_strL [116, 101, 120, 116] (by decide +kernel)) (nomark _)) (pss_one (ps_ret pe_bl)) pss_nil)
      (pss_cons (ps_if (pt_cmpR op_eq (pe_ix ix_tup (pv 0) pe_int (fun _ _ => rfl)) (WP.pe_strL [110, 117, 109, 98, 101, 114] (by decide +kernel)) (nomark _)) (pss_one (ps_ret (pe_ix ix_tup (pv 0) pe_int (fun _ _ => rfl)))) pss_nil)
      (pss_one (ps_ret (pe_cmpR op_ne (pe_ix ix_tup (pv 0) pe_int (fun _ _ => rfl)) (WP.pe_strL [] (by decide +kernel)) (nomark _)))))), ?_⟩
    cases pic with
    | num sg a b =>
      k_updF
      refine WP.ixT hp WP.at0 ?_
      k_updF
      refine WP.brF (by decide) ?_
      k_updF
      refine WP.ixT hp WP.at0 ?_
      k_updF
      refine WP.brT (by decide) ?_
      k_updF
      refine WP.ixT hp WP.at1 ?_
      exact k
    | ed m a b s =>
      k_updF
      refine WP.ixT hp WP.at0 ?_
      k_updF
      refine WP.brF (by decide) ?_
      k_updF
      refine WP.ixT hp WP.at0 ?_
      k_updF
      refine WP.brF (by decide) ?_
      k_updF
      refine WP.ixT hp WP.at4 ?_
      k_updF
      exact k
end
abbrev s__many_digits : Stmt := top 32
abbrev N__many_digits : List Str := ["picture", "whole", "fraction"]
theorem sc__many_digits : FnScope N__many_digits ["picture"] (defScope s__many_digits) := ⟨rfl, rfl, rfl, by decide +kernel, rfl, by decide +kernel, by decide +kernel⟩
def sp__many_digits (K : PySem.W.Frag) (mg : WP.MG) : Sp := fun vs H Q _ => ∃ (p : Addr) (pic : MP.Pic), vs = [.ref p] ∧ SqT K H p pic.vs ∧ WP.RetV (.int (pic.n : Int)) H Q
section
variable {P : Program} {w : World} {K : PySem.W.Frag} {mg : Str → Option Value} {base : Heap}
theorem ok__many_digits {f : Addr} {fd : FuncData} (F : Fun K "_many_digits" "_many_digits" s__many_digits f fd) (B : Blt w K mg) (c_digits_in : WP.Callee P w K mg base CX0 1 "digits_in" ["picture"] (sp_digits_in K mg)) : FnOk P w K mg base CX0 2 f fd ["picture"] (sp__many_digits K mg) := by
  refine F.ok sc__many_digits (fun vs H Q E h => ?_) (fun cdv A outer s H vs Q E hr h => ?_)
  · first | (obtain ⟨_, rfl, _⟩ := h; rfl) | (obtain ⟨_, _, rfl, _⟩ := h; rfl) | (obtain ⟨_, _, _, rfl, _⟩ := h; rfl) | (obtain ⟨_, _, _, _, rfl, _⟩ := h; rfl) | (obtain ⟨_, _, _, _, _, rfl, _⟩ := h; rfl) | (obtain ⟨_, _, _, _, _, _, rfl, _⟩ := h; rfl) | (obtain ⟨_, _, _, _, _, _, _, rfl, _⟩ := h; rfl) | (obtain ⟨_, _, _, _, _, _, _, _, rfl, _⟩ := h; rfl) | (obtain ⟨rfl, _⟩ := h; rfl)
  · obtain ⟨p, pic, rfl, hp, k⟩ := h
    refine ⟨_, (pss_cons (ps_asg (WP.pe_callC c_digits_in hr rfl pass0 (WP.pa_consN (pv 0) pa_nil)) (pg_tup (by rfl) (pgs_cons (pg_name (i := 1) sc__many_digits.nd rfl (Or.inl rfl)) (pgs_cons (pg_name (i := 2) sc__many_digits.nd rfl (Or.inl rfl)) pgs_nil))))
      (pss_one (ps_ret (pe_op op_add (pv 1) (pv 2))))), ?_⟩
    k_updF
    refine ⟨p, pic, rfl, hp, fun q H1 e1 hq => ?_⟩
    refine WP.unT (SqT.of hq) rfl ?_
    k_updF
    rw [← Int.natCast_add]
    exact k _ e1
end
abbrev s_suits : Stmt := top 26
abbrev N_suits : List Str := ["picture", "units"]
theorem sc_suits : FnScope N_suits ["picture", "units"] (defScope s_suits) := ⟨rfl, rfl, rfl, by decide +kernel, rfl, by decide +kernel, by decide +kernel⟩
def sp_suits (K : PySem.W.Frag) (mg : WP.MG) : Sp := fun vs H Q _ => ∃ (p : Addr) (pic : MP.Pic) (u : Int), vs = [.ref p, .int u] ∧ SqT K H p pic.vs ∧ pic.Ok ∧ WP.RetV (.bl (decide (MP.Suits pic u))) H Q
section
variable {P : Program} {w : World} {K : PySem.W.Frag} {mg : Str → Option Value} {base : Heap}
theorem ok_suits {f : Addr} {fd : FuncData} (F : Fun K "suits" "suits" s_suits f fd) (B : Blt w K mg) (c_fits : WP.Callee P w K mg base CX0 2 "fits" ["units", "digits"] (sp_fits K mg)) (c_is_signed : WP.Callee P w K mg base CX0 1 "is_signed" ["picture"] (sp_is_signed K mg)) (c__many_digits : WP.Callee P w K mg base CX0 2 "_many_digits" ["picture"] (sp__many_digits K mg)) : FnOk P w K mg base CX0 3 f fd ["picture", "units"] (sp_suits K mg) := by
  refine F.ok sc_suits (fun vs H Q E h => ?_) (fun cdv A outer s H vs Q E hr h => ?_)
  · first | (obtain ⟨_, rfl, _⟩ := h; rfl) | (obtain ⟨_, _, rfl, _⟩ := h; rfl) | (obtain ⟨_, _, _, rfl, _⟩ := h; rfl) | (obtain ⟨_, _, _, _, rfl, _⟩ := h; rfl) | (obtain ⟨_, _, _, _, _, rfl, _⟩ := h; rfl) | (obtain ⟨_, _, _, _, _, _, rfl, _⟩ := h; rfl) | (obtain ⟨_, _, _, _, _, _, _, rfl, _⟩ := h; rfl) | (obtain ⟨_, _, _, _, _, _, _, _, rfl, _⟩ := h; rfl) | (obtain ⟨rfl, _⟩ := h; rfl)
  · obtain ⟨p, pic, u, rfl, hp, ho, k⟩ := h
    refine ⟨_, (pss_cons (ps_if (pt_not (pt_val (WP.pe_callC c_fits hr rfl pass0 (WP.pa_consN (pv 1) (WP.pa_consN (WP.pe_callC c__many_digits hr rfl pass0 (WP.pa_consN (pv 0) pa_nil)) pa_nil))))) (pss_one (ps_ret pe_bl)) pss_nil)
      (pss_one (ps_ret (pe_or (pe_cmpR op_ge (pv 1) pe_int (nomark _)) (pe_one (WP.pe_callC c_is_signed hr rfl pass0 (WP.pa_consN (pv 0) pa_nil))))))), ?_⟩
    have hn := ho.n1
    k_updF
    refine ⟨p, pic, rfl, hp, fun H1 e1 => ?_⟩
    k_updF
    refine ⟨u, (pic.n : Int), rfl, by omega, ?_⟩
    rw [Int.toNat_natCast]
    k_updF
    by_cases c : u.natAbs < 10 ^ pic.n
    · refine WP.brF (by rw [decide_eq_true c]; rfl) ?_
      k_updF
      refine WP.br (fun d => ?_) (fun d => ?_)
      · rw [decide_eq_true (show MP.Suits pic u from ⟨c, .inl d⟩)] at k
        exact k _ e1
      · k_updF
        refine ⟨p, pic, rfl, WP.sqt e1 hp, ?_⟩
        cases hs : pic.sgd with
        | true =>
          rw [decide_eq_true (show MP.Suits pic u from ⟨c, .inr hs⟩)] at k
          exact k _ e1
        | false =>
          rw [decide_eq_false (show ¬ MP.Suits pic u from fun z => by
            rcases z.2 with z | z
            · exact d z
            · rw [hs] at z; cases z)] at k
          exact k _ e1
    · refine WP.brT (by rw [decide_eq_false c]; rfl) ?_
      k_updF
      rw [decide_eq_false (show ¬ MP.Suits pic u from fun z => c z.1)] at k
      exact k _ e1
end
abbrev s__sign_of : Stmt := top 33
abbrev N__sign_of : List Str := ["picture"]
theorem sc__sign_of : FnScope N__sign_of ["picture"] (defScope s__sign_of) := ⟨rfl, rfl, rfl, by decide +kernel, rfl, by decide +kernel, by decide +kernel⟩
def sp__sign_of (K : PySem.W.Frag) (mg : WP.MG) : Sp := fun vs H Q _ => ∃ (p : Addr) (pic : MP.Pic), vs = [.ref p] ∧ SqT K H p pic.vs ∧ Q (.str (SX.S pic.sgn)) H
section
variable {P : Program} {w : World} {K : PySem.W.Frag} {mg : Str → Option Value} {base : Heap}
theorem ok__sign_of {f : Addr} {fd : FuncData} (F : Fun K "_sign_of" "_sign_of" s__sign_of f fd) (B : Blt w K mg) (c_is_signed : WP.Callee P w K mg base CX0 1 "is_signed" ["picture"] (sp_is_signed K mg)) : FnOk P w K mg base CX0 2 f fd ["picture"] (sp__sign_of K mg) := by
  refine F.ok sc__sign_of (fun vs H Q E h => ?_) (fun cdv A outer s H vs Q E hr h => ?_)
  · first | (obtain ⟨_, rfl, _⟩ := h; rfl) | (obtain ⟨_, _, rfl, _⟩ := h; rfl) | (obtain ⟨_, _, _, rfl, _⟩ := h; rfl) | (obtain ⟨_, _, _, _, rfl, _⟩ := h; rfl) | (obtain ⟨_, _, _, _, _, rfl, _⟩ := h; rfl) | (obtain ⟨_, _, _, _, _, _, rfl, _⟩ := h; rfl) | (obtain ⟨_, _, _, _, _, _, _, rfl, _⟩ := h; rfl) | (obtain ⟨_, _, _, _, _, _, _, _, rfl, _⟩ := h; rfl) | (obtain ⟨rfl, _⟩ := h; rfl)
  · obtain ⟨p, pic, rfl, hp, k⟩ := h
    refine ⟨_, (pss_cons (ps_if (pt_cmpR op_eq (pe_ix ix_tup (pv 0) pe_int (fun _ _ => rfl)) (WP.pe_strL [101, 100, 105, 116, 101, 100] (by decide +kernel)) (nomark _)) (pss_one (ps_ret (pe_ix ix_tup (pv 0) pe_int (fun _ _ => rfl)))) pss_nil)
      (pss_one (ps_ret (pe_ifExp (pt_val (WP.pe_callC c_is_signed hr rfl pass0 (WP.pa_consN (pv 0) pa_nil))) (WP.pe_strL [43] (by decide +kernel)) (WP.pe_strL [] (by decide +kernel)))))), ?_⟩
    cases pic with
    | num sg a b =>
      k_updF
      refine WP.ixT hp WP.at0 ?_
      k_updF
      refine WP.brF (by decide) ?_
      k_updF
      refine ⟨p, _, rfl, hp, ?_⟩
      k_updF
      cases sg
      · refine WP.brF rfl ?_
        k_updF
        exact k
      · refine WP.brT rfl ?_
        k_updF
        exact k
    | ed m a b s =>
      k_updF
      refine WP.ixT hp WP.at0 ?_
      k_updF
      refine WP.brT (by decide) ?_
      k_updF
      refine WP.ixT hp WP.at4 ?_
      exact k
end
abbrev s__is_sign_ahead : Stmt := top 34
abbrev N__is_sign_ahead : List Str := ["picture"]
theorem sc__is_sign_ahead : FnScope N__is_sign_ahead ["picture"] (defScope s__is_sign_ahead) := ⟨rfl, rfl, rfl, by decide +kernel, rfl, by decide +kernel, by decide +kernel⟩
def sp__is_sign_ahead (K : PySem.W.Frag) (mg : WP.MG) : Sp := fun vs H Q _ => ∃ (p : Addr) (pic : MP.Pic), vs = [.ref p] ∧ SqT K H p pic.vs ∧ WP.RetV (.bl (decide (pic.sgn ∈ [[45], [43]]))) H Q
section
variable {P : Program} {w : World} {K : PySem.W.Frag} {mg : Str → Option Value} {base : Heap}
theorem ok__is_sign_ahead {f : Addr} {fd : FuncData} (F : Fun K "_is_sign_ahead" "_is_sign_ahead" s__is_sign_ahead f fd) (B : Blt w K mg) (c__sign_of : WP.Callee P w K mg base CX0 2 "_sign_of" ["picture"] (sp__sign_of K mg)) : FnOk P w K mg base CX0 3 f fd ["picture"] (sp__is_sign_ahead K mg) := by
  refine F.ok sc__is_sign_ahead (fun vs H Q E h => ?_) (fun cdv A outer s H vs Q E hr h => ?_)
  · first | (obtain ⟨_, rfl, _⟩ := h; rfl) | (obtain ⟨_, _, rfl, _⟩ := h; rfl) | (obtain ⟨_, _, _, rfl, _⟩ := h; rfl) | (obtain ⟨_, _, _, _, rfl, _⟩ := h; rfl) | (obtain ⟨_, _, _, _, _, rfl, _⟩ := h; rfl) | (obtain ⟨_, _, _, _, _, _, rfl, _⟩ := h; rfl) | (obtain ⟨_, _, _, _, _, _, _, rfl, _⟩ := h; rfl) | (obtain ⟨_, _, _, _, _, _, _, _, rfl, _⟩ := h; rfl) | (obtain ⟨rfl, _⟩ := h; rfl)
  · obtain ⟨p, pic, rfl, hp, k⟩ := h
    refine ⟨_, (pss_one (ps_ret (pe_cmpR op_in_seq (WP.pe_callC c__sign_of hr rfl pass0 (WP.pa_consN (pv 0) pa_nil)) (pe_tup (WP.pa_consN (WP.pe_strL [45] (by decide +kernel)) (WP.pa_consN (WP.pe_strL [43] (by decide +kernel)) pa_nil))) rfl))), ?_⟩
    k_updF
    refine ⟨p, pic, rfl, hp, ?_⟩
    k_updF
    refine ⟨WP.sz2, fun t ht => ?_⟩
    refine WP.inT [[45], [43]] (SqT.of upd_same) rfl ?_
    exact k _ (WP.same_new ht)
end
abbrev s_written : Stmt := top 27
abbrev N_written : List Str := ["picture", "units", "figures", "sign", "body"]
theorem sc_written : FnScope N_written ["picture", "units"] (defScope s_written) := ⟨rfl, rfl, rfl, by decide +kernel, rfl, by decide +kernel, by decide +kernel⟩
theorem padL_le : ∀ (k n : Nat), (WP.padL k n).length = k := WP.padL_len
def sp_written (K : PySem.W.Frag) (mg : WP.MG) : Sp := fun vs H Q E => ∃ (p : Addr) (pic : MP.Pic) (u : Int), vs = [.ref p, .int u] ∧ SqT K H p pic.vs ∧ pic.Ok ∧
  (¬ MP.Suits pic u → ∀ H', Same H H' → E (.ref (WP.ca mg "BadPicture")) none H') ∧ (MP.Suits pic u → WP.RetV (.str (SX.S (MP.writ pic u))) H Q)
section
variable {P : Program} {w : World} {K : PySem.W.Frag} {mg : Str → Option Value} {base : Heap}
theorem ok_written {f : Addr} {fd : FuncData} (F : Fun K "written" "written" s_written f fd) (B : Blt w K mg) (c__sign_text : WP.Callee P w K mg base CX0 1 "_sign_text" ["sign", "is_negative"] (sp__sign_text K mg)) (c__body_text : WP.Callee P w K mg base CX0 1 "_body_text" ["marks", "figures"] (sp__body_text K mg)) (c_suits : WP.Callee P w K mg base CX0 3 "suits" ["picture", "units"] (sp_suits K mg)) (c__many_digits : WP.Callee P w K mg base CX0 2 "_many_digits" ["picture"] (sp__many_digits K mg)) (c__sign_of : WP.Callee P w K mg base CX0 2 "_sign_of" ["picture"] (sp__sign_of K mg)) (c__is_sign_ahead : WP.Callee P w K mg base CX0 3 "_is_sign_ahead" ["picture"] (sp__is_sign_ahead K mg)) : FnOk P w K mg base (L2.CX P w) 4 f fd ["picture", "units"] (sp_written K mg) := by
  refine F.okX sc_written (fun vs H Q E h => ?_) (fun cdv A outer s H vs Q E hr h => ?_)
  · first | (obtain ⟨_, rfl, _⟩ := h; rfl) | (obtain ⟨_, _, rfl, _⟩ := h; rfl) | (obtain ⟨_, _, _, rfl, _⟩ := h; rfl) | (obtain ⟨_, _, _, _, rfl, _⟩ := h; rfl) | (obtain ⟨_, _, _, _, _, rfl, _⟩ := h; rfl) | (obtain ⟨_, _, _, _, _, _, rfl, _⟩ := h; rfl) | (obtain ⟨_, _, _, _, _, _, _, rfl, _⟩ := h; rfl) | (obtain ⟨_, _, _, _, _, _, _, _, rfl, _⟩ := h; rfl) | (obtain ⟨rfl, _⟩ := h; rfl)
  · obtain ⟨p, pic, u, rfl, hp, ho, kE, k⟩ := h
    refine ⟨_, (pss_cons (ps_if (pt_not (pt_val (WP.pe_callC c_suits hr rfl pass0 (WP.pa_consN (pv 0) (WP.pa_consN (pv 1) pa_nil))))) (pss_one (WP.ps_raiseC rfl (takes_of rfl rfl rfl rfl) B.e_BadPicture (by exact rfl))) pss_nil)
      (pss_cons (ps_set (i := 2) sc_written.nd rfl (Or.inl rfl) (pe_bm PySem.F.plainAttrs_str PySem.F.slot_str_zfill PySem.F.type_str_zfill WP.m_zfill (pe_callTy WP.c_str (by rfl) B.b_str (by decide +kernel) (WP.pa_consN (pe_callB WP.c_abs (by rfl) B.b_abs (by decide +kernel) (WP.pa_consN (pv 1) pa_nil)) pa_nil)) (WP.pa_consN (WP.pe_callC c__many_digits hr rfl pass0 (WP.pa_consN (pv 0) pa_nil)) pa_nil)))
      (pss_cons (ps_set (i := 3) sc_written.nd rfl (Or.inl rfl) (WP.pe_callC c__sign_text hr rfl pass0 (WP.pa_consN (WP.pe_callC c__sign_of hr rfl pass0 (WP.pa_consN (pv 0) pa_nil)) (WP.pa_consN (pe_cmpR op_lt (pv 1) pe_int (nomark _)) pa_nil))))
      (pss_cons (ps_if (pt_cmpR op_eq (pe_ix ix_tup (pv 0) pe_int (fun _ _ => rfl)) (WP.pe_strL [110, 117, 109, 98, 101, 114] (by decide +kernel)) (nomark _)) (pss_one (ps_ret (pe_op WP.op_addS (pv 3) (pv 2)))) pss_nil)
      (pss_cons (ps_set (i := 4) sc_written.nd rfl (Or.inl rfl) (WP.pe_callC c__body_text hr rfl pass0 (WP.pa_consN (pe_ix ix_tup (pv 0) pe_int (fun _ _ => rfl)) (WP.pa_consN (pv 2) pa_nil))))
      (pss_one (ps_ret (pe_ifExp (pt_val (WP.pe_callC c__is_sign_ahead hr rfl pass0 (WP.pa_consN (pv 0) pa_nil))) (pe_op WP.op_addS (pv 3) (pv 4)) (pe_op WP.op_addS (pv 4) (pv 3)))))))))), ?_⟩
    have hn := ho.n1
    k_updF
    refine ⟨p, pic, u, rfl, hp, ho, fun H1 e1 => ?_⟩
    k_updF
    refine WP.brN (fun c => ?_) (fun c => ?_)
    · exact kE c _ e1
    have hp := WP.sqt e1 hp
    have k := k c
    k_updF
    refine WP.absI ?_
    k_updF
    refine WP.strN (WP.log2_lt (by decide) (Nat.lt_of_lt_of_le c.1 (Nat.le_trans (Nat.pow_le_pow_right (by decide) hn.2) (by decide +kernel)))) ?_
    k_updF
    refine ⟨p, pic, rfl, hp, fun H2 e2 => ?_⟩
    have hp := WP.sqt e2 hp
    have e2 := e1.trans e2
    k_updF
    refine WP.zfillS (fun c hc => WP.numL_head hc) (by omega) (by omega) ?_
    rw [Int.toNat_natCast, ← WP.padL_num pic.n u.natAbs (by omega) c.1]
    k_updF
    refine ⟨p, pic, rfl, hp, ?_⟩
    k_updF
    have hsg : pic.sgn ∈ MP.signs := by
      cases pic with
      | num sg a b => cases sg with
        | false => exact (show ([] : List Nat) ∈ MP.signs by decide)
        | true => exact (show ([43] : List Nat) ∈ MP.signs by decide)
      | ed b a f s => exact ho.2.2.2
    refine ⟨pic.sgn, decide (u < 0), rfl, hsg, fun H3 e3 => ?_⟩
    have hp := WP.sqt e3 hp
    have e3 := e2.trans e3
    have lsg : ∀ s ∈ MP.signs, ∀ neg : Bool, (MP.signText s neg).length ≤ 2 := by decide
    have l1 := lsg _ hsg (decide (u < 0))
    have l2 := WP.padL_len pic.n u.natAbs
    cases pic with
    | num sg a b =>
      k_updF
      refine WP.ixT hp WP.at0 ?_
      k_updF
      refine WP.brT (by decide) ?_
      k_updF
      refine WP.catS ?_ (by rw [sizeLine_eq]; omega)
      exact k _ e3
    | ed b a f s =>
      k_updF
      refine WP.ixT hp WP.at0 ?_
      k_updF
      refine WP.brF (by decide) ?_
      k_updF
      refine WP.ixT hp WP.at1 ?_
      k_updF
      refine ⟨b, _, _, rfl, ho.2.2.1, l2, by show a + f ≤ 100; exact Nat.le_trans ho.2.1 (by decide), fun H4 e4 => ?_⟩
      have e4' := e3.trans e4
      have lb : (MP.bodyText b (WP.padL (a + f) u.natAbs)).length ≤ 60 := by
        have : ∀ (fill : Nat) (ms : List Nat) (hid : Bool) (fs : List Nat), (MP.bodyF fill hid ms fs).length ≤ ms.length := fun fill ms => by
          induction ms with
          | nil => intro hid fs; rw [MP.bodyF]; exact Nat.le_refl _
          | cons m ms ih =>
            intro hid fs
            conv => lhs; unfold MP.bodyF
            split
            · split
              · exact Nat.zero_le _
              · exact Nat.succ_le_succ (ih _ _)
            · split
              · exact Nat.succ_le_succ (ih _ _)
              · exact Nat.succ_le_succ (ih _ _)
        exact Nat.le_trans (this _ _ _ _) ho.2.2.1.ln
      k_updF
      refine ⟨p, _, rfl, WP.sqt e4 hp, fun H5 e5 => ?_⟩
      have e5' := e4'.trans e5
      have kk : WP.RetV (.str (SX.S (if s = [45] ∨ s = [43] then MP.signText s (decide (u < 0)) ++ MP.bodyText b (WP.padL (a + f) u.natAbs) else MP.bodyText b (WP.padL (a + f) u.natAbs) ++ MP.signText s (decide (u < 0))))) H Q := k
      k_updF
      have l1' : (MP.signText s (decide (u < 0))).length ≤ 2 := l1
      refine WP.br (fun d => ?_) (fun d => ?_)
      · k_updF
        refine WP.catS ?_ (by rw [sizeLine_eq]; show (MP.signText s _).length + (MP.bodyText b (WP.padL (a + f) _)).length ≤ _; omega)
        rw [if_pos (by simpa [MP.Pic.sgn] using d)] at kk
        exact kk _ e5'
      · k_updF
        refine WP.catS ?_ (by rw [sizeLine_eq]; show (MP.bodyText b (WP.padL (a + f) _)).length + (MP.signText s _).length ≤ _; omega)
        rw [if_neg (by simpa [MP.Pic.sgn] using d)] at kk
        exact kk _ e5'
end
abbrev s_trimmed : Stmt := top 31
abbrev N_trimmed : List Str := ["picture", "units", "kept"]
theorem sc_trimmed : FnScope N_trimmed ["picture", "units"] (defScope s_trimmed) := ⟨rfl, rfl, rfl, by decide +kernel, rfl, by decide +kernel, by decide +kernel⟩
def sp_trimmed (K : PySem.W.Frag) (mg : WP.MG) : Sp := fun vs H Q _ => ∃ (p : Addr) (pic : MP.Pic) (u : Int), vs = [.ref p, .int u] ∧ SqT K H p pic.vs ∧ pic.Ok ∧
  WP.RetV (.int (if u < 0 ∧ pic.sgd = true then -((u.natAbs : Int) % 10 ^ pic.n) else (u.natAbs : Int) % 10 ^ pic.n)) H Q
section
variable {P : Program} {w : World} {K : PySem.W.Frag} {mg : Str → Option Value} {base : Heap}
theorem ok_trimmed {f : Addr} {fd : FuncData} (F : Fun K "trimmed" "trimmed" s_trimmed f fd) (B : Blt w K mg) (c_power : WP.Callee P w K mg base CX0 1 "power" ["exponent"] (sp_power K mg)) (c__many_digits : WP.Callee P w K mg base CX0 2 "_many_digits" ["picture"] (sp__many_digits K mg)) (c_is_signed : WP.Callee P w K mg base CX0 1 "is_signed" ["picture"] (sp_is_signed K mg)) : FnOk P w K mg base CX0 3 f fd ["picture", "units"] (sp_trimmed K mg) := by
  refine F.ok sc_trimmed (fun vs H Q E h => ?_) (fun cdv A outer s H vs Q E hr h => ?_)
  · first | (obtain ⟨_, rfl, _⟩ := h; rfl) | (obtain ⟨_, _, rfl, _⟩ := h; rfl) | (obtain ⟨_, _, _, rfl, _⟩ := h; rfl) | (obtain ⟨_, _, _, _, rfl, _⟩ := h; rfl) | (obtain ⟨_, _, _, _, _, rfl, _⟩ := h; rfl) | (obtain ⟨_, _, _, _, _, _, rfl, _⟩ := h; rfl) | (obtain ⟨_, _, _, _, _, _, _, rfl, _⟩ := h; rfl) | (obtain ⟨_, _, _, _, _, _, _, _, rfl, _⟩ := h; rfl) | (obtain ⟨rfl, _⟩ := h; rfl)
  · obtain ⟨p, pic, u, rfl, hp, ho, k⟩ := h
    refine ⟨_, (pss_cons (ps_set (i := 2) sc_trimmed.nd rfl (Or.inl rfl) (pe_op op_mod (pe_callB WP.c_abs (by rfl) B.b_abs (by decide +kernel) (WP.pa_consN (pv 1) pa_nil)) (WP.pe_callC c_power hr rfl pass0 (WP.pa_consN (WP.pe_callC c__many_digits hr rfl pass0 (WP.pa_consN (pv 0) pa_nil)) pa_nil))))
      (pss_one (ps_ret (pe_ifExp (PW.pt (pw_and (pt_cmpR op_lt (pv 1) pe_int (nomark _)) (pw_and1 (pt_val (WP.pe_callC c_is_signed hr rfl pass0 (WP.pa_consN (pv 0) pa_nil)))))) (pe_un un_neg (pv 2)) (pv 2))))), ?_⟩
    have hn := ho.n1
    k_updF
    refine WP.absI ?_
    k_updF
    refine ⟨p, pic, rfl, hp, fun H1 e1 => ?_⟩
    k_updF
    refine ⟨(pic.n : Int), rfl, by omega, ?_⟩
    rw [Int.toNat_natCast]
    refine WP.iC (WP.ten_pos _) ?_
    k_updF
    refine WP.br (fun c => ?_) (fun c => ?_)
    · k_updF
      refine ⟨p, pic, rfl, WP.sqt e1 hp, ?_⟩
      k_updF
      cases hs : pic.sgd with
      | true =>
        refine WP.brT rfl ?_
        k_updF
        rw [if_pos ⟨c, hs⟩] at k
        exact k _ e1
      | false =>
        refine WP.brF rfl ?_
        k_updF
        rw [if_neg (fun z => by rw [hs] at z; cases z.2)] at k
        exact k _ e1
    · refine WP.brF rfl ?_
      k_updF
      rw [if_neg (fun z => c z.1)] at k
      exact k _ e1
end
abbrev s_quotient : Stmt := top 13
abbrev N_quotient : List Str := ["above", "below", "is_rounded", "size", "rest"]
theorem sc_quotient : FnScope N_quotient ["above", "below", "is_rounded"] (defScope s_quotient) := ⟨rfl, rfl, rfl, by decide +kernel, rfl, by decide +kernel, by decide +kernel⟩
def sp_quotient (K : PySem.W.Frag) (mg : WP.MG) : Sp := fun vs H Q _ => ∃ (x y : Int) (r : Bool), vs = [.int x, .int y, .bl r] ∧ y ≠ 0 ∧ WP.Bt x 3900 ∧ WP.RetV (.int (MQ.quot x y r)) H Q
section
variable {P : Program} {w : World} {K : PySem.W.Frag} {mg : Str → Option Value} {base : Heap}
theorem ok_quotient {f : Addr} {fd : FuncData} (F : Fun K "quotient" "quotient" s_quotient f fd) (B : Blt w K mg)  : FnOk P w K mg base CX0 1 f fd ["above", "below", "is_rounded"] (sp_quotient K mg) := by
  refine F.ok sc_quotient (fun vs H Q E h => ?_) (fun cdv A outer s H vs Q E hr h => ?_)
  · first | (obtain ⟨_, rfl, _⟩ := h; rfl) | (obtain ⟨_, _, rfl, _⟩ := h; rfl) | (obtain ⟨_, _, _, rfl, _⟩ := h; rfl) | (obtain ⟨_, _, _, _, rfl, _⟩ := h; rfl) | (obtain ⟨_, _, _, _, _, rfl, _⟩ := h; rfl) | (obtain ⟨_, _, _, _, _, _, rfl, _⟩ := h; rfl) | (obtain ⟨_, _, _, _, _, _, _, rfl, _⟩ := h; rfl) | (obtain ⟨_, _, _, _, _, _, _, _, rfl, _⟩ := h; rfl) | (obtain ⟨rfl, _⟩ := h; rfl)
  · obtain ⟨x, y, r, rfl, hy, hx, k⟩ := h
    refine ⟨_, (pss_cons (ps_asg (pe_callB WP.c_divmodW (by rfl) B.b_divmod (by decide +kernel) (WP.pa_consN (pe_callB WP.c_abs (by rfl) B.b_abs (by decide +kernel) (WP.pa_consN (pv 0) pa_nil)) (WP.pa_consN (pe_callB WP.c_abs (by rfl) B.b_abs (by decide +kernel) (WP.pa_consN (pv 1) pa_nil)) pa_nil))) (pg_tup (by rfl) (pgs_cons (pg_name (i := 3) sc_quotient.nd rfl (Or.inl rfl)) (pgs_cons (pg_name (i := 4) sc_quotient.nd rfl (Or.inl rfl)) pgs_nil))))
      (Evl.pss_cut (ps_if (PW.pt (pw_and (pt_val (pv 2)) (pw_and1 (pt_cmpR op_ge (pe_op op_mul pe_int (pv 4)) (pe_callB WP.c_abs (by rfl) B.b_abs (by decide +kernel) (WP.pa_consN (pv 1) pa_nil)) (nomark _))))) (pss_one (ps_set (i := 3) sc_quotient.nd rfl (Or.inl rfl) (pe_op op_add (pv 3) pe_int))) pss_nil)
      (pss_one (ps_ret (pe_ifExp (pt_cmpR op_ne (pe_cmpR op_lt (pv 0) pe_int (nomark _)) (pe_cmpR op_lt (pv 1) pe_int (nomark _)) (nomark _)) (pe_un un_neg (pv 3)) (pv 3)))))), ?_⟩
    k_updF
    refine WP.absI ?_
    k_updF
    refine WP.absI ?_
    k_updF
    refine WP.divW (WP.Bt.p (a := 3900) (by unfold WP.Bt at *; rw [Int.natAbs_natCast]; exact hx) (by omega)) (fun p hp => ?_)
    rw [← Int.natCast_ediv, ← Int.natCast_emod]
    refine WP.unT (SqT.of upd_same) rfl ?_
    k_updF
    generalize hH1 : upd H p _ = H1
    have e1 : Same H H1 := by rw [← hH1]; exact WP.same_new hp
    have fin : ∀ (D : Ends) (z3 : Option V), D.rt = Q → (tRet (tIf (tTest (tOp rNe (tOp (rI0 fun i j => V.bl (decide (i < j))) (tVar 0) (tC (V.int 0))) (tOp (rI0 fun i j => V.bl (decide (i < j))) (tVar 1) (tC (V.int 0)))))
        (tUn (rU fun i => V.int (-i)) (tVar 3)) (tVar 3))) D [some (.int x), some (.int y), some (.bl r), some (.int (MQ.qsz x.natAbs y.natAbs r : Int)), z3] H1 := by
      intro D z3 hD
      k_updF
      rw [hD]
      have q := k H1 e1
      unfold MQ.quot at q
      by_cases c : (decide (x < 0) != decide (y < 0)) = true
      · rw [if_pos c] at q
        refine WP.brT (by revert c; cases decide (x < 0) <;> cases decide (y < 0) <;> decide) ?_
        k_updF
        exact q
      · rw [if_neg c] at q
        refine WP.brF (by revert c; cases decide (x < 0) <;> cases decide (y < 0) <;> decide) ?_
        k_updF
        exact q
    refine WP.cut (fun σ' H' => H' = H1 ∧ σ' = [some (.int x), some (.int y), some (.bl r), some (.int (MQ.qsz x.natAbs y.natAbs r : Int)), some (.int ((x.natAbs % y.natAbs : Nat) : Int))]) ?_ ?_
    rotate_left
    · rintro σ' H' ⟨rfl, rfl⟩
      exact fin _ _ rfl
    have base : ¬ (r = true ∧ y.natAbs ≤ 2 * (x.natAbs % y.natAbs)) → MQ.qsz x.natAbs y.natAbs r = x.natAbs / y.natAbs := fun z => by unfold MQ.qsz; rw [if_neg z]
    k_updF
    refine WP.brB (fun c => ?_) (fun c => ?_)
    · k_updF
      refine WP.iC (.inl (by decide)) ?_
      k_updF
      refine WP.absI ?_
      k_updF
      refine WP.br (fun d => ?_) (fun d => ?_)
      · k_updF
        refine ⟨rfl, ?_⟩
        rw [show MQ.qsz x.natAbs y.natAbs r = x.natAbs / y.natAbs + 1 by unfold MQ.qsz; rw [if_pos ⟨c, by omega⟩]]
        rfl
      · k_updF
        refine ⟨rfl, ?_⟩
        rw [base (fun z => d (by omega))]
        rfl
    · k_updF
      refine WP.brF rfl ?_
      k_updF
      refine ⟨rfl, ?_⟩
      rw [base (fun z => by rw [c] at z; cases z.1)]
      rfl
end
abbrev s_aligned : Stmt := top 12
abbrev N_aligned : List Str := ["a", "scale", "units", "own"]
theorem sc_aligned : FnScope N_aligned ["a", "scale"] (defScope s_aligned) := ⟨rfl, rfl, rfl, by decide +kernel, rfl, by decide +kernel, by decide +kernel⟩
def sp_aligned (K : PySem.W.Frag) (mg : WP.MG) : Sp := fun vs H Q _ => ∃ (p : Addr) (u : Int) (own : Nat) (scale : Int), vs = [.ref p, .int scale] ∧ SqT K H p (WP.dv u own) ∧ (own : Int) ≤ scale ∧ scale - own ≤ 3000 ∧ WP.Bt u 900000 ∧ Q (.int (u * 10 ^ (scale - own).toNat)) H
section
variable {P : Program} {w : World} {K : PySem.W.Frag} {mg : Str → Option Value} {base : Heap}
theorem ok_aligned {f : Addr} {fd : FuncData} (F : Fun K "aligned" "aligned" s_aligned f fd) (B : Blt w K mg) (c_power : WP.Callee P w K mg base CX0 1 "power" ["exponent"] (sp_power K mg)) : FnOk P w K mg base CX0 2 f fd ["a", "scale"] (sp_aligned K mg) := by
  refine F.ok sc_aligned (fun vs H Q E h => ?_) (fun cdv A outer s H vs Q E hr h => ?_)
  · first | (obtain ⟨_, rfl, _⟩ := h; rfl) | (obtain ⟨_, _, rfl, _⟩ := h; rfl) | (obtain ⟨_, _, _, rfl, _⟩ := h; rfl) | (obtain ⟨_, _, _, _, rfl, _⟩ := h; rfl) | (obtain ⟨_, _, _, _, _, rfl, _⟩ := h; rfl) | (obtain ⟨_, _, _, _, _, _, rfl, _⟩ := h; rfl) | (obtain ⟨_, _, _, _, _, _, _, rfl, _⟩ := h; rfl) | (obtain ⟨_, _, _, _, _, _, _, _, rfl, _⟩ := h; rfl) | (obtain ⟨rfl, _⟩ := h; rfl)
  · obtain ⟨p, u, own, scale, rfl, hp, h1, h2, hu, k⟩ := h
    refine ⟨_, (pss_cons (ps_asg (pv 0) (pg_tup (by rfl) (pgs_cons (pg_name (i := 2) sc_aligned.nd rfl (Or.inl rfl)) (pgs_cons (pg_name (i := 3) sc_aligned.nd rfl (Or.inl rfl)) pgs_nil))))
      (pss_one (ps_ret (pe_op op_mulW (pv 2) (WP.pe_callC c_power hr rfl pass0 (WP.pa_consN (pe_op op_sub (pv 1) (pv 3)) pa_nil)))))), ?_⟩
    k_updF
    refine WP.unT hp rfl ?_
    k_updF
    refine ⟨_, rfl, h2, ?_⟩
    refine WP.iC (hu.w (WP.Bt.ten _)) ?_
    exact k
end
abbrev s_units_at : Stmt := top 14
abbrev N_units_at : List Str := ["a", "scale", "is_rounded", "units", "own"]
theorem sc_units_at : FnScope N_units_at ["a", "scale", "is_rounded"] (defScope s_units_at) := ⟨rfl, rfl, rfl, by decide +kernel, rfl, by decide +kernel, by decide +kernel⟩
def sp_units_at (K : PySem.W.Frag) (mg : WP.MG) : Sp := fun vs H Q _ => ∃ (p : Addr) (u : Int) (own : Nat) (scale : Nat) (r : Bool), vs = [.ref p, .int (scale : Int), .bl r] ∧ SqT K H p (WP.dv u own) ∧ own ≤ 1000 ∧ scale ≤ 1000 ∧ WP.Bt u 3900 ∧
  ∀ q, q = (if own ≤ scale then u * 10 ^ (scale - own) else MQ.quot u (10 ^ (own - scale)) r) → WP.RetV (.int q) H Q
section
variable {P : Program} {w : World} {K : PySem.W.Frag} {mg : Str → Option Value} {base : Heap}
theorem ok_units_at {f : Addr} {fd : FuncData} (F : Fun K "units_at" "units_at" s_units_at f fd) (B : Blt w K mg) (c_quotient : WP.Callee P w K mg base CX0 1 "quotient" ["above", "below", "is_rounded"] (sp_quotient K mg)) (c_aligned : WP.Callee P w K mg base CX0 2 "aligned" ["a", "scale"] (sp_aligned K mg)) (c_power : WP.Callee P w K mg base CX0 1 "power" ["exponent"] (sp_power K mg)) : FnOk P w K mg base CX0 3 f fd ["a", "scale", "is_rounded"] (sp_units_at K mg) := by
  refine F.ok sc_units_at (fun vs H Q E h => ?_) (fun cdv A outer s H vs Q E hr h => ?_)
  · first | (obtain ⟨_, rfl, _⟩ := h; rfl) | (obtain ⟨_, _, rfl, _⟩ := h; rfl) | (obtain ⟨_, _, _, rfl, _⟩ := h; rfl) | (obtain ⟨_, _, _, _, rfl, _⟩ := h; rfl) | (obtain ⟨_, _, _, _, _, rfl, _⟩ := h; rfl) | (obtain ⟨_, _, _, _, _, _, rfl, _⟩ := h; rfl) | (obtain ⟨_, _, _, _, _, _, _, rfl, _⟩ := h; rfl) | (obtain ⟨_, _, _, _, _, _, _, _, rfl, _⟩ := h; rfl) | (obtain ⟨rfl, _⟩ := h; rfl)
  · obtain ⟨p, u, own, scale, r, rfl, hp, h1, h2, hu, k⟩ := h
    refine ⟨_, (pss_cons (ps_asg (pv 0) (pg_tup (by rfl) (pgs_cons (pg_name (i := 3) sc_units_at.nd rfl (Or.inl rfl)) (pgs_cons (pg_name (i := 4) sc_units_at.nd rfl (Or.inl rfl)) pgs_nil))))
      (pss_cons (ps_if (pt_cmpR op_ge (pv 1) (pv 4) (nomark _)) (pss_one (ps_ret (WP.pe_callC c_aligned hr rfl pass0 (WP.pa_consN (pv 0) (WP.pa_consN (pv 1) pa_nil))))) pss_nil)
      (pss_one (ps_ret (WP.pe_callC c_quotient hr rfl pass0 (WP.pa_consN (pv 3) (WP.pa_consN (WP.pe_callC c_power hr rfl pass0 (WP.pa_consN (pe_op op_sub (pv 4) (pv 1)) pa_nil)) (WP.pa_consN (pv 2) pa_nil)))))))), ?_⟩
    k_updF
    refine WP.unT hp rfl ?_
    k_updF
    refine WP.br (fun c => ?_) (fun c => ?_)
    · k_updF
      refine ⟨p, u, own, _, rfl, hp, c, by omega, hu.mono (by decide), ?_⟩
      refine k _ ?_ _ (Same.refl _)
      rw [if_pos (by omega), show ((scale : Int) - (own : Int)).toNat = scale - own by omega]
    · k_updF
      refine ⟨_, rfl, by omega, ?_⟩
      k_updF
      refine ⟨_, _, _, rfl, Int.ne_of_gt (WP.ten_pos _), hu, ?_⟩
      refine k _ ?_
      rw [if_neg (by omega), show ((own : Int) - (scale : Int)).toNat = own - scale by omega]
end
abbrev s_cut_to : Stmt := top 43
abbrev N_cut_to : List Str := ["target", "value", "_", "fraction"]
theorem sc_cut_to : FnScope N_cut_to ["target", "value"] (defScope s_cut_to) := ⟨rfl, rfl, rfl, by decide +kernel, rfl, by decide +kernel, by decide +kernel⟩
def sp_cut_to (K : PySem.W.Frag) (mg : WP.MG) : Sp := fun vs H Q _ => ∃ (p q : Addr) (pic : MP.Pic) (u : Int) (sc : Nat), vs = [.ref p, .ref q] ∧ SqT K H p pic.vs ∧ pic.Ok ∧ SqT K H q (WP.dv u sc) ∧ sc ≤ 1000 ∧ WP.Bt u 3900 ∧ WP.RetV (.str (SX.S (MV.cutT pic u sc))) H Q
section
variable {P : Program} {w : World} {K : PySem.W.Frag} {mg : Str → Option Value} {base : Heap}
theorem ok_cut_to {f : Addr} {fd : FuncData} (F : Fun K "cut_to" "cut_to" s_cut_to f fd) (B : Blt w K mg) (c_digits_in : WP.Callee P w K mg base CX0 1 "digits_in" ["picture"] (sp_digits_in K mg)) (c_written : WP.Callee P w K mg base (L2.CX P w) 4 "written" ["picture", "units"] (sp_written K mg)) (c_trimmed : WP.Callee P w K mg base CX0 3 "trimmed" ["picture", "units"] (sp_trimmed K mg)) (c_units_at : WP.Callee P w K mg base CX0 3 "units_at" ["a", "scale", "is_rounded"] (sp_units_at K mg)) : FnOk P w K mg base CX0 5 f fd ["target", "value"] (sp_cut_to K mg) := by
  refine F.ok sc_cut_to (fun vs H Q E h => ?_) (fun cdv A outer s H vs Q E hr h => ?_)
  · first | (obtain ⟨_, rfl, _⟩ := h; rfl) | (obtain ⟨_, _, rfl, _⟩ := h; rfl) | (obtain ⟨_, _, _, rfl, _⟩ := h; rfl) | (obtain ⟨_, _, _, _, rfl, _⟩ := h; rfl) | (obtain ⟨_, _, _, _, _, rfl, _⟩ := h; rfl) | (obtain ⟨_, _, _, _, _, _, rfl, _⟩ := h; rfl) | (obtain ⟨_, _, _, _, _, _, _, rfl, _⟩ := h; rfl) | (obtain ⟨_, _, _, _, _, _, _, _, rfl, _⟩ := h; rfl) | (obtain ⟨rfl, _⟩ := h; rfl)
  · obtain ⟨p, q, pic, u, sc, rfl, hp, ho, hq, hsc, hu, k⟩ := h
    refine ⟨_, (pss_cons (ps_asg (WP.pe_callC c_digits_in hr rfl pass0 (WP.pa_consN (pv 0) pa_nil)) (pg_tup (by rfl) (pgs_cons (pg_name (i := 2) sc_cut_to.nd rfl (Or.inl rfl)) (pgs_cons (pg_name (i := 3) sc_cut_to.nd rfl (Or.inl rfl)) pgs_nil))))
      (pss_one (ps_ret (WP.pe_callC c_written hr rfl WP.pass0X (WP.pa_consN (pv 0) (WP.pa_consN (WP.pe_callC c_trimmed hr rfl pass0 (WP.pa_consN (pv 0) (WP.pa_consN (WP.pe_callC c_units_at hr rfl pass0 (WP.pa_consN (pv 1) (WP.pa_consN (pv 3) (WP.pa_consN pe_bl pa_nil)))) pa_nil))) pa_nil)))))), ?_⟩
    have hn := ho.n1
    have hfr : pic.fr ≤ 18 := by have : pic.wh + pic.fr = pic.n := rfl; omega
    k_updF
    refine ⟨p, pic, rfl, hp, fun T H1 e1 hT => ?_⟩
    refine WP.unT (SqT.of hT) rfl ?_
    k_updF
    refine ⟨q, u, sc, pic.fr, false, rfl, WP.sqt e1 hq, hsc, by omega, hu, fun x hx H2 e2 => ?_⟩
    have hx : x = MV.ua u sc pic.fr false := hx
    subst hx
    k_updF
    refine ⟨p, pic, _, rfl, WP.sqt (e1.trans e2) hp, ho, fun H3 e3 => ?_⟩
    have hs : MP.Suits pic (MV.trm pic (MV.ua u sc pic.fr false)) := MP.suits_cut
    k_updF
    refine ⟨p, pic, _, rfl, WP.sqt ((e1.trans e2).trans e3) hp, ho, fun z => absurd hs z, fun _ H4 e4 => ?_⟩
    exact k _ (((e1.trans e2).trans e3).trans e4)
end
abbrev s_padded : Stmt := top 44
abbrev N_padded : List Str := ["text", "size"]
theorem sc_padded : FnScope N_padded ["text", "size"] (defScope s_padded) := ⟨rfl, rfl, rfl, by decide +kernel, rfl, by decide +kernel, by decide +kernel⟩
def sp_padded (K : PySem.W.Frag) (mg : WP.MG) : Sp := fun vs H Q _ => ∃ (l : List Nat) (n : Nat), vs = [.str (SX.S l), .int (n : Int)] ∧ l.length ≤ 5000 ∧ n ≤ 5000 ∧ Q (.str (SX.S (MV.pad l n))) H
section
variable {P : Program} {w : World} {K : PySem.W.Frag} {mg : Str → Option Value} {base : Heap}
theorem ok_padded {f : Addr} {fd : FuncData} (F : Fun K "padded" "padded" s_padded f fd) (B : Blt w K mg)  : FnOk P w K mg base CX0 1 f fd ["text", "size"] (sp_padded K mg) := by
  refine F.ok sc_padded (fun vs H Q E h => ?_) (fun cdv A outer s H vs Q E hr h => ?_)
  · first | (obtain ⟨_, rfl, _⟩ := h; rfl) | (obtain ⟨_, _, rfl, _⟩ := h; rfl) | (obtain ⟨_, _, _, rfl, _⟩ := h; rfl) | (obtain ⟨_, _, _, _, rfl, _⟩ := h; rfl) | (obtain ⟨_, _, _, _, _, rfl, _⟩ := h; rfl) | (obtain ⟨_, _, _, _, _, _, rfl, _⟩ := h; rfl) | (obtain ⟨_, _, _, _, _, _, _, rfl, _⟩ := h; rfl) | (obtain ⟨_, _, _, _, _, _, _, _, rfl, _⟩ := h; rfl) | (obtain ⟨rfl, _⟩ := h; rfl)
  · obtain ⟨l, n, rfl, hl, hn, k⟩ := h
    refine ⟨_, (pss_one (ps_ret (pe_bm PySem.F.plainAttrs_str PySem.F.slot_str_ljust PySem.F.type_str_ljust mt_ljust (pe_slice sl_str (pv 0) po_none (po_some (pv 1))) (WP.pa_consN (pv 1) pa_nil)))), ?_⟩
    k_updF
    refine WP.slTo (by omega) (by rw [sizeLine_eq]; omega) ?_
    k_updF
    refine ⟨_, _, rfl, rfl, MV.padOk (by omega), ?_⟩
    rw [Int.toNat_natCast, MV.ljust_S, MV.pad_eq]
    exact k
end
abbrev s__sign_and_body : Stmt := top 38
abbrev N__sign_and_body : List Str := ["picture", "text", "many"]
theorem sc__sign_and_body : FnScope N__sign_and_body ["picture", "text"] (defScope s__sign_and_body) := ⟨rfl, rfl, rfl, by decide +kernel, rfl, by decide +kernel, by decide +kernel⟩
def sp__sign_and_body (K : PySem.W.Frag) (mg : WP.MG) : Sp := fun vs H Q _ => ∃ (p : Addr) (pic : MP.Pic) (l : List Nat), vs = [.ref p, .str (SX.S l)] ∧ SqT K H p pic.vs ∧ pic.Ok ∧ l.length ≤ 1000 ∧ WP.RetT [.str (SX.S (MF.cutS pic l)), .str (SX.S (MF.cutB pic l))] H Q
section
variable {P : Program} {w : World} {K : PySem.W.Frag} {mg : Str → Option Value} {base : Heap}
theorem ok__sign_and_body {f : Addr} {fd : FuncData} (F : Fun K "_sign_and_body" "_sign_and_body" s__sign_and_body f fd) (B : Blt w K mg) (c__is_sign_ahead : WP.Callee P w K mg base CX0 3 "_is_sign_ahead" ["picture"] (sp__is_sign_ahead K mg)) : FnOk P w K mg base CX0 4 f fd ["picture", "text"] (sp__sign_and_body K mg) := by
  refine F.ok sc__sign_and_body (fun vs H Q E h => ?_) (fun cdv A outer s H vs Q E hr h => ?_)
  · first | (obtain ⟨_, rfl, _⟩ := h; rfl) | (obtain ⟨_, _, rfl, _⟩ := h; rfl) | (obtain ⟨_, _, _, rfl, _⟩ := h; rfl) | (obtain ⟨_, _, _, _, rfl, _⟩ := h; rfl) | (obtain ⟨_, _, _, _, _, rfl, _⟩ := h; rfl) | (obtain ⟨_, _, _, _, _, _, rfl, _⟩ := h; rfl) | (obtain ⟨_, _, _, _, _, _, _, rfl, _⟩ := h; rfl) | (obtain ⟨_, _, _, _, _, _, _, _, rfl, _⟩ := h; rfl) | (obtain ⟨rfl, _⟩ := h; rfl)
  · obtain ⟨p, pic, l, rfl, hp, ho, hl, k⟩ := h
    refine ⟨_, (pss_cons (ps_if (pt_val (WP.pe_callC c__is_sign_ahead hr rfl pass0 (WP.pa_consN (pv 0) pa_nil))) (pss_one (ps_ret (pe_tup (WP.pa_consN (pe_slice sl_str (pv 1) po_none (po_some pe_int)) (WP.pa_consN (pe_slice sl_str (pv 1) (po_some pe_int) po_none) pa_nil))))) pss_nil)
      (pss_cons (ps_set (i := 2) sc__sign_and_body.nd rfl (Or.inl rfl) (pe_ifExp (pt_cmpR op_eq (pe_ix ix_tup (pv 0) pe_int (fun _ _ => rfl)) (WP.pe_strL [101, 100, 105, 116, 101, 100] (by decide +kernel)) (nomark _)) (pe_callB WP.c_len (by rfl) B.b_len (by decide +kernel) (WP.pa_consN (pe_ix ix_tup (pv 0) pe_int (fun _ _ => rfl)) pa_nil)) (pe_callB WP.c_len (by rfl) B.b_len (by decide +kernel) (WP.pa_consN (pv 1) pa_nil))))
      (pss_one (ps_ret (pe_tup (WP.pa_consN (pe_slice sl_str (pv 1) (po_some (pv 2)) po_none) (WP.pa_consN (pe_slice sl_str (pv 1) po_none (po_some (pv 2))) pa_nil))))))), ?_⟩
    have hz : l.length ≤ sizeLine := by rw [sizeLine_eq]; omega
    unfold MF.cutS MF.cutB at k
    k_updF
    refine ⟨p, pic, rfl, hp, fun H1 e1 => ?_⟩
    have hp := WP.sqt e1 hp
    k_updF
    refine WP.br (fun c => ?_) (fun c => ?_)
    · rw [if_pos c, if_pos c] at k
      k_updF
      refine WP.slTo (by decide) hz ?_
      k_updF
      refine WP.slFrom (by decide) hz ?_
      k_updF
      exact ⟨WP.sz2, k.new e1⟩
    rw [if_neg c, if_neg c] at k
    have fin : ∀ n : Nat, n = MF.many pic l → ∃ h : l.length ≤ sizeLine, True := fun _ _ => ⟨hz, trivial⟩
    cases pic with
    | num sg w f =>
      have k : WP.RetT [.str (SX.S (l.drop l.length)), .str (SX.S (l.take l.length))] H Q := k
      k_updF
      refine WP.ixT hp WP.at0 ?_
      k_updF
      refine WP.brF (by decide) ?_
      k_updF
      refine WP.lenS' hz ?_
      k_updF
      refine WP.slFrom (by omega) hz ?_
      k_updF
      refine WP.slTo (by omega) hz ?_
      k_updF
      rw [Int.toNat_natCast]
      exact ⟨WP.sz2, k.new e1⟩
    | ed b w f s =>
      have k : WP.RetT [.str (SX.S (l.drop b.length)), .str (SX.S (l.take b.length))] H Q := k
      have hb := ho.2.2.1.ln
      k_updF
      refine WP.ixT hp WP.at0 ?_
      k_updF
      refine WP.brT (by decide) ?_
      k_updF
      refine WP.ixT hp WP.at1 ?_
      k_updF
      refine WP.lenS' (by rw [sizeLine_eq]; omega) ?_
      k_updF
      refine WP.slFrom (by omega) hz ?_
      k_updF
      refine WP.slTo (by omega) hz ?_
      k_updF
      rw [Int.toNat_natCast]
      exact ⟨WP.sz2, k.new e1⟩
end
abbrev s__likely_units : Stmt := top 37
abbrev N__likely_units : List Str := ["picture", "text", "sign", "body", "marks", "digits", "units", "mark", "character"]
theorem sc__likely_units : FnScope N__likely_units ["picture", "text"] (defScope s__likely_units) := ⟨rfl, rfl, rfl, by decide +kernel, rfl, by decide +kernel, by decide +kernel⟩
def sp__likely_units (K : PySem.W.Frag) (mg : WP.MG) : Sp := fun vs H Q _ => ∃ (p : Addr) (pic : MP.Pic) (l : List Nat), vs = [.ref p, .str (SX.S l)] ∧ SqT K H p pic.vs ∧ pic.Ok ∧ l.length = MF.siz pic ∧ (∀ c ∈ l, c < 128) ∧ GxR.TabG H (WP.tbl K "is_printable") ∧ WP.MetV (.int (MF.likely pic l)) H Q
section
variable {P : Program} {w : World} {K : PySem.W.Frag} {mg : Str → Option Value} {base : Heap}
theorem ok__likely_units {f : Addr} {fd : FuncData} (F : Fun K "_likely_units" "_likely_units" s__likely_units f fd) (B : Blt w K mg) (c__sign_and_body : WP.Callee P w K mg base CX0 4 "_sign_and_body" ["picture", "text"] (sp__sign_and_body K mg)) : FnOk P w K mg base CX0 5 f fd ["picture", "text"] (sp__likely_units K mg) := by
  refine F.ok sc__likely_units (fun vs H Q E h => ?_) (fun cdv A outer s H vs Q E hr h => ?_)
  · first | (obtain ⟨_, rfl, _⟩ := h; rfl) | (obtain ⟨_, _, rfl, _⟩ := h; rfl) | (obtain ⟨_, _, _, rfl, _⟩ := h; rfl) | (obtain ⟨_, _, _, _, rfl, _⟩ := h; rfl) | (obtain ⟨_, _, _, _, _, rfl, _⟩ := h; rfl) | (obtain ⟨_, _, _, _, _, _, rfl, _⟩ := h; rfl) | (obtain ⟨_, _, _, _, _, _, _, rfl, _⟩ := h; rfl) | (obtain ⟨_, _, _, _, _, _, _, _, rfl, _⟩ := h; rfl) | (obtain ⟨rfl, _⟩ := h; rfl)
  · obtain ⟨p, pic, l, rfl, hp, ho, hl, ok, hT, k⟩ := h
    refine ⟨_, (pss_cons (ps_asg (WP.pe_callC c__sign_and_body hr rfl pass0 (WP.pa_consN (pv 0) (WP.pa_consN (pv 1) pa_nil))) (pg_tup (by rfl) (pgs_cons (pg_name (i := 2) sc__likely_units.nd rfl (Or.inl rfl)) (pgs_cons (pg_name (i := 3) sc__likely_units.nd rfl (Or.inl rfl)) pgs_nil))))
      (Evl.pss_cut (ps_set (i := 4) sc__likely_units.nd rfl (Or.inl rfl) (pe_ifExp (pt_cmpR op_eq (pe_ix ix_tup (pv 0) pe_int (fun _ _ => rfl)) (WP.pe_strL [101, 100, 105, 116, 101, 100] (by decide +kernel)) (nomark _)) (pe_ix ix_tup (pv 0) pe_int (fun _ _ => rfl)) (pe_op WP.op_mul_str (WP.pe_strL [57] (by decide +kernel)) (pe_callB WP.c_len (by rfl) B.b_len (by decide +kernel) (WP.pa_consN (pv 3) pa_nil)))))
      (pss_cons (ps_setLc (i := 5) (own := [("mark", 7), ("character", 8)]) (g := gTup K 2 (gCons (gName 7) (gCons (gName 8) gNil))) rfl sc__likely_units.nd rfl rfl (sw_true rfl rfl rfl (by decide +kernel)) (WZ.pi_zipS (by rfl) B.b_zip (WP.pa_consN (pv 4) (WP.pa_consN (pv 3) pa_nil))) (blkOk_by (own := [("mark", 7), ("character", 8)]) (N := N__likely_units) (sc := defScope s__likely_units) (by decide +kernel)) (fun _ _ _ _ _ => pg_tup (by rfl) (pgs_cons (pg_name (i := 7) sc__likely_units.nd rfl (Or.inl rfl)) (pgs_cons (pg_name (i := 8) sc__likely_units.nd rfl (Or.inl rfl)) pgs_nil))) (fun _ _ _ _ _ => (pts_one (pt_cmpR (WP.op_inK (K := K) rfl) (pv 7) (WP.pe_ktupK (by rfl) B.c_DIGIT_MARKS rfl rfl) rfl))) (fun _ _ _ _ _ => (pv 8)))
      (pss_cons (ps_set (i := 6) sc__likely_units.nd rfl (Or.inl rfl) (pe_callTy WP.c_intS (by rfl) B.b_int (by decide +kernel) (WP.pa_consN (pe_bm PySem.F.plainAttrs_str PySem.F.slot_str_join PySem.F.type_str_join mt_join (WP.pe_strL [] (by decide +kernel)) (WP.pa_consN (pe_lc (own := [("character", 8)]) (g := gName 8) (tt := tYes) rfl sc__likely_units.nd (pi_list (pv 5)) (blkOk_by (own := [("character", 8)]) (N := N__likely_units) (sc := defScope s__likely_units) (by decide +kernel)) (fun _ _ _ _ _ => pg_name (i := 8) sc__likely_units.nd rfl (Or.inl rfl)) (fun _ _ _ _ _ => pts_nil) (fun _ _ _ _ _ => (pe_ifExp (pt_cmpR WP.op_inSign (pv 8) (WP.pe_const (by rfl) B.c_FIGURES) rfl) (pv 8) (WP.pe_strL [48] (by decide +kernel))))) pa_nil)) pa_nil)))
      (pss_one (ps_ret (pe_ifExp (pt_cmpR op_in_seq (pv 2) (WP.pe_ktup (by rfl) B.c_NEGATIVE_SIGNS) rfl) (pe_un un_neg (pv 6)) (pv 6)))))))), ?_⟩
    obtain ⟨b1, _, b3⟩ := MF.body_ok ho hl
    have fl := MF.figs_ok ho hl
    have hn := ho.n1
    have hsz := MF.siz_le ho
    k_updF
    refine ⟨p, pic, l, rfl, hp, ho, by omega, fun T H1 e1 hTp => ?_⟩
    refine WP.unT (SqT.of hTp) rfl ?_
    have hp := WP.sqt e1 hp
    have okb : ∀ c ∈ MF.cutB pic l, c < 128 := fun c hc => ok c (MF.cutB_mem hc)
    have fd := MF.lk_dig (MF.mks pic (MF.cutB pic l)) (MF.cutB pic l)
    unfold MF.likely at k
    generalize MF.cutS pic l = sg at *
    generalize MF.cutB pic l = bd at *
    have hbz : bd.length ≤ sizeLine := by rw [sizeLine_eq]; omega
    k_updF
    refine WP.cut (fun σ' H' => H' = H1 ∧ σ' = [some (.ref p), some (.str (SX.S l)), some (.str (SX.S sg)), some (.str (SX.S bd)), some (.str (SX.S (MF.mks pic bd))), none, none, none, none]) ?_ ?_
    · cases pic with
      | num s1 w f =>
        k_updF
        refine WP.ixT hp WP.at0 ?_
        k_updF
        refine WP.brF (by decide) ?_
        k_updF
        refine WP.lenS' hbz ?_
        refine WP.mulS (by omega) (by omega) ?_
        k_updF
        rw [Int.toNat_natCast]
        exact ⟨rfl, rfl⟩
      | ed m w f s1 =>
        k_updF
        refine WP.ixT hp WP.at0 ?_
        k_updF
        refine WP.brT (by decide) ?_
        k_updF
        refine WP.ixT hp WP.at1 ?_
        k_updF
        exact ⟨rfl, rfl⟩
    rintro σ' H' ⟨rfl, rfl⟩
    generalize MF.mks pic bd = mk at *
    k_updF
    refine ⟨_, _, rfl, fun D hD => WP.lc_zipS b1 (fun i Hx => Same H Hx ∧ Hx D = some (.lst ((MF.raw (mk.take i) (bd.take i)).map fun c => V.str (SX.S [c])))) ⟨e1.trans (WP.same_new hD), upd_same⟩ ?_ ?_⟩
    · rintro i c d T2 Hx hc hd ⟨eS, hDx⟩ hT2
      obtain ⟨hil, _⟩ := List.getElem?_eq_some_iff.mp hc
      have hDx2 : upd Hx T2 (.tup [.str (SX.S [c]), .str (SX.S [d])]) D = some (.lst ((MF.raw (mk.take i) (bd.take i)).map fun c => V.str (SX.S [c]))) := by rw [upd_ne (ne_of_none hDx hT2)]; exact hDx
      have eS2 : Same H (upd Hx T2 (.tup [.str (SX.S [c]), .str (SX.S [d])])) := eS.trans (WP.same_new hT2)
      refine WP.unT (SqT.of upd_same) rfl ?_
      generalize upd Hx T2 _ = H3 at *
      k_updF
      refine ⟨rfl, ?_⟩
      k_updF
      refine WP.inT [[122], [42], [57]] (B.c_DIGIT_MARKS.s _) rfl ?_
      rw [MP.memD]
      k_updF
      have rl : (MF.raw (mk.take i) (bd.take i)).length ≤ 64 := by
        have := congrArg List.length (MF.raw_lk (mk.take i) (bd.take i))
        rw [List.length_map] at this
        rw [this, MF.lk_len _ _ (by rw [List.length_take, List.length_take, b1])]
        have := List.length_filter_le MP.isD (mk.take i)
        rw [List.length_take] at this
        omega
      cases hDc : MP.isD c with
      | true =>
        refine WP.brT rfl ?_
        k_updF
        refine ⟨_, hDx2, by rw [List.length_map, sizeLine_eq]; omega, WP.same_mut eS2 (e1.free hD), ?_⟩
        rw [upd_same, MF.raw_take hc hd, if_pos hDc, List.map_append]
        rfl
      | false =>
        refine WP.brF rfl ?_
        refine ⟨eS2, ?_⟩
        rw [hDx2, MF.raw_take hc hd, if_neg (by rw [hDc]; exact Bool.false_ne_true), List.append_nil]
    rintro Hx ⟨eS, hDx⟩
    rw [List.take_length, b1, List.take_length] at hDx
    have erl := MF.raw_lk mk bd
    have rl := congrArg List.length erl
    rw [List.length_map] at rl
    k_updF
    refine ⟨D, rfl, ⟨_, SqL.of hDx⟩, fun D2 hD2 => lc_list (K := K) (a := D) (xs := (MF.raw mk bd).map fun c => V.str (SX.S [c])) (fun i Hy => Same Hx Hy ∧ Hy D2 = some (.lst (((MF.raw mk bd).take i).map fun c => V.str (SX.S [MF.fx c])))) ⟨WP.same_new hD2, upd_same⟩ (fun i Hy _ h => WP.sql h.1 (SqL.of hDx)) ?_ ?_⟩
    · rintro i x Hy hix ⟨eT, hDy⟩
      rw [List.getElem?_map] at hix
      obtain ⟨c, hc, rfl⟩ : ∃ c, (MF.raw mk bd)[i]? = some c ∧ V.str (SX.S [c]) = x := by
        cases e : (MF.raw mk bd)[i]? with
        | none => rw [e] at hix; cases hix
        | some p => rw [e] at hix; exact ⟨p, rfl, Option.some.inj hix⟩
      have et : (MF.raw mk bd).take (i + 1) = (MF.raw mk bd).take i ++ [c] := by rw [List.take_succ, hc]; rfl
      have hln : (((MF.raw mk bd).take i).map fun c => V.str (SX.S [MF.fx c])).length < sizeLine := by rw [List.length_map, List.length_take, sizeLine_eq]; omega
      k_updF
      refine ⟨rfl, ?_⟩
      refine WP.yes ?_
      k_updF
      refine WP.inSign ?_
      k_updF
      refine WP.br (fun c1 => ?_) (fun c1 => ?_)
      · k_updF
        refine ⟨_, hDy, hln, WP.same_mut eT hD2, ?_⟩
        rw [upd_same, et, List.map_append, List.map_cons, List.map_nil, show MF.fx c = c from if_pos ((MF.fig_mem c).mp c1)]
      · k_updF
        refine ⟨_, hDy, hln, WP.same_mut eT hD2, ?_⟩
        rw [upd_same, et, List.map_append, List.map_cons, List.map_nil, show MF.fx c = 48 from if_neg (fun z => c1 ((MF.fig_mem c).mpr z))]
    rintro Hy ⟨eT, hDy⟩
    rw [List.length_map, List.take_length] at hDy
    k_updF
    refine ⟨SX.S [], D2, ((MF.lk mk bd).map fun c => [c]).map SX.S, rfl, rfl, .inl (SqL.of ?_), ?_, ?_⟩
    · rw [hDy, ← erl, List.map_map, List.map_map, List.map_map]
      rfl
    · rw [SX.lens, SX.S_len, List.length_nil, Nat.mul_zero, Nat.add_zero, List.map_map, MF.sum1]
      omega
    rw [WP.join_nilS, MF.flat1]
    k_updF
    refine WP.intSd (MF.dig_all fd) (fun z => by rw [z] at fl; simp at fl; omega) (by omega) ?_
    k_updF
    refine WP.inT [[45], [67, 82], [68, 66]] (B.c_NEGATIVE_SIGNS.s _) rfl ?_
    k_updF
    refine WP.br (fun c => ?_) (fun c => ?_)
    · rw [if_pos (show sg ∈ MF.NEG from c)] at k
      k_updF
      exact k _ (.of (eS.trans eT))
    · rw [if_neg (show ¬ sg ∈ MF.NEG from c)] at k
      k_updF
      exact k _ (.of (eS.trans eT))
end
abbrev s__sign_marks : Stmt := top 20
abbrev N__sign_marks : List Str := ["sign"]
theorem sc__sign_marks : FnScope N__sign_marks ["sign"] (defScope s__sign_marks) := ⟨rfl, rfl, rfl, by decide +kernel, rfl, by decide +kernel, by decide +kernel⟩
def sp__sign_marks (K : PySem.W.Frag) (mg : WP.MG) : Sp := fun vs H Q _ => ∃ l : List Nat, vs = [.str (SX.S l)] ∧ l.length ≤ 100 ∧ Q (.str (SX.S (MR.sgm l))) H
section
variable {P : Program} {w : World} {K : PySem.W.Frag} {mg : Str → Option Value} {base : Heap}
theorem ok__sign_marks {f : Addr} {fd : FuncData} (F : Fun K "_sign_marks" "_sign_marks" s__sign_marks f fd) (B : Blt w K mg)  : FnOk P w K mg base CX0 1 f fd ["sign"] (sp__sign_marks K mg) := by
  refine WT.okS F sc__sign_marks (by decide +kernel) (by decide) (fun vs H Q E h => ?_) (fun cdv A outer s H vs Q E hr h => ?_)
  · first | (obtain ⟨_, rfl, _⟩ := h; rfl) | (obtain ⟨_, _, rfl, _⟩ := h; rfl) | (obtain ⟨_, _, _, rfl, _⟩ := h; rfl) | (obtain ⟨_, _, _, _, rfl, _⟩ := h; rfl) | (obtain ⟨_, _, _, _, _, rfl, _⟩ := h; rfl) | (obtain ⟨_, _, _, _, _, _, rfl, _⟩ := h; rfl) | (obtain ⟨_, _, _, _, _, _, _, rfl, _⟩ := h; rfl) | (obtain ⟨_, _, _, _, _, _, _, _, rfl, _⟩ := h; rfl) | (obtain ⟨rfl, _⟩ := h; rfl)
  · obtain ⟨l, rfl, hl, k⟩ := h
    refine ⟨_, (WT.ss_one (WT.s_ret (WT.e_replC (pv 0)))), ?_⟩
    refine WP.ret (WT.repl (WP.var rfl ⟨_, rfl, ?_, ?_⟩))
    · rw [MT.empty_len, SX.S_len]; omega
    rw [MT.repl_dot]
    exact k
end
abbrev s_size_of : Stmt := top 17
abbrev N_size_of : List Str := ["picture", "_", "signed", "whole", "fraction"]
theorem sc_size_of : FnScope N_size_of ["picture"] (defScope s_size_of) := ⟨rfl, rfl, rfl, by decide +kernel, rfl, by decide +kernel, by decide +kernel⟩
def sp_size_of (K : PySem.W.Frag) (mg : WP.MG) : Sp := fun vs H Q _ => ∃ (p : Addr) (r : MR.Res), vs = [.ref p] ∧ SqT K H p r.vs ∧ (∀ b w f s, r = .pic (.ed b w f s) → b.length ≤ 1000 ∧ s.length ≤ 100) ∧ Q (.int (MR.sizT r : Int)) H
section
variable {P : Program} {w : World} {K : PySem.W.Frag} {mg : Str → Option Value} {base : Heap}
theorem ok_size_of {f : Addr} {fd : FuncData} (F : Fun K "size_of" "size_of" s_size_of f fd) (B : Blt w K mg) (c__sign_marks : WP.Callee P w K mg base CX0 1 "_sign_marks" ["sign"] (sp__sign_marks K mg)) : FnOk P w K mg base CX0 2 f fd ["picture"] (sp_size_of K mg) := by
  refine F.ok sc_size_of (fun vs H Q E h => ?_) (fun cdv A outer s H vs Q E hr h => ?_)
  · first | (obtain ⟨_, rfl, _⟩ := h; rfl) | (obtain ⟨_, _, rfl, _⟩ := h; rfl) | (obtain ⟨_, _, _, rfl, _⟩ := h; rfl) | (obtain ⟨_, _, _, _, rfl, _⟩ := h; rfl) | (obtain ⟨_, _, _, _, _, rfl, _⟩ := h; rfl) | (obtain ⟨_, _, _, _, _, _, rfl, _⟩ := h; rfl) | (obtain ⟨_, _, _, _, _, _, _, rfl, _⟩ := h; rfl) | (obtain ⟨_, _, _, _, _, _, _, _, rfl, _⟩ := h; rfl) | (obtain ⟨rfl, _⟩ := h; rfl)
  · obtain ⟨p, r, rfl, hp, hb, k⟩ := h
    refine ⟨_, (pss_cons (ps_if (pt_cmpR op_eq (pe_ix ix_tup (pv 0) pe_int (fun _ _ => rfl)) (WP.pe_strL [116, 101, 120, 116] (by decide +kernel)) (nomark _)) (pss_one (ps_ret (pe_ix ix_tup (pv 0) pe_int (fun _ _ => rfl)))) pss_nil)
      (pss_cons (ps_if (pt_cmpR op_eq (pe_ix ix_tup (pv 0) pe_int (fun _ _ => rfl)) (WP.pe_strL [110, 117, 109, 98, 101, 114] (by decide +kernel)) (nomark _)) (pss_cons (ps_asg (pv 0) (pg_tup (by rfl) (pgs_cons (pg_name (i := 1) sc_size_of.nd rfl (Or.inl rfl)) (pgs_cons (pg_name (i := 2) sc_size_of.nd rfl (Or.inl rfl)) (pgs_cons (pg_name (i := 3) sc_size_of.nd rfl (Or.inl rfl)) (pgs_cons (pg_name (i := 4) sc_size_of.nd rfl (Or.inl rfl)) pgs_nil))))))
      (pss_one (ps_ret (pe_op op_add (pe_op op_add (pv 3) (pv 4)) (pe_ifExp (pt_val (pv 2)) pe_int pe_int))))) pss_nil)
      (pss_one (ps_ret (pe_op op_add (pe_callB WP.c_len (by rfl) B.b_len (by decide +kernel) (WP.pa_consN (pe_ix ix_tup (pv 0) pe_int (fun _ _ => rfl)) pa_nil)) (pe_callB WP.c_len (by rfl) B.b_len (by decide +kernel) (WP.pa_consN (WP.pe_callC c__sign_marks hr rfl pass0 (WP.pa_consN (pe_ix ix_tup (pv 0) pe_int (fun _ _ => rfl)) pa_nil)) pa_nil))))))), ?_⟩
    cases r with
    | txt n =>
      k_updF
      refine WP.ixT hp WP.at0 ?_
      k_updF
      refine WP.brT rfl ?_
      k_updF
      refine WP.ixT hp WP.at1 ?_
      exact k
    | pic q =>
      cases q with
      | num sg w f =>
        have hp : SqT K H p [V.str (SX.S [110, 117, 109, 98, 101, 114]), .bl sg, .int (w : Int), .int (f : Int)] := hp
        k_updF
        refine WP.ixT hp WP.at0 ?_
        k_updF
        refine WP.brF rfl ?_
        k_updF
        refine WP.ixT hp WP.at0 ?_
        k_updF
        refine WP.brT rfl ?_
        k_updF
        refine WP.unT hp rfl ?_
        k_updF
        cases sg with
        | true =>
          refine WP.brT rfl ?_
          k_updF
          have k : Q (.int ((w + f + 1 : Nat) : Int)) H := k
          rw [show ((w : Int) + (f : Int) + 1) = ((w + f + 1 : Nat) : Int) by omega]
          exact k
        | false =>
          refine WP.brF rfl ?_
          k_updF
          have k : Q (.int ((w + f + 0 : Nat) : Int)) H := k
          rw [show ((w : Int) + (f : Int) + 0) = ((w + f + 0 : Nat) : Int) by omega]
          exact k
      | ed b w f s =>
        obtain ⟨b1, s1⟩ := hb b w f s rfl
        have hs := MR.sgm_len s
        k_updF
        refine WP.ixT hp WP.at0 ?_
        k_updF
        refine WP.brF rfl ?_
        k_updF
        refine WP.ixT hp WP.at0 ?_
        k_updF
        refine WP.brF rfl ?_
        k_updF
        refine WP.ixT hp WP.at1 ?_
        k_updF
        refine WP.lenS' (by rw [sizeLine_eq]; omega) ?_
        k_updF
        refine WP.ixT hp WP.at4 ?_
        k_updF
        refine ⟨s, rfl, by omega, ?_⟩
        k_updF
        refine WP.lenS' (by rw [sizeLine_eq]; omega) ?_
        k_updF
        have k : Q (.int ((b.length + (MR.sgm s).length : Nat) : Int)) H := k
        rw [show ((b.length : Int) + ((MR.sgm s).length : Int)) = ((b.length + (MR.sgm s).length : Nat) : Int) by omega]
        exact k
end
abbrev s_reading : Stmt := top 28
abbrev N_reading : List Str := ["picture", "text", "units"]
theorem sc_reading : FnScope N_reading ["picture", "text"] (defScope s_reading) := ⟨rfl, rfl, rfl, by decide +kernel, rfl, by decide +kernel, by decide +kernel⟩
def sp_reading (K : PySem.W.Frag) (mg : WP.MG) : Sp := fun vs H Q _ => ∃ (p : Addr) (pic : MP.Pic) (l : List Nat), vs = [.ref p, .str (SX.S l)] ∧ SqT K H p pic.vs ∧ pic.Ok ∧ l.length ≤ 1000 ∧ (∀ c ∈ l, c < 128) ∧ GxR.TabG H (WP.tbl K "is_printable") ∧ WP.MetV (MF.rdV (MF.rd pic l)) H Q
section
variable {P : Program} {w : World} {K : PySem.W.Frag} {mg : Str → Option Value} {base : Heap}
theorem ok_reading {f : Addr} {fd : FuncData} (F : Fun K "reading" "reading" s_reading f fd) (B : Blt w K mg) (c__likely_units : WP.Callee P w K mg base CX0 5 "_likely_units" ["picture", "text"] (sp__likely_units K mg)) (c_size_of : WP.Callee P w K mg base CX0 2 "size_of" ["picture"] (sp_size_of K mg)) (c_written : WP.Callee P w K mg base (L2.CX P w) 4 "written" ["picture", "units"] (sp_written K mg)) : FnOk P w K mg base CX0 6 f fd ["picture", "text"] (sp_reading K mg) := by
  refine F.ok sc_reading (fun vs H Q E h => ?_) (fun cdv A outer s H vs Q E hr h => ?_)
  · first | (obtain ⟨_, rfl, _⟩ := h; rfl) | (obtain ⟨_, _, rfl, _⟩ := h; rfl) | (obtain ⟨_, _, _, rfl, _⟩ := h; rfl) | (obtain ⟨_, _, _, _, rfl, _⟩ := h; rfl) | (obtain ⟨_, _, _, _, _, rfl, _⟩ := h; rfl) | (obtain ⟨_, _, _, _, _, _, rfl, _⟩ := h; rfl) | (obtain ⟨_, _, _, _, _, _, _, rfl, _⟩ := h; rfl) | (obtain ⟨_, _, _, _, _, _, _, _, rfl, _⟩ := h; rfl) | (obtain ⟨rfl, _⟩ := h; rfl)
  · obtain ⟨p, pic, l, rfl, hp, ho, hl, ok, hT, k⟩ := h
    refine ⟨_, (pss_cons (ps_if (pt_cmpR op_ne (pe_callB WP.c_len (by rfl) B.b_len (by decide +kernel) (WP.pa_consN (pv 1) pa_nil)) (WP.pe_callC c_size_of hr rfl pass0 (WP.pa_consN (pv 0) pa_nil)) (nomark _)) (pss_one (ps_ret pe_non)) pss_nil)
      (pss_cons (ps_set (i := 2) sc_reading.nd rfl (Or.inl rfl) (WP.pe_callC c__likely_units hr rfl pass0 (WP.pa_consN (pv 0) (WP.pa_consN (pv 1) pa_nil))))
      (pss_one (ps_ret (pe_ifExp (pt_cmpR op_eq (WP.pe_callC c_written hr rfl WP.pass0X (WP.pa_consN (pv 0) (WP.pa_consN (pv 2) pa_nil))) (pv 1) (nomark _)) (pv 2) pe_non))))), ?_⟩
    have hz : l.length ≤ sizeLine := by rw [sizeLine_eq]; omega
    unfold MF.rd at k
    k_updF
    refine WP.lenS' hz ?_
    k_updF
    refine ⟨p, .pic pic, rfl, hp, fun b w f s e => ?_, ?_⟩
    · cases e
      have := ho.2.2.1.ln
      exact ⟨by omega, Nat.le_trans (show s.length ≤ 2 from (show ∀ s ∈ MP.signs, s.length ≤ 2 by decide) s ho.2.2.2) (by decide)⟩
    k_updF
    refine WP.brN (fun c => ?_) (fun c => ?_)
    · have c : ¬ l.length = MF.siz pic := fun e => c (congrArg Nat.cast e)
      rw [if_neg (fun z => c z.1)] at k
      k_updF
      exact k _ (.refl _)
    have c : l.length = MF.siz pic := Int.ofNat.inj c
    k_updF
    refine ⟨p, pic, l, rfl, hp, ho, c, ok, hT, fun H1 e1 => ?_⟩
    k_updF
    refine ⟨p, pic, _, rfl, e1.tup hp, ho, fun z => absurd (MF.likely_suits ho c) z, fun _ H2 e2 => ?_⟩
    k_updF
    refine WP.br (fun d => ?_) (fun d => ?_)
    · rw [if_pos ⟨c, d⟩] at k
      k_updF
      exact k _ (e1.trans (.of e2))
    · rw [if_neg (fun z => d z.2)] at k
      k_updF
      exact k _ (e1.trans (.of e2))
end
abbrev s_normal : Stmt := top 11
abbrev N_normal : List Str := ["units", "scale"]
theorem sc_normal : FnScope N_normal ["units", "scale"] (defScope s_normal) := ⟨rfl, rfl, rfl, by decide +kernel, rfl, by decide +kernel, by decide +kernel⟩
def sp_normal (K : PySem.W.Frag) (mg : WP.MG) : Sp := fun vs H Q _ => ∃ u s : Int, vs = [.int u, .int s] ∧ 0 ≤ s ∧ WP.RetT (WP.dv (MD.nrm u s.toNat).1 (MD.nrm u s.toNat).2) H Q
section
variable {P : Program} {w : World} {K : PySem.W.Frag} {mg : Str → Option Value} {base : Heap}
theorem ok_normal {f : Addr} {fd : FuncData} (F : Fun K "normal" "normal" s_normal f fd) (B : Blt w K mg)  : FnOk P w K mg base CX0 1 f fd ["units", "scale"] (sp_normal K mg) := by
  refine F.ok sc_normal (fun vs H Q E h => ?_) (fun cdv A outer s H vs Q E hr h => ?_)
  · first | (obtain ⟨_, rfl, _⟩ := h; rfl) | (obtain ⟨_, _, rfl, _⟩ := h; rfl) | (obtain ⟨_, _, _, rfl, _⟩ := h; rfl) | (obtain ⟨_, _, _, _, rfl, _⟩ := h; rfl) | (obtain ⟨_, _, _, _, _, rfl, _⟩ := h; rfl) | (obtain ⟨_, _, _, _, _, _, rfl, _⟩ := h; rfl) | (obtain ⟨_, _, _, _, _, _, _, rfl, _⟩ := h; rfl) | (obtain ⟨_, _, _, _, _, _, _, _, rfl, _⟩ := h; rfl) | (obtain ⟨rfl, _⟩ := h; rfl)
  · obtain ⟨u, s', rfl, hs, k⟩ := h
    refine ⟨_, (pss_cons (ps_while PassesOwn.never (PW.pt (pw_and (pt_cmpR op_gt (pv 1) pe_int (nomark _)) (pw_and1 (pt_cmpR op_eq (pe_op op_mod (pv 0) pe_int) pe_int (nomark _))))) (pss_cons (ps_set (i := 0) sc_normal.nd rfl (Or.inl rfl) (pe_op op_fdiv (pv 0) pe_int))
      (pss_one (ps_set (i := 1) sc_normal.nd rfl (Or.inl rfl) (pe_op op_sub (pv 1) pe_int)))))
      (pss_one (ps_ret (pe_tup (WP.pa_consN (pv 0) (WP.pa_consN (pv 1) pa_nil)))))), ?_⟩
    k_updF
    refine ⟨fun m σ H' => ∃ (a : Int) (n : Nat), σ = [some (.int a), some (.int (n : Int))] ∧ H' = H ∧ n = m ∧ MD.nrm a n = MD.nrm u s'.toNat, ⟨s'.toNat, u, s'.toNat, by rw [Int.toNat_of_nonneg hs]; rfl, rfl, rfl, rfl⟩, ?_⟩
    rintro m σ H' ⟨a, n, rfl, rfl, rfl, e⟩
    k_updF
    refine WP.br (fun c => ?_) (fun c => ?_)
    · k_updF
      refine WP.iC (show (0 : Int) < 10 by decide) ?_
      k_updF
      obtain ⟨n', rfl⟩ : ∃ n', n = n' + 1 := ⟨n - 1, by omega⟩
      refine WP.br (fun z => ?_) (fun z => ?_)
      · refine ⟨fun σ' H2 => ∃ m', m' < n' + 1 ∧ ∃ (a : Int) (n : Nat), σ' = [some (.int a), some (.int (n : Int))] ∧ H2 = H' ∧ n = m' ∧ MD.nrm a n = MD.nrm u s'.toNat, fun _ _ x => x, ?_⟩
        k_updF
        refine WP.iC ⟨by decide, by decide⟩ ?_
        k_updF
        refine ⟨n', by omega, a / 10, n', ?_, rfl, rfl, ?_⟩
        · rw [show ((n' + 1 : Nat) : Int) - 1 = (n' : Int) by omega]; rfl
        · rw [← e]
          show _ = if a % 10 = 0 then _ else _
          rw [if_pos z]
      · k_updF
        refine ⟨by show 2 ≤ sizeLine; exact WP.sz2, ?_⟩
        rw [← e, MD.nrm_self (.inr z)] at k
        exact k.new (Same.refl _)
    · k_updF
      obtain rfl : n = 0 := by omega
      refine WP.brF rfl ?_
      k_updF
      refine ⟨WP.sz2, ?_⟩
      rw [← e] at k
      exact k.new (Same.refl _)
end
abbrev s_value_of : Stmt := top 30
abbrev N_value_of : List Str := ["picture", "text", "_", "fraction", "units"]
theorem sc_value_of : FnScope N_value_of ["picture", "text"] (defScope s_value_of) := ⟨rfl, rfl, rfl, by decide +kernel, rfl, by decide +kernel, by decide +kernel⟩
def sp_value_of (K : PySem.W.Frag) (mg : WP.MG) : Sp := fun vs H Q E => ∃ (p : Addr) (pic : MP.Pic) (l : List Nat), vs = [.ref p, .str (SX.S l)] ∧ SqT K H p pic.vs ∧ pic.Ok ∧ l.length ≤ 1000 ∧ (∀ c ∈ l, c < 128) ∧ GxR.TabG H (WP.tbl K "is_printable") ∧
  (MF.rd pic l = none → ∀ H', WP.Sm H H' → E (.ref (WP.ca mg "BadPicture")) none H') ∧ ∀ u, MF.rd pic l = some u → WP.MetT (WP.dv (MD.nrm u pic.fr).1 (MD.nrm u pic.fr).2) H Q
section
variable {P : Program} {w : World} {K : PySem.W.Frag} {mg : Str → Option Value} {base : Heap}
theorem ok_value_of {f : Addr} {fd : FuncData} (F : Fun K "value_of" "value_of" s_value_of f fd) (B : Blt w K mg) (c_digits_in : WP.Callee P w K mg base CX0 1 "digits_in" ["picture"] (sp_digits_in K mg)) (c_reading : WP.Callee P w K mg base CX0 6 "reading" ["picture", "text"] (sp_reading K mg)) (c_normal : WP.Callee P w K mg base CX0 1 "normal" ["units", "scale"] (sp_normal K mg)) : FnOk P w K mg base (L2.CX P w) 7 f fd ["picture", "text"] (sp_value_of K mg) := by
  refine F.okX sc_value_of (fun vs H Q E h => ?_) (fun cdv A outer s H vs Q E hr h => ?_)
  · first | (obtain ⟨_, rfl, _⟩ := h; rfl) | (obtain ⟨_, _, rfl, _⟩ := h; rfl) | (obtain ⟨_, _, _, rfl, _⟩ := h; rfl) | (obtain ⟨_, _, _, _, rfl, _⟩ := h; rfl) | (obtain ⟨_, _, _, _, _, rfl, _⟩ := h; rfl) | (obtain ⟨_, _, _, _, _, _, rfl, _⟩ := h; rfl) | (obtain ⟨_, _, _, _, _, _, _, rfl, _⟩ := h; rfl) | (obtain ⟨_, _, _, _, _, _, _, _, rfl, _⟩ := h; rfl) | (obtain ⟨rfl, _⟩ := h; rfl)
  · obtain ⟨p, pic, l, rfl, hp, ho, hl, ok, hT, kE, k⟩ := h
    refine ⟨_, (pss_cons (ps_asg (WP.pe_callC c_digits_in hr rfl pass0 (WP.pa_consN (pv 0) pa_nil)) (pg_tup (by rfl) (pgs_cons (pg_name (i := 2) sc_value_of.nd rfl (Or.inl rfl)) (pgs_cons (pg_name (i := 3) sc_value_of.nd rfl (Or.inl rfl)) pgs_nil))))
      (pss_cons (ps_set (i := 4) sc_value_of.nd rfl (Or.inl rfl) (WP.pe_callC c_reading hr rfl pass0 (WP.pa_consN (pv 0) (WP.pa_consN (pv 1) pa_nil))))
      (pss_cons (ps_if (pt_cmpR op_isN (pv 4) pe_non (nomark _)) (pss_one (WP.ps_raiseC rfl (takes_of rfl rfl rfl rfl) B.e_BadPicture (by exact rfl))) pss_nil)
      (pss_one (ps_ret (WP.pe_callC c_normal hr rfl pass0 (WP.pa_consN (pv 4) (WP.pa_consN (pv 3) pa_nil)))))))), ?_⟩
    k_updF
    refine ⟨p, pic, rfl, hp, fun T H1 e1 hTp => ?_⟩
    refine WP.unT (SqT.of hTp) rfl ?_
    k_updF
    refine ⟨p, pic, l, rfl, WP.sqt e1 hp, ho, hl, ok, (WP.Sm.of e1).t _ hT, fun H2 e2 => ?_⟩
    have e2 := (WP.Sm.of e1).trans e2
    k_updF
    refine ⟨rfl, ?_⟩
    cases hr' : MF.rd pic l with
    | none =>
      refine ⟨_, rfl, ?_⟩
      refine WP.brT rfl ?_
      exact kE hr' _ e2
    | some u =>
      refine ⟨_, rfl, ?_⟩
      refine WP.brF rfl ?_
      k_updF
      refine ⟨u, (pic.fr : Int), rfl, by omega, fun q H3 e3 hq => ?_⟩
      rw [Int.toNat_natCast] at hq
      exact k u hr' q H3 (e2.trans (.of e3)) hq
end
abbrev s_figures_of : Stmt := top 45
abbrev N_figures_of : List Str := ["picture", "text"]
theorem sc_figures_of : FnScope N_figures_of ["picture", "text"] (defScope s_figures_of) := ⟨rfl, rfl, rfl, by decide +kernel, rfl, by decide +kernel, by decide +kernel⟩
def sp_figures_of (K : PySem.W.Frag) (mg : WP.MG) : Sp := fun vs H Q _ => ∃ (p : Addr) (pic : MP.Pic) (l : List Nat), vs = [.ref p, .str (SX.S l)] ∧ SqT K H p pic.vs ∧ l.length ≤ 5000 ∧ Q (.str (SX.S (if pic.sgd = true then l.drop 1 else l))) H
section
variable {P : Program} {w : World} {K : PySem.W.Frag} {mg : Str → Option Value} {base : Heap}
theorem ok_figures_of {f : Addr} {fd : FuncData} (F : Fun K "figures_of" "figures_of" s_figures_of f fd) (B : Blt w K mg) (c_is_signed : WP.Callee P w K mg base CX0 1 "is_signed" ["picture"] (sp_is_signed K mg)) : FnOk P w K mg base CX0 2 f fd ["picture", "text"] (sp_figures_of K mg) := by
  refine F.ok sc_figures_of (fun vs H Q E h => ?_) (fun cdv A outer s H vs Q E hr h => ?_)
  · first | (obtain ⟨_, rfl, _⟩ := h; rfl) | (obtain ⟨_, _, rfl, _⟩ := h; rfl) | (obtain ⟨_, _, _, rfl, _⟩ := h; rfl) | (obtain ⟨_, _, _, _, rfl, _⟩ := h; rfl) | (obtain ⟨_, _, _, _, _, rfl, _⟩ := h; rfl) | (obtain ⟨_, _, _, _, _, _, rfl, _⟩ := h; rfl) | (obtain ⟨_, _, _, _, _, _, _, rfl, _⟩ := h; rfl) | (obtain ⟨_, _, _, _, _, _, _, _, rfl, _⟩ := h; rfl) | (obtain ⟨rfl, _⟩ := h; rfl)
  · obtain ⟨p, pic, l, rfl, hp, hl, k⟩ := h
    refine ⟨_, (pss_one (ps_ret (pe_ifExp (pt_val (WP.pe_callC c_is_signed hr rfl pass0 (WP.pa_consN (pv 0) pa_nil))) (pe_slice sl_str (pv 1) (po_some pe_int) po_none) (pv 1)))), ?_⟩
    k_updF
    refine ⟨p, pic, rfl, hp, ?_⟩
    k_updF
    cases hs : pic.sgd with
    | true =>
      rw [if_pos hs] at k
      refine WP.brT rfl ?_
      k_updF
      exact WP.slFrom (by decide) (by rw [sizeLine_eq]; omega) k
    | false =>
      rw [if_neg (by rw [hs]; exact Bool.false_ne_true)] at k
      refine WP.brF rfl ?_
      k_updF
      exact k
end
abbrev s_moved : Stmt := top 41
abbrev N_moved : List Str := ["source", "content", "target", "text", "value"]
theorem sc_moved : FnScope N_moved ["source", "content", "target"] (defScope s_moved) := ⟨rfl, rfl, rfl, by decide +kernel, rfl, by decide +kernel, by decide +kernel⟩
def sp_moved (K : PySem.W.Frag) (mg : WP.MG) : Sp := fun vs H Q _ => ∃ (p q : Addr) (s t : MV.Side) (v : V) (c : MV.Cont), vs = [.ref p, v, .ref q] ∧ MV.SideAt K H p s ∧ MV.SideAt K H q t ∧ s.Ok ∧ t.Ok ∧ MV.Side.Tg t ∧ MV.cn s t = true ∧ MV.COk s c ∧ MV.ContAt K H v c ∧ GxR.TabG H (WP.tbl K "is_printable") ∧ WP.MetV (.str (SX.S (MV.mvT s t c))) H Q
section
variable {P : Program} {w : World} {K : PySem.W.Frag} {mg : Str → Option Value} {base : Heap}
theorem ok_moved {f : Addr} {fd : FuncData} (F : Fun K "moved" "moved" s_moved f fd) (B : Blt w K mg) (c_cut_to : WP.Callee P w K mg base CX0 5 "cut_to" ["target", "value"] (sp_cut_to K mg)) (c_padded : WP.Callee P w K mg base CX0 1 "padded" ["text", "size"] (sp_padded K mg)) (c_value_of : WP.Callee P w K mg base (L2.CX P w) 7 "value_of" ["picture", "text"] (sp_value_of K mg)) (c_figures_of : WP.Callee P w K mg base CX0 2 "figures_of" ["picture", "text"] (sp_figures_of K mg)) : FnOk P w K mg base CX0 8 f fd ["source", "content", "target"] (sp_moved K mg) := by
  refine F.ok sc_moved (fun vs H Q E h => ?_) (fun cdv A outer s H vs Q E hr h => ?_)
  · first | (obtain ⟨_, rfl, _⟩ := h; rfl) | (obtain ⟨_, _, rfl, _⟩ := h; rfl) | (obtain ⟨_, _, _, rfl, _⟩ := h; rfl) | (obtain ⟨_, _, _, _, rfl, _⟩ := h; rfl) | (obtain ⟨_, _, _, _, _, rfl, _⟩ := h; rfl) | (obtain ⟨_, _, _, _, _, _, rfl, _⟩ := h; rfl) | (obtain ⟨_, _, _, _, _, _, _, rfl, _⟩ := h; rfl) | (obtain ⟨_, _, _, _, _, _, _, _, rfl, _⟩ := h; rfl) | (obtain ⟨rfl, _⟩ := h; rfl)
  · obtain ⟨p, q, s, t, v, c, rfl, hp, hq, os, ot, tt, hcn, hc, hv, hT, k⟩ := h
    refine ⟨_, (pss_cons (ps_if (pt_cmpR op_eq (pe_ix ix_tup (pv 2) pe_int (fun _ _ => rfl)) (WP.pe_strL [103, 114, 111, 117, 112] (by decide +kernel)) (nomark _)) (pss_one (ps_ret (pv 1))) pss_nil)
      (pss_cons (ps_if (pt_cmpR op_eq (pe_ix ix_tup (pv 2) pe_int (fun _ _ => rfl)) (WP.pe_strL [116, 101, 120, 116] (by decide +kernel)) (nomark _)) (pss_cons (ps_set (i := 3) sc_moved.nd rfl (Or.inl rfl) (pe_ifExp (pt_cmpR op_eq (pe_ix ix_tup (pv 0) pe_int (fun _ _ => rfl)) (WP.pe_strL [110, 117, 109, 98, 101, 114] (by decide +kernel)) (nomark _)) (WP.pe_callC c_figures_of hr rfl pass0 (WP.pa_consN (pv 0) (WP.pa_consN (pv 1) pa_nil))) (pv 1)))
      (pss_one (ps_ret (WP.pe_callC c_padded hr rfl pass0 (WP.pa_consN (pv 3) (WP.pa_consN (pe_ix ix_tup (pv 2) pe_int (fun _ _ => rfl)) pa_nil)))))) pss_nil)
      (pss_cons (ps_set (i := 4) sc_moved.nd rfl (Or.inl rfl) (pe_ifExp (pt_cmpR op_eq (pe_ix ix_tup (pv 0) pe_int (fun _ _ => rfl)) (WP.pe_strL [100, 101, 99, 105, 109, 97, 108] (by decide +kernel)) (nomark _)) (pv 1) (WP.pe_callC c_value_of hr rfl WP.pass0X (WP.pa_consN (pv 0) (WP.pa_consN (pv 1) pa_nil)))))
      (pss_one (ps_ret (WP.pe_callC c_cut_to hr rfl pass0 (WP.pa_consN (pv 2) (WP.pa_consN (pv 4) pa_nil)))))))), ?_⟩
    obtain ⟨xs, hx, h0⟩ := hp.at0
    obtain ⟨ys, hy, h1⟩ := hq.at0
    k_updF
    refine WP.ixT hy h1 ?_
    k_updF
    cases t with
    | str => exact tt.elim
    | dec => exact tt.elim
    | grp ts =>
      refine WP.brT rfl ?_
      k_updF
      cases c with
      | tx l =>
        have hv : v = .str (SX.S l) := hv
        subst hv
        exact k _ (.refl _)
      | nm u sc =>
        exfalso
        cases s with
        | dec => rw [MV.cn_grp (by decide)] at hcn; cases hcn
        | str => exact hc
        | grp rs => exact hc
        | res r => cases r <;> exact hc
    | res r =>
      cases r with
      | txt n =>
        have hq : SqT K H q [V.str (SX.S MV.TXT), .int (n : Int)] := hq
        refine WP.brF rfl ?_
        k_updF
        refine WP.ixT hq WP.at0 ?_
        k_updF
        refine WP.brT rfl ?_
        k_updF
        refine WP.ixT hx h0 ?_
        k_updF
        have hn : 1 ≤ n ∧ n ≤ 12 := ot
        obtain ⟨l, rfl⟩ : ∃ l, c = .tx l := by
          cases c with
          | tx l => exact ⟨l, rfl⟩
          | nm u sc =>
            exfalso
            cases s with
            | dec =>
              have : MV.cn .dec (.res (.txt n)) = (decide (MV.DEC ∈ [MV.STR, MV.TXT, MV.EDT, MV.GRP]) || false) := rfl
              rw [this] at hcn
              revert hcn; decide
            | str => exact hc
            | grp rs => exact hc
            | res r => cases r <;> exact hc
        have hv : v = .str (SX.S l) := hv
        subst hv
        have hl : l.length ≤ 5000 := MV.cok_len os hc
        have k : WP.MetV (.str (SX.S (MV.pad (MV.strp s l) n))) H Q := k
        by_cases cn : s.hd = MV.NUM
        · refine WP.brT (decide_eq_true cn) ?_
          obtain ⟨sg, w, f, rfl⟩ := MV.hd_num cn
          k_updF
          refine ⟨p, .num sg w f, l, rfl, hp, hl, ?_⟩
          k_updF
          refine WP.ixT hq WP.at1 ?_
          k_updF
          have e : MV.strp (.res (.pic (.num sg w f))) l = if sg = true then l.drop 1 else l := rfl
          rw [e] at k
          refine ⟨_, n, rfl, ?_, by omega, k _ (.refl _)⟩
          show (if sg = true then l.drop 1 else l).length ≤ 5000
          split
          · rw [List.length_drop]; omega
          · exact hl
        · refine WP.brF (decide_eq_false cn) ?_
          have e : MV.strp s l = l := MV.strp_not cn
          rw [e] at k
          k_updF
          refine WP.ixT hq WP.at1 ?_
          k_updF
          exact ⟨l, n, rfl, hl, by omega, k _ (.refl _)⟩
      | pic pc =>
        have hq : SqT K H q pc.vs := hq
        have e0 : ∃ x : List Nat, x ≠ MV.GRP ∧ x ≠ MV.TXT ∧ atI pc.vs (0 : Int) = some (.str (SX.S x)) := by
          cases pc with
          | num s w f => exact ⟨_, (show MV.NUM ≠ MV.GRP by decide), (show MV.NUM ≠ MV.TXT by decide), WP.at0⟩
          | ed b w f s => exact ⟨_, (show MV.EDT ≠ MV.GRP by decide), (show MV.EDT ≠ MV.TXT by decide), WP.at0⟩
        have hcn : decide (s.hd ∈ [MV.DEC, MV.NUM, MV.EDT]) = true := hcn
        have hx0 : (MV.Side.res (.pic pc)).hd ≠ MV.GRP := by cases pc <;> first | exact (show MV.NUM ≠ MV.GRP by decide) | exact (show MV.EDT ≠ MV.GRP by decide)
        refine WP.brF (decide_eq_false hx0) ?_
        obtain ⟨x, g1, g2, e0⟩ := e0
        k_updF
        refine WP.ixT hq e0 ?_
        k_updF
        refine WP.brF (decide_eq_false g2) ?_
        k_updF
        refine WP.ixT hx h0 ?_
        k_updF
        have k : WP.MetV (.str (SX.S (MV.cutT pc (MV.val s c).1 (MV.val s c).2))) H Q := k
        by_cases cd : s.hd = MV.DEC
        · obtain rfl := MV.hd_dec cd
          refine WP.brT (decide_eq_true cd) ?_
          cases c with
          | tx l => exact hc.elim
          | nm u sc =>
            obtain ⟨a, rfl, ha⟩ := hv
            obtain ⟨d1, d2, d3⟩ := hc
            k_updF
            exact ⟨q, a, pc, u, sc, rfl, hq, ot, ha, by omega, MV.bt18 d3, fun H1 e1 => k _ (.of e1)⟩
        · obtain ⟨ps, rfl⟩ := MV.hd_pic (of_decide_eq_true hcn) cd
          refine WP.brF (decide_eq_false cd) ?_
          cases c with
          | nm u sc => exact hc.elim
          | tx l =>
            have hv : v = .str (SX.S l) := hv
            subst hv
            obtain ⟨u, hu, rfl⟩ := hc
            have hps : ps.Ok := os
            have wl := (MF.writ_parts hps hu).1
            have hsz := MF.siz_le hps
            have hrd := MF.rd_writ hps hu
            k_updF
            refine ⟨p, ps, _, rfl, hp, hps, by omega, MF.writ_lt hps, hT, (fun z => by rw [hrd] at z; cases z), fun u' z a H1 e1 ha => ?_⟩
            rw [hrd] at z
            cases z
            k_updF
            have e : MV.val (.res (.pic ps)) (.tx (MP.writ ps u)) = MD.nrm u ps.fr := by
              show MD.nrm (MF.likely ps (MP.writ ps u)) ps.fr = _
              rw [MF.likely_writ hps hu]
            rw [e] at k
            have hfr : ps.fr ≤ 18 := by have := hps.n1; have : ps.wh + ps.fr = ps.n := rfl; omega
            refine ⟨q, a, pc, _, _, rfl, e1.tup hq, ot, SqT.of ha, by have := MD.nrm_le ps.fr u; omega, MV.bt18 (Nat.le_trans (MD.nrm_abs _ _) (MV.suits18 hps hu)), fun H2 e2 => k _ (e1.trans (.of e2))⟩
end
abbrev s__law_pad : Stmt := top 64
abbrev N__law_pad : List Str := ["text", "size", "k"]
theorem sc__law_pad : FnScope N__law_pad ["text", "size"] (defScope s__law_pad) := ⟨rfl, rfl, rfl, by decide +kernel, rfl, by decide +kernel, by decide +kernel⟩
def sp__law_pad (K : PySem.W.Frag) (mg : WP.MG) : Sp := fun vs H Q _ => ∃ (l : List Nat) (n : Nat), vs = [.str (SX.S l), .int (n : Int)] ∧ l.length ≤ 5000 ∧ n ≤ 5000 ∧ Q (.str (SX.S (MV.pad l n))) H
section
variable {P : Program} {w : World} {K : PySem.W.Frag} {mg : Str → Option Value} {base : Heap}
theorem ok__law_pad {f : Addr} {fd : FuncData} (F : Fun K "_law_pad" "_law_pad" s__law_pad f fd) (B : Blt w K mg)  : FnOk P w K mg base CX0 1 f fd ["text", "size"] (sp__law_pad K mg) := by
  refine F.ok sc__law_pad (fun vs H Q E h => ?_) (fun cdv A outer s H vs Q E hr h => ?_)
  · first | (obtain ⟨_, rfl, _⟩ := h; rfl) | (obtain ⟨_, _, rfl, _⟩ := h; rfl) | (obtain ⟨_, _, _, rfl, _⟩ := h; rfl) | (obtain ⟨_, _, _, _, rfl, _⟩ := h; rfl) | (obtain ⟨_, _, _, _, _, rfl, _⟩ := h; rfl) | (obtain ⟨_, _, _, _, _, _, rfl, _⟩ := h; rfl) | (obtain ⟨_, _, _, _, _, _, _, rfl, _⟩ := h; rfl) | (obtain ⟨_, _, _, _, _, _, _, _, rfl, _⟩ := h; rfl) | (obtain ⟨rfl, _⟩ := h; rfl)
  · obtain ⟨l, n, rfl, hl, hn, k⟩ := h
    refine ⟨_, (pss_cons (ps_for PassesOwn.never rfl (pi_range1 rfl B.b_range (WP.pa_consN (pv 1) pa_nil)) (pg_name (i := 2) sc__law_pad.nd rfl (Or.inl rfl)) (pss_one (ps_if (pt_cmpR op_lt (pe_callB WP.c_len (by rfl) B.b_len (by decide +kernel) (WP.pa_consN (pv 0) pa_nil)) (pv 1) (nomark _)) (pss_one (ps_set (i := 0) sc__law_pad.nd rfl (Or.inl rfl) (pe_op WP.op_addS (pv 0) (WP.pe_strL [32] (by decide +kernel))))) pss_nil)))
      (pss_one (ps_ret (pe_slice sl_str (pv 0) po_none (po_some (pv 1)))))), ?_⟩
    k_updF
    refine ⟨_, rfl, by omega, by omega, for_range (lo := 0) (n := _) (fun i σ' H' => H' = H ∧ ∃ z, σ' = [some (.str (SX.S (l ++ List.replicate (min i (n - l.length)) 32))), some (.int (n : Int)), z]) ⟨rfl, none, by rw [Nat.zero_min, List.replicate_zero, List.append_nil]; rfl⟩ ?_ ?_⟩
    · rintro i σ' H' hi ⟨rfl, z, rfl⟩
      rw [Int.toNat_natCast] at hi
      have hL : (l ++ List.replicate (min i (n - l.length)) 32).length = l.length + min i (n - l.length) := by rw [List.length_append, List.length_replicate]
      k_updF
      refine WP.lenS' (by rw [sizeLine_eq, hL]; omega) ?_
      rw [hL]
      k_updF
      refine WP.br (fun c => ?_) (fun c => ?_)
      · k_updF
        refine WP.catS ?_ (by rw [sizeLine_eq, hL]; show _ + 1 ≤ _; omega)
        k_updF
        refine ⟨rfl, some (.int (0 + (i : Int))), ?_⟩
        rw [show min (i + 1) (n - l.length) = min i (n - l.length) + 1 by omega, List.replicate_succ', List.append_assoc]
        rfl
      · k_updF
        refine ⟨rfl, some (.int (0 + (i : Int))), ?_⟩
        rw [show min (i + 1) (n - l.length) = min i (n - l.length) by omega]
        rfl
    rintro σ' H' ⟨rfl, z, rfl⟩
    rw [Int.toNat_natCast, show min n (n - l.length) = n - l.length by omega]
    k_updF
    refine WP.slTo (by omega) (by rw [sizeLine_eq, List.length_append, List.length_replicate]; omega) ?_
    rw [Int.toNat_natCast, MV.pad_eq2]
    exact k
end
abbrev s__is_whole_number : Stmt := top 46
abbrev N__is_whole_number : List Str := ["source"]
theorem sc__is_whole_number : FnScope N__is_whole_number ["source"] (defScope s__is_whole_number) := ⟨rfl, rfl, rfl, by decide +kernel, rfl, by decide +kernel, by decide +kernel⟩
def sp__is_whole_number (K : PySem.W.Frag) (mg : WP.MG) : Sp := fun vs H Q _ => ∃ (p : Addr) (s : MV.Side), vs = [.ref p] ∧ MV.SideAt K H p s ∧ Q (.bl (MV.whole s)) H
section
variable {P : Program} {w : World} {K : PySem.W.Frag} {mg : Str → Option Value} {base : Heap}
theorem ok__is_whole_number {f : Addr} {fd : FuncData} (F : Fun K "_is_whole_number" "_is_whole_number" s__is_whole_number f fd) (B : Blt w K mg)  : FnOk P w K mg base CX0 1 f fd ["source"] (sp__is_whole_number K mg) := by
  refine F.ok sc__is_whole_number (fun vs H Q E h => ?_) (fun cdv A outer s H vs Q E hr h => ?_)
  · first | (obtain ⟨_, rfl, _⟩ := h; rfl) | (obtain ⟨_, _, rfl, _⟩ := h; rfl) | (obtain ⟨_, _, _, rfl, _⟩ := h; rfl) | (obtain ⟨_, _, _, _, rfl, _⟩ := h; rfl) | (obtain ⟨_, _, _, _, _, rfl, _⟩ := h; rfl) | (obtain ⟨_, _, _, _, _, _, rfl, _⟩ := h; rfl) | (obtain ⟨_, _, _, _, _, _, _, rfl, _⟩ := h; rfl) | (obtain ⟨_, _, _, _, _, _, _, _, rfl, _⟩ := h; rfl) | (obtain ⟨rfl, _⟩ := h; rfl)
  · obtain ⟨p, s, rfl, hp, k⟩ := h
    refine ⟨_, (pss_one (ps_ret (pe_and (pe_cmpR op_eq (pe_ix ix_tup (pv 0) pe_int (fun _ _ => rfl)) (WP.pe_strL [110, 117, 109, 98, 101, 114] (by decide +kernel)) (nomark _)) (pe_one (pe_cmpR op_eq (pe_ix ix_tup (pv 0) pe_int (fun _ _ => rfl)) pe_int (nomark _)))))), ?_⟩
    obtain ⟨xs, hx, h0⟩ := hp.at0
    k_updF
    refine WP.ixT hx h0 ?_
    k_updF
    by_cases c : s.hd = MV.NUM
    · refine WP.brT (decide_eq_true c) ?_
      cases s with
      | str => exact absurd c (by decide)
      | dec => exact absurd c (by decide)
      | grp rs => exact absurd c (show MV.GRP ≠ MV.NUM by decide)
      | res r =>
        cases r with
        | txt n => exact absurd c (show MV.TXT ≠ MV.NUM by decide)
        | pic q =>
          cases q with
          | ed b w f s => exact absurd c (show MV.EDT ≠ MV.NUM by decide)
          | num sg w f =>
            have hp : SqT K H p [V.str (SX.S [110, 117, 109, 98, 101, 114]), .bl sg, .int (w : Int), .int (f : Int)] := hp
            k_updF
            refine WP.ixT hp WP.at3 ?_
            k_updF
            have e : decide ((f : Int) = 0) = decide (f = 0) := by
              by_cases h : f = 0
              · rw [decide_eq_true h, decide_eq_true (by omega)]
              · rw [decide_eq_false h, decide_eq_false (by omega)]
            rw [e]
            exact k
    · refine WP.brF (decide_eq_false c) ?_
      have e : MV.whole s = false := by
        cases s with
        | res r =>
          cases r with
          | txt n => rfl
          | pic q =>
            cases q with
            | ed b w f s => rfl
            | num sg w f => exact absurd rfl c
        | _ => rfl
      rw [e] at k
      exact k
end
abbrev s_can_move : Stmt := top 40
abbrev N_can_move : List Str := ["source", "target"]
theorem sc_can_move : FnScope N_can_move ["source", "target"] (defScope s_can_move) := ⟨rfl, rfl, rfl, by decide +kernel, rfl, by decide +kernel, by decide +kernel⟩
def sp_can_move (K : PySem.W.Frag) (mg : WP.MG) : Sp := fun vs H Q _ => ∃ (p q : Addr) (s t : MV.Side), vs = [.ref p, .ref q] ∧ MV.SideAt K H p s ∧ MV.SideAt K H q t ∧ s.Ok ∧ t.Ok ∧ WP.RetV (.bl (MV.cn s t)) H Q
section
variable {P : Program} {w : World} {K : PySem.W.Frag} {mg : Str → Option Value} {base : Heap}
theorem ok_can_move {f : Addr} {fd : FuncData} (F : Fun K "can_move" "can_move" s_can_move f fd) (B : Blt w K mg) (c__is_whole_number : WP.Callee P w K mg base CX0 1 "_is_whole_number" ["source"] (sp__is_whole_number K mg)) : FnOk P w K mg base CX0 2 f fd ["source", "target"] (sp_can_move K mg) := by
  refine F.ok sc_can_move (fun vs H Q E h => ?_) (fun cdv A outer s H vs Q E hr h => ?_)
  · first | (obtain ⟨_, rfl, _⟩ := h; rfl) | (obtain ⟨_, _, rfl, _⟩ := h; rfl) | (obtain ⟨_, _, _, rfl, _⟩ := h; rfl) | (obtain ⟨_, _, _, _, rfl, _⟩ := h; rfl) | (obtain ⟨_, _, _, _, _, rfl, _⟩ := h; rfl) | (obtain ⟨_, _, _, _, _, _, rfl, _⟩ := h; rfl) | (obtain ⟨_, _, _, _, _, _, _, rfl, _⟩ := h; rfl) | (obtain ⟨_, _, _, _, _, _, _, _, rfl, _⟩ := h; rfl) | (obtain ⟨rfl, _⟩ := h; rfl)
  · obtain ⟨p, q, s, t, rfl, hp, hq, os, ot, k⟩ := h
    refine ⟨_, (pss_cons (ps_if (pt_cmpR op_eq (pe_ix ix_tup (pv 1) pe_int (fun _ _ => rfl)) (WP.pe_strL [103, 114, 111, 117, 112] (by decide +kernel)) (nomark _)) (pss_one (ps_ret (pe_cmpR (op_eqD hr.units) (pv 0) (pv 1) (nomark _)))) pss_nil)
      (pss_cons (ps_if (pt_cmpR op_eq (pe_ix ix_tup (pv 1) pe_int (fun _ _ => rfl)) (WP.pe_strL [116, 101, 120, 116] (by decide +kernel)) (nomark _)) (pss_one (ps_ret (pe_or (pe_cmpR op_in_seq (pe_ix ix_tup (pv 0) pe_int (fun _ _ => rfl)) (pe_tup (WP.pa_consN (WP.pe_strL [115, 116, 114, 105, 110, 103] (by decide +kernel)) (WP.pa_consN (WP.pe_strL [116, 101, 120, 116] (by decide +kernel)) (WP.pa_consN (WP.pe_strL [101, 100, 105, 116, 101, 100] (by decide +kernel)) (WP.pa_consN (WP.pe_strL [103, 114, 111, 117, 112] (by decide +kernel)) pa_nil))))) rfl) (pe_one (WP.pe_callC c__is_whole_number hr rfl pass0 (WP.pa_consN (pv 0) pa_nil)))))) pss_nil)
      (pss_one (ps_ret (pe_cmpR op_in_seq (pe_ix ix_tup (pv 0) pe_int (fun _ _ => rfl)) (pe_tup (WP.pa_consN (WP.pe_strL [100, 101, 99, 105, 109, 97, 108] (by decide +kernel)) (WP.pa_consN (WP.pe_strL [110, 117, 109, 98, 101, 114] (by decide +kernel)) (WP.pa_consN (WP.pe_strL [101, 100, 105, 116, 101, 100] (by decide +kernel)) pa_nil)))) rfl))))), ?_⟩
    obtain ⟨xs, hx, h0⟩ := hp.at0
    obtain ⟨ys, hy, h1⟩ := hq.at0
    k_updF
    refine WP.ixT hy h1 ?_
    k_updF
    refine WP.br (fun c => ?_) (fun c => ?_)
    · k_updF
      refine WP.eqD hp.dp hq.dp ?_ (MV.Side.sh os) (MV.Side.sh ot)
      have e : MV.cn s t = PyData.eqv (.tuple s.ds) (.tuple t.ds) := by
        cases t with
        | grp ts => rfl
        | str => exact absurd c (by decide)
        | dec => exact absurd c (by decide)
        | res r =>
          cases r with
          | txt n => exact absurd c (show MV.TXT ≠ MV.GRP by decide)
          | pic q => cases q <;> exact absurd c (by first | exact (show MV.NUM ≠ MV.GRP by decide) | exact (show MV.EDT ≠ MV.GRP by decide))
      rw [e] at k
      exact k _ (.refl _)
    k_updF
    refine WP.ixT hy h1 ?_
    k_updF
    refine WP.br (fun c2 => ?_) (fun c2 => ?_)
    · have e : MV.cn s t = (decide (s.hd ∈ [MV.STR, MV.TXT, MV.EDT, MV.GRP]) || MV.whole s) := by
        cases t with
        | grp ts => exact absurd rfl c
        | str => exact absurd c2 (by decide)
        | dec => exact absurd c2 (by decide)
        | res r =>
          cases r with
          | txt n => rfl
          | pic q => cases q <;> exact absurd c2 (by first | exact (show MV.NUM ≠ MV.TXT by decide) | exact (show MV.EDT ≠ MV.TXT by decide))
      rw [e] at k
      k_updF
      refine WP.ixT hx h0 ?_
      k_updF
      refine ⟨WP.sz (show 4 ≤ 1000000 by decide), fun T hT => ?_⟩
      refine WP.inT [MV.STR, MV.TXT, MV.EDT, MV.GRP] (SqT.of upd_same) rfl ?_
      k_updF
      have e1 := WP.same_new (o := .tup [.str (SX.S MV.STR), .str (SX.S MV.TXT), .str (SX.S MV.EDT), .str (SX.S MV.GRP)]) hT
      cases hm : decide (s.hd ∈ [MV.STR, MV.TXT, MV.EDT, MV.GRP]) with
      | true =>
        rw [hm, Bool.true_or] at k
        refine WP.brT rfl ?_
        exact k _ e1
      | false =>
        rw [hm, Bool.false_or] at k
        refine WP.brF rfl ?_
        k_updF
        exact ⟨p, s, rfl, hp.sm (.of e1), k _ e1⟩
    have e : MV.cn s t = decide (s.hd ∈ [MV.DEC, MV.NUM, MV.EDT]) := by
      cases t with
      | grp ts => exact absurd rfl c
      | str => rfl
      | dec => rfl
      | res r =>
        cases r with
        | txt n => exact absurd rfl c2
        | pic q => rfl
    rw [e] at k
    k_updF
    refine WP.ixT hx h0 ?_
    k_updF
    refine ⟨WP.sz (show 3 ≤ 1000000 by decide), fun T hT => ?_⟩
    refine WP.inT [MV.DEC, MV.NUM, MV.EDT] (SqT.of upd_same) rfl ?_
    exact k _ (WP.same_new hT)
end
abbrev s__law_cut : Stmt := top 63
abbrev N__law_cut : List Str := ["target", "value", "units", "limit", "k", "size", "signed"]
theorem sc__law_cut : FnScope N__law_cut ["target", "value"] (defScope s__law_cut) := ⟨rfl, rfl, rfl, by decide +kernel, rfl, by decide +kernel, by decide +kernel⟩
def sp__law_cut (K : PySem.W.Frag) (mg : WP.MG) : Sp := fun vs H Q _ => ∃ (p q : Addr) (pic : MP.Pic) (u : Int) (sc : Nat), vs = [.ref p, .ref q] ∧ SqT K H p pic.vs ∧ pic.Ok ∧ SqT K H q (WP.dv u sc) ∧ sc ≤ 1000 ∧ WP.Bt u 3900 ∧ WP.RetV (.str (SX.S (MV.cutT pic u sc))) H Q
section
variable {P : Program} {w : World} {K : PySem.W.Frag} {mg : Str → Option Value} {base : Heap}
theorem ok__law_cut {f : Addr} {fd : FuncData} (F : Fun K "_law_cut" "_law_cut" s__law_cut f fd) (B : Blt w K mg) (c_units_at : WP.Callee P w K mg base CX0 3 "units_at" ["a", "scale", "is_rounded"] (sp_units_at K mg)) (c__law_written : WP.Callee P w K mg base CX0 2 "_law_written" ["picture", "units"] (sp__law_written K mg)) : FnOk P w K mg base CX0 4 f fd ["target", "value"] (sp__law_cut K mg) := by
  refine F.ok sc__law_cut (fun vs H Q E h => ?_) (fun cdv A outer s H vs Q E hr h => ?_)
  · first | (obtain ⟨_, rfl, _⟩ := h; rfl) | (obtain ⟨_, _, rfl, _⟩ := h; rfl) | (obtain ⟨_, _, _, rfl, _⟩ := h; rfl) | (obtain ⟨_, _, _, _, rfl, _⟩ := h; rfl) | (obtain ⟨_, _, _, _, _, rfl, _⟩ := h; rfl) | (obtain ⟨_, _, _, _, _, _, rfl, _⟩ := h; rfl) | (obtain ⟨_, _, _, _, _, _, _, rfl, _⟩ := h; rfl) | (obtain ⟨_, _, _, _, _, _, _, _, rfl, _⟩ := h; rfl) | (obtain ⟨rfl, _⟩ := h; rfl)
  · obtain ⟨p, q, pic, u, sc, rfl, hp, ho, hq, hsc, hu, k⟩ := h
    refine ⟨_, (pss_cons (ps_set (i := 2) sc__law_cut.nd rfl (Or.inl rfl) (WP.pe_callC c_units_at hr rfl pass0 (WP.pa_consN (pv 1) (WP.pa_consN (pe_ix ix_tup (pv 0) pe_int (fun _ _ => rfl)) (WP.pa_consN pe_bl pa_nil)))))
      (pss_cons (ps_set (i := 3) sc__law_cut.nd rfl (Or.inl rfl) pe_int)
      (pss_cons (ps_for PassesOwn.never rfl (pi_range1 rfl B.b_range (WP.pa_consN (pe_op op_add (pe_ix ix_tup (pv 0) pe_int (fun _ _ => rfl)) (pe_ix ix_tup (pv 0) pe_int (fun _ _ => rfl))) pa_nil)) (pg_name (i := 4) sc__law_cut.nd rfl (Or.inl rfl)) (pss_one (ps_set (i := 3) sc__law_cut.nd rfl (Or.inl rfl) (pe_op op_mul (pv 3) pe_int))))
      (pss_cons (ps_set (i := 5) sc__law_cut.nd rfl (Or.inl rfl) (pe_op op_mod (pe_callB WP.c_abs (by rfl) B.b_abs (by decide +kernel) (WP.pa_consN (pv 2) pa_nil)) (pv 3)))
      (pss_cons (ps_set (i := 6) sc__law_cut.nd rfl (Or.inl rfl) (pe_ifExp (pt_cmpR op_eq (pe_ix ix_tup (pv 0) pe_int (fun _ _ => rfl)) (WP.pe_strL [110, 117, 109, 98, 101, 114] (by decide +kernel)) (nomark _)) (pe_ix ix_tup (pv 0) pe_int (fun _ _ => rfl)) (pe_cmpR op_ne (pe_ix ix_tup (pv 0) pe_int (fun _ _ => rfl)) (WP.pe_strL [] (by decide +kernel)) (nomark _))))
      (pss_one (ps_ret (WP.pe_callC c__law_written hr rfl pass0 (WP.pa_consN (pv 0) (WP.pa_consN (pe_ifExp (PW.pt (pw_and (pt_cmpR op_lt (pv 2) pe_int (nomark _)) (pw_and1 (pt_val (pv 6))))) (pe_un un_neg (pv 5)) (pv 5)) pa_nil)))))))))), ?_⟩
    have hn := ho.n1
    have hfr : pic.fr ≤ 18 := by have : pic.wh + pic.fr = pic.n := rfl; omega
    k_updF
    refine WP.ixT hp (MP.at_f pic) ?_
    k_updF
    refine ⟨q, u, sc, pic.fr, false, rfl, hq, hsc, by omega, hu, fun x hx H1 e1 => ?_⟩
    have hx : x = MV.ua u sc pic.fr false := hx
    unfold MV.cutT at k
    rw [← hx] at k
    clear hx
    have hp := WP.sqt e1 hp
    k_updF
    refine WP.ixT hp (MP.at_w pic) ?_
    k_updF
    refine WP.ixT hp (MP.at_f pic) ?_
    k_updF
    rw [← Int.natCast_add]
    have hnp : pic.wh + pic.fr = pic.n := rfl
    rw [hnp]
    refine ⟨_, rfl, by omega, by omega, for_range (lo := 0) (n := _) (fun i σ' H' => H' = H1 ∧ ∃ z, σ' = [some (.ref p), some (.ref q), some (.int x), some (.int (10 ^ i)), z, none, none]) ⟨rfl, none, rfl⟩ ?_ ?_⟩
    · rintro i σ' H' hi ⟨rfl, z, rfl⟩
      k_updF
      refine WP.iC (.inr (by decide)) ?_
      k_updF
      exact ⟨rfl, some (.int (0 + (i : Int))), by rw [Int.pow_succ]; rfl⟩
    rintro σ' H' ⟨rfl, z, rfl⟩
    rw [Int.toNat_natCast]
    have hT := WP.ten_pos pic.n
    k_updF
    refine WP.absI ?_
    k_updF
    refine WP.iC hT ?_
    k_memK; k_memK; k_memK
    refine MP.sgdE rfl hp ?_
    k_updF
    have hs : MP.Suits pic (MV.trm pic x) := MP.suits_cut
    have fin : ∀ y : Int, y = MV.trm pic x → (∃ (p_1 : Addr) (pic_1 : MP.Pic) (u : Int), [V.ref p, .int y] = [.ref p_1, .int u] ∧ SqT K H' p_1 pic_1.vs ∧ pic_1.Ok ∧ MP.Suits pic_1 u ∧ WP.RetV (.str (SX.S (MP.writ pic_1 u))) H' Q) := fun y hy => by
      subst hy
      exact ⟨p, pic, _, rfl, hp, ho, hs, fun H2 e2 => k _ (e1.trans e2)⟩
    refine WP.br (fun c => ?_) (fun c => ?_)
    · k_updF
      cases hsg : pic.sgd with
      | true =>
        refine WP.brT rfl ?_
        k_updF
        exact fin _ (by unfold MV.trm; rw [if_pos ⟨c, hsg⟩])
      | false =>
        refine WP.brF rfl ?_
        k_updF
        exact fin _ (by unfold MV.trm; rw [if_neg (fun z => by rw [hsg] at z; cases z.2)])
    · refine WP.brF rfl ?_
      k_updF
      exact fin _ (by unfold MV.trm; rw [if_neg (fun z => c z.1)])
end
abbrev s__law_value : Stmt := top 62
abbrev N__law_value : List Str := ["source", "content", "rich"]
theorem sc__law_value : FnScope N__law_value ["source", "content", "rich"] (defScope s__law_value) := ⟨rfl, rfl, rfl, by decide +kernel, rfl, by decide +kernel, by decide +kernel⟩
def sp__law_value (K : PySem.W.Frag) (mg : WP.MG) : Sp := fun vs H Q _ => ∃ (p : Addr) (s : MV.Side) (v : V) (r : Int), vs = [.ref p, v, .int r] ∧ MV.SideAt K H p s ∧ ((s = .dec ∧ Q v H) ∨ ∃ pic, s = .res (.pic pic) ∧ pic.Ok ∧ WP.RetT (WP.dv (MD.nrm (MV.lu pic r) pic.fr).1 (MD.nrm (MV.lu pic r) pic.fr).2) H Q)
section
variable {P : Program} {w : World} {K : PySem.W.Frag} {mg : Str → Option Value} {base : Heap}
theorem ok__law_value {f : Addr} {fd : FuncData} (F : Fun K "_law_value" "_law_value" s__law_value f fd) (B : Blt w K mg) (c__law_decimal : WP.Callee P w K mg base CX0 1 "_law_decimal" ["units", "scale"] (sp__law_decimal K mg)) (c__law_units : WP.Callee P w K mg base CX0 1 "_law_units" ["picture", "rich"] (sp__law_units K mg)) : FnOk P w K mg base CX0 2 f fd ["source", "content", "rich"] (sp__law_value K mg) := by
  refine F.ok sc__law_value (fun vs H Q E h => ?_) (fun cdv A outer s H vs Q E hr h => ?_)
  · first | (obtain ⟨_, rfl, _⟩ := h; rfl) | (obtain ⟨_, _, rfl, _⟩ := h; rfl) | (obtain ⟨_, _, _, rfl, _⟩ := h; rfl) | (obtain ⟨_, _, _, _, rfl, _⟩ := h; rfl) | (obtain ⟨_, _, _, _, _, rfl, _⟩ := h; rfl) | (obtain ⟨_, _, _, _, _, _, rfl, _⟩ := h; rfl) | (obtain ⟨_, _, _, _, _, _, _, rfl, _⟩ := h; rfl) | (obtain ⟨_, _, _, _, _, _, _, _, rfl, _⟩ := h; rfl) | (obtain ⟨rfl, _⟩ := h; rfl)
  · obtain ⟨p, s, v, r, rfl, hp, k⟩ := h
    refine ⟨_, (pss_cons (ps_if (pt_cmpR op_eq (pe_ix ix_tup (pv 0) pe_int (fun _ _ => rfl)) (WP.pe_strL [100, 101, 99, 105, 109, 97, 108] (by decide +kernel)) (nomark _)) (pss_one (ps_ret (pv 1))) pss_nil)
      (pss_one (ps_ret (WP.pe_callC c__law_decimal hr rfl pass0 (WP.pa_consN (WP.pe_callC c__law_units hr rfl pass0 (WP.pa_consN (pv 0) (WP.pa_consN (pv 2) pa_nil))) (WP.pa_consN (pe_ix ix_tup (pv 0) pe_int (fun _ _ => rfl)) pa_nil)))))), ?_⟩
    obtain ⟨xs, hx, h0⟩ := hp.at0
    k_updF
    refine WP.ixT hx h0 ?_
    k_updF
    rcases k with ⟨rfl, k⟩ | ⟨pic, rfl, ho, k⟩
    · refine WP.brT (by decide) ?_
      k_updF
      exact k
    · have hne : ¬ (MV.Side.res (.pic pic)).hd = MV.DEC := by cases pic <;> first | exact (show ¬ MV.NUM = MV.DEC by decide) | exact (show ¬ MV.EDT = MV.DEC by decide)
      refine WP.brF (decide_eq_false hne) ?_
      k_updF
      refine ⟨p, pic, r, rfl, hp, ho, ?_⟩
      k_updF
      refine WP.ixT hp (MP.at_f pic) ?_
      have hfr : pic.fr ≤ 18 := by have := ho.n1; have : pic.wh + pic.fr = pic.n := rfl; omega
      refine ⟨_, (pic.fr : Int), rfl, by omega, by omega, ?_⟩
      rw [Int.toNat_natCast]
      exact k
end
abbrev s__law_moved : Stmt := top 66
abbrev N__law_moved : List Str := ["source", "content", "target", "rich"]
theorem sc__law_moved : FnScope N__law_moved ["source", "content", "target", "rich"] (defScope s__law_moved) := ⟨rfl, rfl, rfl, by decide +kernel, rfl, by decide +kernel, by decide +kernel⟩
def sp__law_moved (K : PySem.W.Frag) (mg : WP.MG) : Sp := fun vs H Q _ => ∃ (p q : Addr) (s t : MV.Side) (v : V) (c : MV.Cont) (r : Int), vs = [.ref p, v, .ref q, .int r] ∧ MV.SideAt K H p s ∧ MV.SideAt K H q t ∧ s.Ok ∧ t.Ok ∧ MV.Side.Tg t ∧ MV.cn s t = true ∧ CR s r c ∧ MV.ContAt K H v c ∧ WP.RetV (.str (SX.S (MV.mvT s t c))) H Q
section
variable {P : Program} {w : World} {K : PySem.W.Frag} {mg : Str → Option Value} {base : Heap}
theorem ok__law_moved {f : Addr} {fd : FuncData} (F : Fun K "_law_moved" "_law_moved" s__law_moved f fd) (B : Blt w K mg) (c__law_pad : WP.Callee P w K mg base CX0 1 "_law_pad" ["text", "size"] (sp__law_pad K mg)) (c__law_cut : WP.Callee P w K mg base CX0 4 "_law_cut" ["target", "value"] (sp__law_cut K mg)) (c__law_value : WP.Callee P w K mg base CX0 2 "_law_value" ["source", "content", "rich"] (sp__law_value K mg)) : FnOk P w K mg base CX0 5 f fd ["source", "content", "target", "rich"] (sp__law_moved K mg) := by
  refine F.ok sc__law_moved (fun vs H Q E h => ?_) (fun cdv A outer s H vs Q E hr h => ?_)
  · first | (obtain ⟨_, rfl, _⟩ := h; rfl) | (obtain ⟨_, _, rfl, _⟩ := h; rfl) | (obtain ⟨_, _, _, rfl, _⟩ := h; rfl) | (obtain ⟨_, _, _, _, rfl, _⟩ := h; rfl) | (obtain ⟨_, _, _, _, _, rfl, _⟩ := h; rfl) | (obtain ⟨_, _, _, _, _, _, rfl, _⟩ := h; rfl) | (obtain ⟨_, _, _, _, _, _, _, rfl, _⟩ := h; rfl) | (obtain ⟨_, _, _, _, _, _, _, _, rfl, _⟩ := h; rfl) | (obtain ⟨rfl, _⟩ := h; rfl)
  · obtain ⟨p, q, s, t, v, c, r, rfl, hp, hq, os, ot, tt, hcn, hc, hv, k⟩ := h
    refine ⟨_, (pss_cons (ps_if (pt_cmpR op_eq (pe_ix ix_tup (pv 2) pe_int (fun _ _ => rfl)) (WP.pe_strL [103, 114, 111, 117, 112] (by decide +kernel)) (nomark _)) (pss_one (ps_ret (pv 1))) pss_nil)
      (pss_cons (ps_if (pt_cmpR op_ne (pe_ix ix_tup (pv 2) pe_int (fun _ _ => rfl)) (WP.pe_strL [116, 101, 120, 116] (by decide +kernel)) (nomark _)) (pss_one (ps_ret (WP.pe_callC c__law_cut hr rfl pass0 (WP.pa_consN (pv 2) (WP.pa_consN (WP.pe_callC c__law_value hr rfl pass0 (WP.pa_consN (pv 0) (WP.pa_consN (pv 1) (WP.pa_consN (pv 3) pa_nil)))) pa_nil))))) pss_nil)
      (Evl.pss_cut (ps_if (PW.pt (pw_and (pt_cmpR op_eq (pe_ix ix_tup (pv 0) pe_int (fun _ _ => rfl)) (WP.pe_strL [110, 117, 109, 98, 101, 114] (by decide +kernel)) (nomark _)) (pw_and1 (pt_val (pe_ix ix_tup (pv 0) pe_int (fun _ _ => rfl)))))) (pss_one (ps_set (i := 1) sc__law_moved.nd rfl (Or.inl rfl) (pe_slice sl_str (pv 1) (po_some pe_int) po_none))) pss_nil)
      (pss_one (ps_ret (WP.pe_callC c__law_pad hr rfl pass0 (WP.pa_consN (pv 1) (WP.pa_consN (pe_ix ix_tup (pv 2) pe_int (fun _ _ => rfl)) pa_nil)))))))), ?_⟩
    obtain ⟨xs, hx, h0⟩ := hp.at0
    obtain ⟨ys, hy, h1⟩ := hq.at0
    k_updF
    refine WP.ixT hy h1 ?_
    k_updF
    refine WP.br (fun cg => ?_) (fun cg => ?_)
    · obtain ⟨ts, rfl⟩ := MV.tg_grp cg
      k_updF
      have hs : s ≠ .dec := fun e => by
        subst e
        rw [MV.cn_grp (by decide)] at hcn
        cases hcn
      obtain ⟨l, rfl⟩ := MV.cok_tx hc.1 hs
      have hv : v = .str (SX.S l) := hv
      subst hv
      exact k _ (.refl _)
    k_updF
    refine WP.ixT hy h1 ?_
    k_updF
    refine WP.brN (fun ct => ?_) (fun ct => ?_)
    · obtain ⟨pt, rfl⟩ := MV.tg_ne tt cg ct
      have ot : pt.Ok := ot
      have hcn : decide (s.hd ∈ [MV.DEC, MV.NUM, MV.EDT]) = true := hcn
      have k : WP.RetV (.str (SX.S (MV.cutT pt (MV.val s c).1 (MV.val s c).2))) H Q := k
      k_updF
      by_cases cd : s.hd = MV.DEC
      · obtain rfl := MV.hd_dec cd
        obtain ⟨hc, _⟩ := hc
        cases c with
        | tx l => exact hc.elim
        | nm u sc =>
          obtain ⟨a, rfl, ha⟩ := hv
          obtain ⟨d1, d2, d3⟩ := hc
          refine ⟨p, .dec, _, r, rfl, hp, .inl ⟨rfl, ?_⟩⟩
          k_updF
          exact ⟨q, a, pt, u, sc, rfl, hq, ot, ha, by omega, MV.bt18 d3, k⟩
      · obtain ⟨ps, rfl⟩ := MV.hd_pic (of_decide_eq_true hcn) cd
        obtain ⟨l, rfl⟩ := MV.cok_tx hc.1 (fun z => by cases z)
        have hl := hc.2 ps l rfl rfl
        subst hl
        have hps : ps.Ok := os
        have hsu := MV.lu_suits ps r
        have e : MV.val (.res (.pic ps)) (.tx (MP.writ ps (MV.lu ps r))) = MD.nrm (MV.lu ps r) ps.fr := by
          show MD.nrm (MF.likely ps (MP.writ ps (MV.lu ps r))) ps.fr = _
          rw [MF.likely_writ hps hsu]
        rw [e] at k
        have hfr : ps.fr ≤ 18 := by have := hps.n1; have : ps.wh + ps.fr = ps.n := rfl; omega
        refine ⟨p, .res (.pic ps), _, r, rfl, hp, .inr ⟨ps, rfl, hps, fun a H1 e1 ha => ?_⟩⟩
        k_updF
        exact ⟨q, a, pt, _, _, rfl, WP.sqt e1 hq, ot, SqT.of ha, by have := MD.nrm_le ps.fr (MV.lu ps r); omega, MV.bt18 (Nat.le_trans (MD.nrm_abs _ _) (MV.suits18 hps hsu)), fun H2 e2 => k _ (e1.trans e2)⟩
    · obtain ⟨n, rfl⟩ := MV.tg_txt ct
      have hq : SqT K H q [V.str (SX.S MV.TXT), .int (n : Int)] := hq
      have hn : 1 ≤ n ∧ n ≤ 12 := ot
      have hs : s ≠ .dec := fun e => by
        subst e
        have : MV.cn .dec (.res (.txt n)) = (decide (MV.DEC ∈ [MV.STR, MV.TXT, MV.EDT, MV.GRP]) || false) := rfl
        rw [this] at hcn
        revert hcn; decide
      obtain ⟨l, rfl⟩ := MV.cok_tx hc.1 hs
      have hl := MV.cok_len os hc.1
      have hv : v = .str (SX.S l) := hv
      subst hv
      have k : WP.RetV (.str (SX.S (MV.pad (MV.strp s l) n))) H Q := k
      refine WP.cut (fun σ' H' => H' = H ∧ σ' = [some (.ref p), some (.str (SX.S (MV.strp s l))), some (.ref q), some (.int r)]) ?_ ?_
      · k_updF
        refine WP.ixT hx h0 ?_
        k_updF
        by_cases cn : s.hd = MV.NUM
        · refine WP.brT (decide_eq_true cn) ?_
          obtain ⟨sg, w, f, rfl⟩ := MV.hd_num cn
          have hp : SqT K H p [V.str (SX.S [110, 117, 109, 98, 101, 114]), .bl sg, .int (w : Int), .int (f : Int)] := hp
          have e : MV.strp (.res (.pic (.num sg w f))) l = if sg = true then l.drop 1 else l := rfl
          rw [e]
          k_updF
          refine WP.ixT hp WP.at1 ?_
          refine ⟨_, rfl, ?_⟩
          cases sg with
          | true =>
            refine WP.brT rfl ?_
            k_updF
            refine WP.slFrom (by decide) (by rw [sizeLine_eq]; omega) ?_
            k_updF
            exact ⟨rfl, rfl⟩
          | false =>
            refine WP.brF rfl ?_
            k_updF
            exact ⟨rfl, rfl⟩
        · refine WP.brF (decide_eq_false cn) ?_
          refine WP.brF rfl ?_
          rw [MV.strp_not cn]
          k_updF
          exact ⟨rfl, rfl⟩
      rintro σ' H' ⟨rfl, rfl⟩
      have hsl : (MV.strp s l).length ≤ 5000 := by
        unfold MV.strp
        split
        · split
          · rw [List.length_drop]; omega
          · exact hl
        · exact hl
      k_updF
      refine WP.ixT hq WP.at1 ?_
      k_updF
      exact ⟨_, n, rfl, hsl, by omega, k _ (.refl _)⟩
end
abbrev s_stored : Stmt := top 42
abbrev N_stored : List Str := ["target", "value", "is_rounded", "_", "fraction", "units"]
theorem sc_stored : FnScope N_stored ["target", "value", "is_rounded"] (defScope s_stored) := ⟨rfl, rfl, rfl, by decide +kernel, rfl, by decide +kernel, by decide +kernel⟩
def sp_stored (K : PySem.W.Frag) (mg : WP.MG) : Sp := fun vs H Q _ => ∃ (p q : Addr) (pic : MP.Pic) (u : Int) (sc : Nat) (r : Bool), vs = [.ref p, .ref q, .bl r] ∧ SqT K H p pic.vs ∧ pic.Ok ∧ SqT K H q (WP.dv u sc) ∧ sc ≤ 1000 ∧ WP.Bt u 3900 ∧
  (MP.Suits pic (MV.ua u sc pic.fr r) → WP.RetV (.str (SX.S (MP.writ pic (MV.ua u sc pic.fr r)))) H Q) ∧ (¬ MP.Suits pic (MV.ua u sc pic.fr r) → WP.RetV .non H Q)
section
variable {P : Program} {w : World} {K : PySem.W.Frag} {mg : Str → Option Value} {base : Heap}
theorem ok_stored {f : Addr} {fd : FuncData} (F : Fun K "stored" "stored" s_stored f fd) (B : Blt w K mg) (c_digits_in : WP.Callee P w K mg base CX0 1 "digits_in" ["picture"] (sp_digits_in K mg)) (c_units_at : WP.Callee P w K mg base CX0 3 "units_at" ["a", "scale", "is_rounded"] (sp_units_at K mg)) (c_suits : WP.Callee P w K mg base CX0 3 "suits" ["picture", "units"] (sp_suits K mg)) (c_written : WP.Callee P w K mg base (L2.CX P w) 4 "written" ["picture", "units"] (sp_written K mg)) : FnOk P w K mg base CX0 5 f fd ["target", "value", "is_rounded"] (sp_stored K mg) := by
  refine F.ok sc_stored (fun vs H Q E h => ?_) (fun cdv A outer s H vs Q E hr h => ?_)
  · first | (obtain ⟨_, rfl, _⟩ := h; rfl) | (obtain ⟨_, _, rfl, _⟩ := h; rfl) | (obtain ⟨_, _, _, rfl, _⟩ := h; rfl) | (obtain ⟨_, _, _, _, rfl, _⟩ := h; rfl) | (obtain ⟨_, _, _, _, _, rfl, _⟩ := h; rfl) | (obtain ⟨_, _, _, _, _, _, rfl, _⟩ := h; rfl) | (obtain ⟨_, _, _, _, _, _, _, rfl, _⟩ := h; rfl) | (obtain ⟨_, _, _, _, _, _, _, _, rfl, _⟩ := h; rfl) | (obtain ⟨rfl, _⟩ := h; rfl)
  · obtain ⟨p, q, pic, u, sc, r, rfl, hp, ho, hq, hsc, hu, k, kN⟩ := h
    refine ⟨_, (pss_cons (ps_asg (WP.pe_callC c_digits_in hr rfl pass0 (WP.pa_consN (pv 0) pa_nil)) (pg_tup (by rfl) (pgs_cons (pg_name (i := 3) sc_stored.nd rfl (Or.inl rfl)) (pgs_cons (pg_name (i := 4) sc_stored.nd rfl (Or.inl rfl)) pgs_nil))))
      (pss_cons (ps_set (i := 5) sc_stored.nd rfl (Or.inl rfl) (WP.pe_callC c_units_at hr rfl pass0 (WP.pa_consN (pv 1) (WP.pa_consN (pv 4) (WP.pa_consN (pv 2) pa_nil)))))
      (pss_one (ps_ret (pe_ifExp (pt_val (WP.pe_callC c_suits hr rfl pass0 (WP.pa_consN (pv 0) (WP.pa_consN (pv 5) pa_nil)))) (WP.pe_callC c_written hr rfl WP.pass0X (WP.pa_consN (pv 0) (WP.pa_consN (pv 5) pa_nil))) pe_non))))), ?_⟩
    have hn := ho.n1
    have hfr : pic.fr ≤ 18 := by have : pic.wh + pic.fr = pic.n := rfl; omega
    k_updF
    refine ⟨p, pic, rfl, hp, fun T H1 e1 hT => ?_⟩
    refine WP.unT (SqT.of hT) rfl ?_
    k_updF
    refine ⟨q, u, sc, pic.fr, r, rfl, WP.sqt e1 hq, hsc, by omega, hu, fun x hx H2 e2 => ?_⟩
    have hx : x = MV.ua u sc pic.fr r := hx
    subst hx
    have e2 := e1.trans e2
    k_updF
    refine ⟨p, pic, _, rfl, WP.sqt e2 hp, ho, fun H3 e3 => ?_⟩
    have e3 := e2.trans e3
    k_updF
    refine WP.br (fun c => ?_) (fun c => ?_)
    · k_updF
      refine ⟨p, pic, _, rfl, WP.sqt e3 hp, ho, fun z => absurd c z, fun _ H4 e4 => ?_⟩
      exact k c _ (e3.trans e4)
    · exact kN c _ e3
end
abbrev s__law_stored : Stmt := top 65
abbrev N__law_stored : List Str := ["target", "value", "is_rounded", "units", "signed"]
theorem sc__law_stored : FnScope N__law_stored ["target", "value", "is_rounded"] (defScope s__law_stored) := ⟨rfl, rfl, rfl, by decide +kernel, rfl, by decide +kernel, by decide +kernel⟩
def sp__law_stored (K : PySem.W.Frag) (mg : WP.MG) : Sp := fun vs H Q _ => ∃ (p q : Addr) (pic : MP.Pic) (u : Int) (sc : Nat) (r : Bool), vs = [.ref p, .ref q, .bl r] ∧ SqT K H p pic.vs ∧ pic.Ok ∧ SqT K H q (WP.dv u sc) ∧ sc ≤ 1000 ∧ u.natAbs ≤ 10 ^ 18 ∧
  (MP.Suits pic (MV.ua u sc pic.fr r) → WP.RetV (.str (SX.S (MP.writ pic (MV.ua u sc pic.fr r)))) H Q) ∧ (¬ MP.Suits pic (MV.ua u sc pic.fr r) → WP.RetV .non H Q)
section
variable {P : Program} {w : World} {K : PySem.W.Frag} {mg : Str → Option Value} {base : Heap}
theorem ok__law_stored {f : Addr} {fd : FuncData} (F : Fun K "_law_stored" "_law_stored" s__law_stored f fd) (B : Blt w K mg) (c_units_at : WP.Callee P w K mg base CX0 3 "units_at" ["a", "scale", "is_rounded"] (sp_units_at K mg)) (c__law_written : WP.Callee P w K mg base CX0 2 "_law_written" ["picture", "units"] (sp__law_written K mg)) : FnOk P w K mg base CX0 4 f fd ["target", "value", "is_rounded"] (sp__law_stored K mg) := by
  refine F.ok sc__law_stored (fun vs H Q E h => ?_) (fun cdv A outer s H vs Q E hr h => ?_)
  · first | (obtain ⟨_, rfl, _⟩ := h; rfl) | (obtain ⟨_, _, rfl, _⟩ := h; rfl) | (obtain ⟨_, _, _, rfl, _⟩ := h; rfl) | (obtain ⟨_, _, _, _, rfl, _⟩ := h; rfl) | (obtain ⟨_, _, _, _, _, rfl, _⟩ := h; rfl) | (obtain ⟨_, _, _, _, _, _, rfl, _⟩ := h; rfl) | (obtain ⟨_, _, _, _, _, _, _, rfl, _⟩ := h; rfl) | (obtain ⟨_, _, _, _, _, _, _, _, rfl, _⟩ := h; rfl) | (obtain ⟨rfl, _⟩ := h; rfl)
  · obtain ⟨p, q, pic, u, sc, r, rfl, hp, ho, hq, hsc, hu, k, kN⟩ := h
    refine ⟨_, (pss_cons (ps_set (i := 3) sc__law_stored.nd rfl (Or.inl rfl) (WP.pe_callC c_units_at hr rfl pass0 (WP.pa_consN (pv 1) (WP.pa_consN (pe_ix ix_tup (pv 0) pe_int (fun _ _ => rfl)) (WP.pa_consN (pv 2) pa_nil)))))
      (pss_cons (ps_set (i := 4) sc__law_stored.nd rfl (Or.inl rfl) (pe_ifExp (pt_cmpR op_eq (pe_ix ix_tup (pv 0) pe_int (fun _ _ => rfl)) (WP.pe_strL [110, 117, 109, 98, 101, 114] (by decide +kernel)) (nomark _)) (pe_ix ix_tup (pv 0) pe_int (fun _ _ => rfl)) (pe_cmpR op_ne (pe_ix ix_tup (pv 0) pe_int (fun _ _ => rfl)) (WP.pe_strL [] (by decide +kernel)) (nomark _))))
      (Evl.pss_cut (ps_if (PW.pt (pw_or (PW.pt (pw_and (pt_cmpR op_lt (pv 3) pe_int (nomark _)) (pw_and1 (pt_not (pt_val (pv 4)))))) (pw_or1 (PW.pt (pw_and (pt_cmpR op_ne (pv 3) pe_int (nomark _)) (pw_and1 (pt_cmpR op_gt (pe_callB WP.c_len (by rfl) B.b_len (by decide +kernel) (WP.pa_consN (pe_callTy WP.c_str (by rfl) B.b_str (by decide +kernel) (WP.pa_consN (pe_callB WP.c_abs (by rfl) B.b_abs (by decide +kernel) (WP.pa_consN (pv 3) pa_nil)) pa_nil)) pa_nil)) (pe_op op_add (pe_ix ix_tup (pv 0) pe_int (fun _ _ => rfl)) (pe_ix ix_tup (pv 0) pe_int (fun _ _ => rfl))) (nomark _)))))))) (pss_one (ps_ret pe_non)) pss_nil)
      (pss_one (ps_ret (WP.pe_callC c__law_written hr rfl pass0 (WP.pa_consN (pv 0) (WP.pa_consN (pv 3) pa_nil)))))))), ?_⟩
    have hn := ho.n1
    have hfr : pic.fr ≤ 18 := by have : pic.wh + pic.fr = pic.n := rfl; omega
    k_updF
    refine WP.ixT hp (MP.at_f pic) ?_
    k_updF
    refine ⟨q, u, sc, pic.fr, r, rfl, hq, hsc, by omega, MV.bt18 hu, fun x hx H1 e1 => ?_⟩
    have hx : x = MV.ua u sc pic.fr r := hx
    have hxl : x.natAbs ≤ 10 ^ 36 := by rw [hx]; exact MV.ua_le hu hfr
    rw [← hx] at k kN
    clear hx
    have hp := WP.sqt e1 hp
    k_memK; k_memK; k_memK
    refine MP.sgdE rfl hp ?_
    have hiff := MV.stored_iff pic hn.1 x
    k_updF
    have lg : x.natAbs.log2 < 1920 := WP.log2_lt (by decide) (Nat.lt_of_le_of_lt hxl (by decide +kernel))
    have lz : (TL.numL x.natAbs).length ≤ sizeLine := by
      have := TL.numL_len (k := 37) (by decide) (show x.natAbs < 10 ^ 37 from Nat.lt_of_le_of_lt hxl (by decide))
      rw [sizeLine_eq]; omega
    refine WP.cut (fun σ' H' => H' = H1 ∧ σ' = [some (.ref p), some (.ref q), some (.bl r), some (.int x), some (.bl pic.sgd)] ∧ MP.Suits pic x) ?_ ?_
    · k_updF
      by_cases c : x < 0
      · refine WP.brT (decide_eq_true c) ?_
        k_updF
        by_cases hsg : pic.sgd = false
        · refine WP.brT (show (!pic.sgd) = true by rw [hsg]; rfl) ?_
          refine WP.brT rfl ?_
          k_updF
          exact kN (hiff.mp (.inl ⟨c, hsg⟩)) _ e1
        · have hno : ¬ (x < 0 ∧ pic.sgd = false) := fun z => hsg z.2
          refine WP.brF (show (!pic.sgd) = false by cases h : pic.sgd with | false => exact absurd h hsg | true => rfl) ?_
          k_updF
          refine WP.brN (fun c2 => ?_) (fun c2 => ?_)
          · k_updF
            refine WP.absI ?_
            k_updF
            refine WP.strN lg ?_
            k_updF
            refine WP.lenS' lz ?_
            k_updF
            refine WP.ixT hp (MP.at_w pic) ?_
            k_updF
            refine WP.ixT hp (MP.at_f pic) ?_
            k_updF
            rw [← Int.natCast_add]
            refine WP.br (fun d => ?_) (fun d => ?_)
            · k_updF
              exact kN (hiff.mp (.inr ⟨c2, Int.ofNat_lt.mp d⟩)) _ e1
            · k_updF
              refine ⟨rfl, rfl, Classical.byContradiction fun z => ?_⟩
              rcases hiff.mpr z with h | h
              · exact hno h
              · exact d (Int.ofNat_lt.mpr h.2)
          · refine WP.brF rfl ?_
            k_updF
            refine ⟨rfl, rfl, Classical.byContradiction fun z => ?_⟩
            rcases hiff.mpr z with h | h
            · exact hno h
            · exact h.1 c2
      · have hno : ¬ (x < 0 ∧ pic.sgd = false) := fun z => c z.1
        refine WP.brF (decide_eq_false c) ?_
        refine WP.brF rfl ?_
        k_updF
        refine WP.brN (fun c2 => ?_) (fun c2 => ?_)
        · k_updF
          refine WP.absI ?_
          k_updF
          refine WP.strN lg ?_
          k_updF
          refine WP.lenS' lz ?_
          k_updF
          refine WP.ixT hp (MP.at_w pic) ?_
          k_updF
          refine WP.ixT hp (MP.at_f pic) ?_
          k_updF
          rw [← Int.natCast_add]
          refine WP.br (fun d => ?_) (fun d => ?_)
          · k_updF
            exact kN (hiff.mp (.inr ⟨c2, Int.ofNat_lt.mp d⟩)) _ e1
          · k_updF
            refine ⟨rfl, rfl, Classical.byContradiction fun z => ?_⟩
            rcases hiff.mpr z with h | h
            · exact hno h
            · exact d (Int.ofNat_lt.mpr h.2)
        · refine WP.brF rfl ?_
          k_updF
          refine ⟨rfl, rfl, Classical.byContradiction fun z => ?_⟩
          rcases hiff.mpr z with h | h
          · exact hno h
          · exact h.1 c2
    rintro σ' H' ⟨rfl, rfl, hs⟩
    k_updF
    exact ⟨p, pic, x, rfl, hp, ho, hs, fun H2 e2 => k hs _ (e1.trans e2)⟩
end
abbrev s_is_printable : Stmt := top 8
abbrev N_is_printable : List Str := ["value", "codes", "character"]
theorem sc_is_printable : FnScope N_is_printable ["value"] (defScope s_is_printable) := ⟨rfl, rfl, rfl, by decide +kernel, rfl, by decide +kernel, by decide +kernel⟩
def sp_is_printable (K : PySem.W.Frag) (mg : WP.MG) : Sp := fun vs H Q _ => ∃ v : V, vs = [v] ∧ MW.Wd K H v ∧ GxR.TabG H (WP.tbl K "is_printable") ∧ WP.MetV (.bl (MW.onS MW.prn v)) H Q
section
variable {P : Program} {w : World} {K : PySem.W.Frag} {mg : Str → Option Value} {base : Heap}
theorem ok_is_printable {f : Addr} {fd : FuncData} (F : WP.FunC K "is_printable" "is_printable" s_is_printable f fd (WP.cod K "is_printable")) (T : GxR.TabB base mg (WP.cod K "is_printable") (WP.tbl K "is_printable")) (B : Blt w K mg)  : FnOk P w K mg base CX0 1 f fd ["value"] (sp_is_printable K mg) := by
  refine F.ok sc_is_printable (fun vs H Q E h => ?_) (fun A outer s H vs Q E hr h => ?_)
  · first | (obtain ⟨_, rfl, _⟩ := h; rfl) | (obtain ⟨_, _, rfl, _⟩ := h; rfl) | (obtain ⟨_, _, _, rfl, _⟩ := h; rfl) | (obtain ⟨_, _, _, _, rfl, _⟩ := h; rfl) | (obtain ⟨_, _, _, _, _, rfl, _⟩ := h; rfl) | (obtain ⟨_, _, _, _, _, _, rfl, _⟩ := h; rfl) | (obtain ⟨_, _, _, _, _, _, _, rfl, _⟩ := h; rfl) | (obtain ⟨_, _, _, _, _, _, _, _, rfl, _⟩ := h; rfl) | (obtain ⟨rfl, _⟩ := h; rfl)
  · obtain ⟨v, rfl, hw, hT, k⟩ := h
    refine ⟨_, (pss_cons (ps_if (pt_not (pt_val (pe_callB call_isi (by rfl) B.b_isinstance (by decide +kernel) (pa_cons (pv 0) (pa_cons (pe_bltn (v := .ty "str") rfl B.b_str (by decide +kernel) rfl) pa_nil))))) (pss_one (ps_ret pe_bl)) pss_nil)
      (pss_cons (ps_setLc (i := 1) (own := [("character", 2)]) (g := gName 2) (tt := tYes) rfl sc_is_printable.nd rfl rfl (sw_true rfl rfl rfl (by decide +kernel)) (pi_str (pv 0)) (blkOk_by (own := [("character", 2)]) (N := N_is_printable) (sc := defScope s_is_printable) (by decide +kernel)) (fun _ _ _ _ _ => pg_name (i := 2) sc_is_printable.nd rfl (Or.inl rfl)) (fun _ _ _ _ _ => pts_nil) (fun _ _ _ _ _ => (pe_callB WP.c_ord (by rfl) B.b_ord (by decide +kernel) (WP.pa_consN (pv 2) pa_nil))))
      (pss_one (ps_ret (WP.pe_allR hr rfl B.b_all rfl T rfl (WP.gsc_by (sc := defScope s_is_printable) (by decide +kernel)) (pv 1) B.c_FIRST_PRINTABLE B.c_LAST_PRINTABLE B.c_NOT_PRINTABLE rfl rfl rfl (fun _ => rfl)))))), ?_⟩
    k_updF
    refine hw.isStr ?_
    k_updF
    rcases hw.cases with ⟨l, rfl, hl, ok⟩ | ⟨e1, e2⟩
    · refine WP.brF rfl ?_
      k_updF
      rw [MW.onS_S] at k
      refine ⟨_, rfl, fun D hD => WP.lc_txt (fun i Hx => Hx = upd H D (.lst ((l.take i).map fun c => V.int ((c : Nat) : Int)))) rfl ?_ ?_⟩
      · rintro i c Hx hc rfl
        have et : l.take (i + 1) = l.take i ++ [c] := by rw [List.take_succ, hc]; rfl
        k_updF
        refine ⟨rfl, ?_⟩
        refine WP.yes ?_
        k_updF
        refine WP.ordS rfl ?_
        refine ⟨_, upd_same, ?_, ?_⟩
        · rw [List.length_map, List.length_take, sizeLine_eq]; omega
        · rw [et, List.map_append, upd_upd]
          rfl
      rintro Hx rfl
      k_updF
      rw [List.take_length]
      have e1 : Same H (upd H D (.lst (l.map fun c => V.int ((c : Nat) : Int)))) := WP.same_new hD
      have hT' := (WP.Sm.of e1).t _ hT
      refine WP.var rfl ⟨hT', D, l.map fun c => ((c : Nat) : Int), rfl, SqL.of (by rw [upd_same, List.map_map]; rfl), fun H2 h2 => ?_⟩
      rw [MW.prn_codes]
      exact k _ ((WP.Sm.of e1).trans (.tab hT' h2))
    · rw [e1]
      rw [e2] at k
      refine WP.brT rfl ?_
      k_updF
      exact k _ (.refl _)
end
abbrev s_holds : Stmt := top 29
abbrev N_holds : List Str := ["picture", "text"]
theorem sc_holds : FnScope N_holds ["picture", "text"] (defScope s_holds) := ⟨rfl, rfl, rfl, by decide +kernel, rfl, by decide +kernel, by decide +kernel⟩
def sp_holds (K : PySem.W.Frag) (mg : WP.MG) : Sp := fun vs H Q _ => ∃ (p : Addr) (r : MR.Res) (l : List Nat), vs = [.ref p, .str (SX.S l)] ∧ SqT K H p r.vs ∧ (∀ q, r = .pic q → q.Ok) ∧ l.length ≤ 1000 ∧ (∀ c ∈ l, c < 128) ∧ GxR.TabG H (WP.tbl K "is_printable") ∧ GxR.TabG H (WP.tbl K "is_printable") ∧ WP.MetV (.bl (MF.hld r l)) H Q
section
variable {P : Program} {w : World} {K : PySem.W.Frag} {mg : Str → Option Value} {base : Heap}
theorem ok_holds {f : Addr} {fd : FuncData} (F : Fun K "holds" "holds" s_holds f fd) (B : Blt w K mg) (c_reading : WP.Callee P w K mg base CX0 6 "reading" ["picture", "text"] (sp_reading K mg)) (c_is_printable : WP.Callee P w K mg base CX0 1 "is_printable" ["value"] (sp_is_printable K mg)) (c_size_of : WP.Callee P w K mg base CX0 2 "size_of" ["picture"] (sp_size_of K mg)) : FnOk P w K mg base CX0 7 f fd ["picture", "text"] (sp_holds K mg) := by
  refine F.ok sc_holds (fun vs H Q E h => ?_) (fun cdv A outer s H vs Q E hr h => ?_)
  · first | (obtain ⟨_, rfl, _⟩ := h; rfl) | (obtain ⟨_, _, rfl, _⟩ := h; rfl) | (obtain ⟨_, _, _, rfl, _⟩ := h; rfl) | (obtain ⟨_, _, _, _, rfl, _⟩ := h; rfl) | (obtain ⟨_, _, _, _, _, rfl, _⟩ := h; rfl) | (obtain ⟨_, _, _, _, _, _, rfl, _⟩ := h; rfl) | (obtain ⟨_, _, _, _, _, _, _, rfl, _⟩ := h; rfl) | (obtain ⟨_, _, _, _, _, _, _, _, rfl, _⟩ := h; rfl) | (obtain ⟨rfl, _⟩ := h; rfl)
  · obtain ⟨p, r, l, rfl, hp, ho, hl, ok, hT, hT2, k⟩ := h
    refine ⟨_, (pss_cons (ps_if (pt_cmpR op_eq (pe_ix ix_tup (pv 0) pe_int (fun _ _ => rfl)) (WP.pe_strL [116, 101, 120, 116] (by decide +kernel)) (nomark _)) (pss_one (ps_ret (pe_and (pe_cmpR op_eq (pe_callB WP.c_len (by rfl) B.b_len (by decide +kernel) (WP.pa_consN (pv 1) pa_nil)) (WP.pe_callC c_size_of hr rfl pass0 (WP.pa_consN (pv 0) pa_nil)) (nomark _)) (pe_one (WP.pe_callC c_is_printable hr rfl pass0 (WP.pa_consN (pv 1) pa_nil)))))) pss_nil)
      (pss_one (ps_ret (pe_cmpR op_notN (WP.pe_callC c_reading hr rfl pass0 (WP.pa_consN (pv 0) (WP.pa_consN (pv 1) pa_nil))) pe_non (nomark _))))), ?_⟩
    have hz : l.length ≤ sizeLine := by rw [sizeLine_eq]; omega
    cases r with
    | txt n =>
      have k : WP.MetV (.bl (decide (l.length = n) && MW.prn l)) H Q := k
      k_updF
      refine WP.ixT hp WP.at0 ?_
      k_updF
      refine WP.brT rfl ?_
      k_updF
      refine WP.lenS' hz ?_
      k_updF
      refine ⟨p, .txt n, rfl, hp, (fun _ _ _ _ e => by cases e), ?_⟩
      k_updF
      refine WP.br (fun c => ?_) (fun c => ?_)
      · have c : l.length = n := Int.ofNat.inj c
        rw [decide_eq_true c, Bool.true_and] at k
        k_updF
        exact ⟨_, rfl, .str hl ok, hT2, k⟩
      · rw [decide_eq_false (show ¬ l.length = n from fun e => c (congrArg Nat.cast e)), Bool.false_and] at k
        exact k _ (.refl _)
    | pic q =>
      have k : WP.MetV (.bl (MF.rd q l).isSome) H Q := k
      have e0 : atI q.vs (0 : Int) = some (.str (SX.S (match q with | .num _ _ _ => [110, 117, 109, 98, 101, 114] | .ed _ _ _ _ => [101, 100, 105, 116, 101, 100]))) := by cases q <;> exact WP.at0
      k_updF
      refine WP.ixT hp e0 ?_
      k_updF
      refine WP.brF (by cases q <;> rfl) ?_
      k_updF
      refine ⟨p, q, l, rfl, hp, ho q rfl, hl, ok, hT, fun H1 e1 => ?_⟩
      k_updF
      refine ⟨rfl, ?_⟩
      cases hr' : MF.rd q l with
      | none =>
        rw [hr'] at k
        exact k _ e1
      | some u =>
        rw [hr'] at k
        exact k _ e1
end
abbrev s_law : Stmt := top 67
abbrev N_law : List Str := ["script", "k", "rich", "source", "target", "can", "content", "text", "picture", "value", "size"]
theorem sc_law : FnScope N_law ["script"] (defScope s_law) := ⟨rfl, rfl, rfl, by decide +kernel, rfl, by decide +kernel, by decide +kernel⟩
theorem pic2 {H : Hp} {Q : VK} {c d : Prop} {K : PySem.W.Frag} (h : ∀ (x : MR.Res) (p : Addr) (H' : Hp), Same H H' → SqT K H' p x.vs → MV.ROk x → Q (.ref p) H') : (c → ∀ n : Nat, 1 ≤ n → n ≤ 12 → WP.RetT [.str (SX.S [116, 101, 120, 116]), .int (n : Int)] H Q) ∧ (d → ∀ pic : MP.Pic, pic.Ok → WP.RetT pic.vs H Q) :=
  ⟨fun _ n n1 n2 p H' e hp => h (.txt n) p H' e (SqT.of hp) ⟨n1, n2⟩, fun _ pic ho p H' e hp => h (.pic pic) p H' e (SqT.of hp) ho⟩
def sp_law (K : PySem.W.Frag) : Sp := fun vs H Q _ => ∃ (a : Addr) (ns : List Int), vs = [.ref a] ∧ SqL K H a (ns.map V.int) ∧ ns.length ≤ 63 ∧ GxR.TabG H (WP.tbl K "is_printable") ∧ ∀ H', Q (.bl true) H'
section
variable {P : Program} {w : World} {K : PySem.W.Frag} {mg : Str → Option Value} {base : Heap}
theorem ok_law {f : Addr} {fd : FuncData} (F : Fun K "law" "law" s_law f fd) (B : Blt w K mg) (c__law_rich : WP.Callee P w K mg base CX0 1 "_law_rich" ["cell", "k"] (sp__law_rich K mg)) (c__law_side : WP.Callee P w K mg base CX0 2 "_law_side" ["rich"] (sp__law_side K mg)) (c__law_can : WP.Callee P w K mg base CX0 1 "_law_can" ["source", "target"] (sp__law_can K mg)) (c__law_content : WP.Callee P w K mg base CX0 4 "_law_content" ["source", "rich"] (sp__law_content K mg 2)) (c__law_picture : WP.Callee P w K mg base CX0 1 "_law_picture" ["rich"] (sp__law_picture K mg)) (c__law_number : WP.Callee P w K mg base CX0 2 "_law_number" ["rich"] (sp__law_number K mg)) (c__law_cell : WP.Callee P w K mg base CX0 1 "_law_cell" ["script", "k"] (sp__law_cell K mg)) (c_moved : WP.Callee P w K mg base CX0 8 "moved" ["source", "content", "target"] (sp_moved K mg)) (c_padded : WP.Callee P w K mg base CX0 1 "padded" ["text", "size"] (sp_padded K mg)) (c__law_pad : WP.Callee P w K mg base CX0 1 "_law_pad" ["text", "size"] (sp__law_pad K mg)) (c_can_move : WP.Callee P w K mg base CX0 2 "can_move" ["source", "target"] (sp_can_move K mg)) (c__law_moved : WP.Callee P w K mg base CX0 5 "_law_moved" ["source", "content", "target", "rich"] (sp__law_moved K mg)) (c_figures_of : WP.Callee P w K mg base CX0 2 "figures_of" ["picture", "text"] (sp_figures_of K mg)) (c_cut_to : WP.Callee P w K mg base CX0 5 "cut_to" ["target", "value"] (sp_cut_to K mg)) (c__law_cut : WP.Callee P w K mg base CX0 4 "_law_cut" ["target", "value"] (sp__law_cut K mg)) (c_stored : WP.Callee P w K mg base CX0 5 "stored" ["target", "value", "is_rounded"] (sp_stored K mg)) (c__law_stored : WP.Callee P w K mg base CX0 4 "_law_stored" ["target", "value", "is_rounded"] (sp__law_stored K mg)) (c_holds : WP.Callee P w K mg base CX0 7 "holds" ["picture", "text"] (sp_holds K mg)) : FnOk P w K mg base CX0 9 f fd ["script"] (sp_law K) := by
  refine F.ok sc_law (fun vs H Q E h => ?_) (fun cdv A outer s H vs Q E hr h => ?_)
  · first | (obtain ⟨_, rfl, _⟩ := h; rfl) | (obtain ⟨_, _, rfl, _⟩ := h; rfl) | (obtain ⟨_, _, _, rfl, _⟩ := h; rfl) | (obtain ⟨_, _, _, _, rfl, _⟩ := h; rfl) | (obtain ⟨_, _, _, _, _, rfl, _⟩ := h; rfl) | (obtain ⟨_, _, _, _, _, _, rfl, _⟩ := h; rfl) | (obtain ⟨_, _, _, _, _, _, _, rfl, _⟩ := h; rfl) | (obtain ⟨_, _, _, _, _, _, _, _, rfl, _⟩ := h; rfl) | (obtain ⟨rfl, _⟩ := h; rfl)
  · obtain ⟨a, ns, rfl, ha, hl, hT, k⟩ := h
    have hT2 := hT
    refine ⟨_, (pss_cons (ps_for PassesOwn.never rfl (pi_range1 rfl B.b_range (WP.pa_consN (pe_callB (WP.c_max2 rfl) (by rfl) B.b_max (by decide +kernel) (WP.pa_consN pe_int (WP.pa_consN (pe_callB (WP.c_min2 rfl) (by rfl) B.b_min (by decide +kernel) (WP.pa_consN pe_int (WP.pa_consN (pe_callB WP.c_len (by rfl) B.b_len (by decide +kernel) (WP.pa_consN (pv 0) pa_nil)) pa_nil))) pa_nil))) pa_nil)) (pg_name (i := 1) sc_law.nd rfl (Or.inl rfl)) (pss_cons (ps_set (i := 2) sc_law.nd rfl (Or.inl rfl) (WP.pe_callC c__law_rich hr rfl pass0 (WP.pa_consN (WP.pe_callC c__law_cell hr rfl pass0 (WP.pa_consN (pv 0) (WP.pa_consN (pv 1) pa_nil))) (WP.pa_consN (pv 1) pa_nil))))
      (Evl.pss_cut (ps_set (i := 3) sc_law.nd rfl (Or.inl rfl) (pe_ix ix_list (pe_lst (WP.pa_consN (pe_tup (WP.pa_consN (WP.pe_strL [115, 116, 114, 105, 110, 103] (by decide +kernel)) pa_nil)) (WP.pa_consN (pe_tup (WP.pa_consN (WP.pe_strL [100, 101, 99, 105, 109, 97, 108] (by decide +kernel)) pa_nil)) (WP.pa_consN (WP.pe_callC c__law_side hr rfl pass0 (WP.pa_consN (pe_op op_fdiv (pv 2) pe_int) pa_nil)) (WP.pa_consN (WP.pe_callC c__law_side hr rfl pass0 (WP.pa_consN (pe_op op_fdiv (pv 2) pe_int) pa_nil)) pa_nil))))) (pe_op op_mod (pv 2) pe_int) (fun _ _ => rfl)))
      (pss_cons (ps_set (i := 4) sc_law.nd rfl (Or.inl rfl) (WP.pe_callC c__law_side hr rfl pass0 (WP.pa_consN (pe_op op_fdiv (pv 2) pe_int) pa_nil)))
      (Evl.pss_cut (ps_if (PW.pt (pw_and (pt_cmpR op_eq (pe_op op_mod (pe_op op_fdiv (pv 2) pe_int) pe_int) pe_int (nomark _)) (pw_and1 (pt_cmpR op_eq (pe_ix ix_tup (pv 3) pe_int (fun _ _ => rfl)) (WP.pe_strL [103, 114, 111, 117, 112] (by decide +kernel)) (nomark _))))) (pss_one (ps_set (i := 4) sc_law.nd rfl (Or.inl rfl) (pv 3))) pss_nil)
      (pss_cons (ps_set (i := 5) sc_law.nd rfl (Or.inl rfl) (WP.pe_callC c__law_can hr rfl pass0 (WP.pa_consN (pv 3) (WP.pa_consN (pv 4) pa_nil))))
      (Evl.pss_cut (ps_if (PW.pt (pw_or (pt_not (pt_val (pe_callB call_isi (by rfl) B.b_isinstance (by decide +kernel) (pa_cons (WP.pe_callC c_can_move hr rfl pass0 (WP.pa_consN (pv 3) (WP.pa_consN (pv 4) pa_nil))) (pa_cons (pe_bltn (v := .ty "bool") rfl B.b_bool (by decide +kernel) rfl) pa_nil))))) (pw_or1 (pt_cmpR op_ne (WP.pe_callC c_can_move hr rfl pass0 (WP.pa_consN (pv 3) (WP.pa_consN (pv 4) pa_nil))) (pv 5) (nomark _))))) (pss_one (ps_ret pe_bl)) pss_nil)
      (pss_cons (ps_set (i := 6) sc_law.nd rfl (Or.inl rfl) (WP.pe_callC c__law_content hr rfl pass0 (WP.pa_consN (pv 3) (WP.pa_consN (pe_op op_fdiv (pv 2) pe_int) pa_nil))))
      (Evl.pss_cut (ps_if (pt_val (pv 5)) (pss_cons (ps_set (i := 7) sc_law.nd rfl (Or.inl rfl) (WP.pe_callC c_moved hr rfl pass0 (WP.pa_consN (pv 3) (WP.pa_consN (pv 6) (WP.pa_consN (pv 4) pa_nil)))))
      (Evl.pss_cut (ps_if (pt_cmpR op_ne (pv 7) (WP.pe_callC c__law_moved hr rfl pass0 (WP.pa_consN (pv 3) (WP.pa_consN (pv 6) (WP.pa_consN (pv 4) (WP.pa_consN (pe_op op_fdiv (pv 2) pe_int) pa_nil))))) (nomark _)) (pss_one (ps_ret pe_bl)) pss_nil)
      (pss_one (ps_if (PW.pt (pw_and (pt_cmpR op_ne (pe_ix ix_tup (pv 4) pe_int (fun _ _ => rfl)) (WP.pe_strL [103, 114, 111, 117, 112] (by decide +kernel)) (nomark _)) (pw_and1 (pt_not (pt_val (WP.pe_callC c_holds hr rfl pass0 (WP.pa_consN (pv 4) (WP.pa_consN (pv 7) pa_nil)))))))) (pss_one (ps_ret pe_bl)) pss_nil)))) pss_nil)
      (Evl.pss_cut (ps_if (PW.pt (pw_and (pt_cmpR op_eq (pe_ix ix_tup (pv 3) pe_int (fun _ _ => rfl)) (WP.pe_strL [110, 117, 109, 98, 101, 114] (by decide +kernel)) (nomark _)) (pw_and1 (pt_cmpR op_ne (WP.pe_callC c_figures_of hr rfl pass0 (WP.pa_consN (pv 3) (WP.pa_consN (pv 6) pa_nil))) (pe_ifExp (pt_val (pe_ix ix_tup (pv 3) pe_int (fun _ _ => rfl))) (pe_slice sl_str (pv 6) (po_some pe_int) po_none) (pv 6)) (nomark _))))) (pss_one (ps_ret pe_bl)) pss_nil)
      (pss_cons (ps_set (i := 8) sc_law.nd rfl (Or.inl rfl) (WP.pe_callC c__law_picture hr rfl pass0 (WP.pa_consN (pe_op op_fdiv (pv 2) pe_int) pa_nil)))
      (pss_cons (ps_set (i := 9) sc_law.nd rfl (Or.inl rfl) (WP.pe_callC c__law_number hr rfl pass0 (WP.pa_consN (pe_op op_fdiv (pv 2) pe_int) pa_nil)))
      (Evl.pss_cut (ps_if (pt_cmpR op_ne (pe_ix ix_tup (pv 8) pe_int (fun _ _ => rfl)) (WP.pe_strL [116, 101, 120, 116] (by decide +kernel)) (nomark _)) (Evl.pss_cut (ps_if (pt_cmpR op_ne (WP.pe_callC c_cut_to hr rfl pass0 (WP.pa_consN (pv 8) (WP.pa_consN (pv 9) pa_nil))) (WP.pe_callC c__law_cut hr rfl pass0 (WP.pa_consN (pv 8) (WP.pa_consN (pv 9) pa_nil))) (nomark _)) (pss_one (ps_ret pe_bl)) pss_nil)
      (pss_one (ps_if (pt_cmpR op_ne (WP.pe_callC c_stored hr rfl pass0 (WP.pa_consN (pv 8) (WP.pa_consN (pv 9) (WP.pa_consN (pe_cmpR op_eq (pe_op op_mod (pv 2) pe_int) pe_int (nomark _)) pa_nil)))) (WP.pe_callC c__law_stored hr rfl pass0 (WP.pa_consN (pv 8) (WP.pa_consN (pv 9) (WP.pa_consN (pe_cmpR op_eq (pe_op op_mod (pv 2) pe_int) pe_int (nomark _)) pa_nil)))) (nomark _)) (pss_one (ps_ret pe_bl)) pss_nil))) pss_nil)
      (pss_cons (ps_set (i := 10) sc_law.nd rfl (Or.inl rfl) (pe_op op_mod (pe_op op_fdiv (pv 2) pe_int) pe_int))
      (pss_one (ps_if (pt_cmpR op_ne (WP.pe_callC c_padded hr rfl pass0 (WP.pa_consN (WP.pe_strL [97, 98, 99, 100, 101] (by decide +kernel)) (WP.pa_consN (pv 10) pa_nil))) (WP.pe_callC c__law_pad hr rfl pass0 (WP.pa_consN (WP.pe_strL [97, 98, 99, 100, 101] (by decide +kernel)) (WP.pa_consN (pv 10) pa_nil))) (nomark _)) (pss_one (ps_ret pe_bl)) pss_nil))))))))))))))))
      (pss_one (ps_ret pe_bl))), ?_⟩
    k_updF
    refine WP.lenL ha ?_
    k_updF
    refine WP.minI ?_
    k_updF
    refine WP.maxI ?_
    k_updF
    rw [List.length_map]
    refine ⟨_, rfl, by omega, by omega, for_range (lo := 0) (n := _) (fun i σ' H' => (∃ z1 z2 z3 z4 z5 z6 z7 z8 z9 z10, σ' = [some (.ref a), z1, z2, z3, z4, z5, z6, z7, z8, z9, z10]) ∧ WP.Sm H H') ⟨⟨_, _, _, _, _, _, _, _, _, _, rfl⟩, .refl _⟩ ?_ ?_⟩
    rotate_left
    · rintro σ' H' ⟨_, _⟩
      k_updF
      exact k _
    rintro i σ' H1 hi ⟨⟨z1, z2, z3, z4, z5, z6, z7, z8, z9, z10, rfl⟩, e1⟩
    have hTa := e1.t _ hT
    have hTb := e1.t _ hT2
    k_updF
    refine ⟨a, ns, _, rfl, e1.lst ha, by omega, fun c => ?_⟩
    k_updF
    refine ⟨c, _, rfl, fun rich hr0 => ?_⟩
    k_updF
    refine WP.cut (fun σ' H' => Same H1 H' ∧ ∃ (p : Addr) (s : MV.Side), σ' = [some (.ref a), some (.int (0 + (i : Int))), some (.int rich), some (.ref p), z4, z5, z6, z7, z8, z9, z10] ∧ MV.SideAt K H' p s ∧ s.Ok) ?_ ?_
    · k_updF
      refine ⟨WP.sz (by decide), fun p1 hp1 => ?_⟩
      have e2 : Same H1 (upd H1 p1 (.tup [.str (SX.S [115, 116, 114, 105, 110, 103])])) := WP.same_new hp1
      have s1 : SqT K (upd H1 p1 (.tup [.str (SX.S [115, 116, 114, 105, 110, 103])])) p1 [.str (SX.S MV.STR)] := SqT.of upd_same
      generalize upd H1 p1 (.tup [.str (SX.S [115, 116, 114, 105, 110, 103])]) = H2 at e2 s1 ⊢
      k_updF
      refine ⟨WP.sz (by decide), fun p2 hp2 => ?_⟩
      have e3 : Same H2 (upd H2 p2 (.tup [.str (SX.S [100, 101, 99, 105, 109, 97, 108])])) := WP.same_new hp2
      have s2 : SqT K (upd H2 p2 (.tup [.str (SX.S [100, 101, 99, 105, 109, 97, 108])])) p2 [.str (SX.S MV.DEC)] := SqT.of upd_same
      generalize upd H2 p2 (.tup [.str (SX.S [100, 101, 99, 105, 109, 97, 108])]) = H3 at e3 s2 ⊢
      k_updF
      refine WP.iC ⟨by decide, by decide⟩ ?_
      k_updF
      refine ⟨_, rfl, Int.ediv_nonneg hr0 (by decide), fun p3 x3 H4 e4 s3 o3 _ => ?_⟩
      k_updF
      refine WP.iC ⟨by decide, by decide⟩ ?_
      k_updF
      refine ⟨_, rfl, Int.ediv_nonneg hr0 (by decide), fun p4 x4 H5 e5 s4 o4 _ => ?_⟩
      k_updF
      refine ⟨WP.sz (show 4 ≤ 1000000 by decide), fun L hL => ?_⟩
      have e6 : Same H5 (upd H5 L (.lst [.ref p1, .ref p2, .ref p3, .ref p4])) := WP.same_new hL
      have hLL : SqL K (upd H5 L (.lst [.ref p1, .ref p2, .ref p3, .ref p4])) L [.ref p1, .ref p2, .ref p3, .ref p4] := SqL.of upd_same
      change _ at hLL
      generalize upd H5 L (.lst [.ref p1, .ref p2, .ref p3, .ref p4]) = H6 at e6 hLL ⊢
      have e26 : Same H2 H6 := ((e3.trans e4).trans e5).trans e6
      have fin : ∀ (p : Addr) (s : MV.Side), MV.SideAt K H6 p s → s.Ok → Same H1 H6 ∧ ∃ (p' : Addr) (s : MV.Side), [some (V.ref a), some (.int (0 + (i : Int))), some (.int rich), some (.ref p), z4, z5, z6, z7, z8, z9, z10] = [some (.ref a), some (.int (0 + (i : Int))), some (.int rich), some (.ref p'), z4, z5, z6, z7, z8, z9, z10] ∧ MV.SideAt K H6 p' s ∧ s.Ok := fun p s hp os => ⟨e2.trans e26, p, s, rfl, hp, os⟩
      k_updF
      refine WP.iC (show (0 : Int) < 4 by decide) ?_
      have r0 := Int.emod_nonneg rich (show (4 : Int) ≠ 0 by decide)
      have r1 := Int.emod_lt_of_pos rich (show (0 : Int) < 4 by decide)
      generalize rich % 4 = m at r0 r1 ⊢
      have hm : m = 0 ∨ m = 1 ∨ m = 2 ∨ m = 3 := by omega
      rcases hm with rfl | rfl | rfl | rfl
      · refine WP.ixL hLL WP.at0 ?_
        k_updF
        exact fin p1 .str (WP.sqt e26 s1) trivial
      · refine WP.ixL hLL WP.at1 ?_
        k_updF
        exact fin p2 .dec (WP.sqt ((e4.trans e5).trans e6) s2) trivial
      · refine WP.ixL hLL WP.at2 ?_
        k_updF
        exact fin p3 x3 (MV.SideAt.sm (WP.Sm.of (e5.trans e6)) s3) o3
      · refine WP.ixL hLL WP.at3 ?_
        k_updF
        exact fin p4 x4 (MV.SideAt.sm (WP.Sm.of e6) s4) o4
    rintro σ' H2 ⟨e2, p, s, rfl, hp, os⟩
    have hTc := (e1.trans (WP.Sm.of e2)).t _ hT
    have hTd := (e1.trans (WP.Sm.of e2)).t _ hT2
    k_updF
    refine WP.iC ⟨by decide, by decide⟩ ?_
    k_updF
    refine ⟨_, rfl, Int.ediv_nonneg hr0 (by decide), fun q0 t0 H3 e3 hq0 ot0 tt0 => ?_⟩
    k_updF
    refine WP.cut (fun σ' H' => H' = H3 ∧ ∃ (q : Addr) (t : MV.Side), σ' = [some (.ref a), some (.int (0 + (i : Int))), some (.int rich), some (.ref p), some (.ref q), z5, z6, z7, z8, z9, z10] ∧ MV.SideAt K H3 q t ∧ t.Ok ∧ MV.Side.Tg t) ?_ ?_
    · obtain ⟨xs, hx, h0⟩ := hp.at0
      have hx3 := WP.sqt e3 hx
      have z : some (V.ref q0) = some (V.ref q0) := rfl
      k_updF
      refine WP.iC ⟨by decide, by decide⟩ ?_
      k_updF
      refine WP.iC (show (0 : Int) < 6 by decide) ?_
      k_updF
      refine WP.br (fun c1 => ?_) (fun c1 => ?_)
      · k_updF
        refine WP.ixT hx3 h0 ?_
        k_updF
        refine WP.br (fun cg => ?_) (fun cg => ?_)
        · k_updF
          obtain ⟨ts, rfl⟩ := MV.tg_grp cg
          exact ⟨rfl, p, _, rfl, MV.SideAt.sm (WP.Sm.of e3) hp, os, trivial⟩
        · k_updF
          exact ⟨rfl, q0, t0, rfl, hq0, ot0, tt0⟩
      · refine WP.brF rfl ?_
        k_updF
        exact ⟨rfl, q0, t0, rfl, hq0, ot0, tt0⟩
    rintro σ' H' ⟨rfl, q, t, rfl, hq, ot, tt⟩
    have hp := MV.SideAt.sm (WP.Sm.of e3) hp
    k_updF
    refine ⟨p, q, s, t, rfl, hp, hq, os, ot, tt, fun H4 e4 => ?_⟩
    have hp := MV.SideAt.sm (WP.Sm.of e4) hp
    have hq := MV.SideAt.sm (WP.Sm.of e4) hq
    k_updF
    refine WP.cut (fun σ' H5 => Same H4 H5 ∧ σ' = [some (.ref a), some (.int (0 + (i : Int))), some (.int rich), some (.ref p), some (.ref q), some (.bl (MV.cn s t)), z6, z7, z8, z9, z10]) ?_ ?_
    · k_updF
      refine ⟨p, q, s, t, rfl, hp, hq, os, ot, fun H5 e5 => ?_⟩
      have hp := MV.SideAt.sm (WP.Sm.of e5) hp
      have hq := MV.SideAt.sm (WP.Sm.of e5) hq
      k_updF
      refine WP.isY (.base (.bl _)) ?_
      refine ⟨_, rfl, ?_⟩
      refine WP.brF rfl ?_
      k_updF
      refine ⟨p, q, s, t, rfl, hp, hq, os, ot, fun H6 e6 => ?_⟩
      k_updF
      refine WP.brF (by rw [decide_eq_true rfl]; rfl) ?_
      k_updF
      exact ⟨e5.trans e6, rfl⟩
    rintro σ' H5 ⟨e5, rfl⟩
    have hp := MV.SideAt.sm (WP.Sm.of e5) hp
    have hq := MV.SideAt.sm (WP.Sm.of e5) hq
    k_updF
    refine WP.iC ⟨by decide, by decide⟩ ?_
    k_updF
    refine ⟨p, s, _, rfl, hp, os, Int.ediv_nonneg hr0 (by decide), .inl (Nat.le_refl 1), fun v c0 H6 e6 hcr hca => ?_⟩
    have hp := MV.SideAt.sm (WP.Sm.of e6) hp
    have hq := MV.SideAt.sm (WP.Sm.of e6) hq
    have hTe := ((((e1.trans (WP.Sm.of e2)).trans (WP.Sm.of e3)).trans (WP.Sm.of e4)).trans (WP.Sm.of e5)).trans (WP.Sm.of e6)
    have hT6 := hTe.t _ hT
    have hU6 := hTe.t _ hT2
    k_updF
    refine WP.cut (fun σ' H7 => WP.Sm H6 H7 ∧ ∃ z, σ' = [some (.ref a), some (.int (0 + (i : Int))), some (.int rich), some (.ref p), some (.ref q), some (.bl (MV.cn s t)), some v, z, z8, z9, z10]) ?_ ?_
    · k_updF
      cases ck : MV.cn s t with
      | true =>
        refine WP.brT rfl ?_
        k_updF
        refine ⟨p, q, s, t, v, c0, rfl, hp, hq, os, ot, tt, ck, hcr.1, hca, hT6, fun H7 e7 => ?_⟩
        have hp7 := MV.SideAt.sm e7 hp
        have hq7 := MV.SideAt.sm e7 hq
        have hv7 := MV.ContAt.sm e7 hca
        have hT7 := e7.t _ hT6
        have hU7 := e7.t _ hU6
        k_updF
        refine WP.cut (fun σ' H8 => Same H7 H8 ∧ σ' = [some (.ref a), some (.int (0 + (i : Int))), some (.int rich), some (.ref p), some (.ref q), some (.bl true), some v, some (.str (SX.S (MV.mvT s t c0))), z8, z9, z10]) ?_ ?_
        · k_updF
          refine WP.iC ⟨by decide, by decide⟩ ?_
          k_updF
          refine ⟨p, q, s, t, v, c0, _, rfl, hp7, hq7, os, ot, tt, ck, hcr, hv7, fun H8 e8 => ?_⟩
          refine WP.neTS ?_
          refine ⟨_, rfl, ?_⟩
          refine WP.brF (by rw [decide_eq_true rfl]; rfl) ?_
          k_updF
          exact ⟨e8, rfl⟩
        rintro σ' H8 ⟨e8, rfl⟩
        obtain ⟨ys, hy, h1⟩ := (MV.SideAt.sm (WP.Sm.of e8) hq7).at0
        have hq8 := MV.SideAt.sm (WP.Sm.of e8) hq7
        k_updF
        refine WP.ixT hy h1 ?_
        k_updF
        refine WP.brN (fun cg => ?_) (fun cg => ?_)
        · have htr : ∃ r, t = .res r := by
            cases t with
            | res r => exact ⟨r, rfl⟩
            | grp rs => exact absurd rfl cg
            | str => exact tt.elim
            | dec => exact tt.elim
          obtain ⟨r, rfl⟩ := htr
          obtain ⟨m1, m2, m3⟩ := MV.mv_hld os ot hcr.1 ck
          k_updF
          refine ⟨q, r, _, rfl, hq8, fun x e => by subst e; exact ot, by omega, m3, (WP.Sm.of e8).t _ hT7, (WP.Sm.of e8).t _ hU7, fun H9 e9 => ?_⟩
          rw [m1]
          refine ⟨_, rfl, ?_⟩
          refine WP.brF rfl ?_
          k_updF
          exact ⟨(e7.trans (WP.Sm.of e8)).trans e9, _, rfl⟩
        · refine WP.brF rfl ?_
          k_updF
          exact ⟨e7.trans (WP.Sm.of e8), _, rfl⟩
      | false =>
        refine WP.brF rfl ?_
        k_updF
        exact ⟨.refl _, _, rfl⟩
    rintro σ' H7 ⟨e7, z7, rfl⟩
    have hp := MV.SideAt.sm e7 hp
    have hv7 := MV.ContAt.sm e7 hca
    obtain ⟨xs, hx, h0⟩ := hp.at0
    k_updF
    refine WP.cut (fun σ' H8 => WP.Sm H7 H8 ∧ σ' = [some (.ref a), some (.int (0 + (i : Int))), some (.int rich), some (.ref p), some (.ref q), some (.bl (MV.cn s t)), some v, z7, z8, z9, z10]) ?_ ?_
    · k_updF
      refine WP.ixT hx h0 ?_
      k_updF
      refine WP.br (fun cg => ?_) (fun cg => ?_)
      · obtain ⟨sg, w0, f0, rfl⟩ := MV.hd_num cg
        obtain ⟨l, rfl⟩ := MV.cok_tx hcr.1 (fun z => by cases z)
        have hv7 : v = .str (SX.S l) := hv7
        subst hv7
        have hll := MV.cok_len os hcr.1
        have hpp : SqT K H7 p (MP.Pic.num sg w0 f0).vs := hp
        k_updF
        refine ⟨p, .num sg w0 f0, l, rfl, hpp, hll, ?_⟩
        have hpp : SqT K H7 p [V.str (SX.S [110, 117, 109, 98, 101, 114]), .bl sg, .int (w0 : Int), .int (f0 : Int)] := hp
        have e : (MP.Pic.num sg w0 f0).sgd = sg := rfl
        rw [e]
        k_updF
        refine WP.ixT hpp WP.at1 ?_
        refine ⟨_, rfl, ?_⟩
        cases sg with
        | true =>
          refine WP.brT rfl ?_
          k_updF
          refine WP.slFrom (by decide) (by rw [sizeLine_eq]; omega) ?_
          refine WP.neTS ?_
          refine ⟨_, rfl, ?_⟩
          refine WP.brF (by rw [if_pos rfl]; show (!decide (List.drop 1 l = List.drop 1 l)) = false; rw [decide_eq_true rfl]; rfl) ?_
          k_updF
          exact ⟨.refl _, rfl⟩
        | false =>
          refine WP.brF rfl ?_
          k_updF
          refine WP.brF (by rw [if_neg (by decide), decide_eq_true rfl]; rfl) ?_
          k_updF
          exact ⟨.refl _, rfl⟩
      · refine WP.brF rfl ?_
        k_updF
        exact ⟨.refl _, rfl⟩
    rintro σ' H8 ⟨e8, rfl⟩
    have e18 := (hTe.trans e7).trans e8
    k_updF
    refine WP.iC ⟨by decide, by decide⟩ ?_
    k_updF
    refine ⟨_, rfl, pic2 (K := K) fun x pp H9 e9 hpp hx => ?_⟩
    k_updF
    refine WP.iC ⟨by decide, by decide⟩ ?_
    k_updF
    refine ⟨_, rfl, fun u sc hd hs hu vp H10 e10 hvp => ?_⟩
    have hvp : SqT K H10 vp (WP.dv u sc) := SqT.of hvp
    have hpp := WP.sqt e10 hpp
    k_updF
    refine WP.cut (fun σ' H11 => WP.Sm H10 H11 ∧ σ' = [some (.ref a), some (.int (0 + (i : Int))), some (.int rich), some (.ref p), some (.ref q), some (.bl (MV.cn s t)), some v, z7, some (.ref pp), some (.ref vp), z10]) ?_ ?_
    · have hx0 : atI x.vs (0 : Int) = some (.str (SX.S (MV.Side.res x).hd)) := by
        cases x with
        | txt n => exact WP.at0
        | pic q => cases q <;> exact WP.at0
      k_updF
      refine WP.ixT hpp hx0 ?_
      k_updF
      refine WP.brN (fun c => ?_) (fun c => ?_)
      · obtain ⟨pic, rfl⟩ : ∃ pic, x = .pic pic := by
          cases x with
          | txt n => exact absurd rfl c
          | pic q => exact ⟨q, rfl⟩
        have hpp : SqT K H10 pp pic.vs := hpp
        have ho : pic.Ok := hx
        k_updF
        refine WP.cut (fun σ' H11 => Same H10 H11 ∧ σ' = [some (.ref a), some (.int (0 + (i : Int))), some (.int rich), some (.ref p), some (.ref q), some (.bl (MV.cn s t)), some v, z7, some (.ref pp), some (.ref vp), z10]) ?_ ?_
        · k_updF
          refine ⟨pp, vp, pic, u, sc, rfl, hpp, ho, hvp, by omega, MV.bt18 hu, fun H11 e11 => ?_⟩
          k_updF
          refine ⟨pp, vp, pic, u, sc, rfl, WP.sqt e11 hpp, ho, WP.sqt e11 hvp, by omega, MV.bt18 hu, fun H12 e12 => ?_⟩
          refine WP.neTS ?_
          refine ⟨_, rfl, ?_⟩
          refine WP.brF (by rw [decide_eq_true rfl]; rfl) ?_
          k_updF
          exact ⟨e11.trans e12, rfl⟩
        rintro σ' H11 ⟨e11, rfl⟩
        have hpp := WP.sqt e11 hpp
        have hvp := WP.sqt e11 hvp
        k_updF
        refine WP.iC (show (0 : Int) < 2 by decide) ?_
        k_updF
        refine ⟨pp, vp, pic, u, sc, _, rfl, hpp, ho, hvp, by omega, MV.bt18 hu, fun hsu H12 e12 => ?_, fun hsu H12 e12 => ?_⟩
        · k_updF
          refine WP.iC (show (0 : Int) < 2 by decide) ?_
          k_updF
          refine ⟨pp, vp, pic, u, sc, _, rfl, WP.sqt e12 hpp, ho, WP.sqt e12 hvp, by omega, hu, fun _ H13 e13 => ?_, fun z => absurd hsu z⟩
          refine WP.neS rfl ?_
          refine ⟨_, rfl, ?_⟩
          refine WP.brF (by rw [decide_eq_true rfl]; rfl) ?_
          k_updF
          exact ⟨WP.Sm.of ((e11.trans e12).trans e13), rfl⟩
        · k_updF
          refine WP.iC (show (0 : Int) < 2 by decide) ?_
          k_updF
          refine ⟨pp, vp, pic, u, sc, _, rfl, WP.sqt e12 hpp, ho, WP.sqt e12 hvp, by omega, hu, fun z => absurd z hsu, fun _ H13 e13 => ?_⟩
          refine WP.neS rfl ?_
          refine ⟨_, rfl, ?_⟩
          refine WP.brF (by rw [decide_eq_true rfl]; rfl) ?_
          k_updF
          exact ⟨WP.Sm.of ((e11.trans e12).trans e13), rfl⟩
      · k_updF
        exact ⟨.refl _, rfl⟩
    rintro σ' H11 ⟨e11, rfl⟩
    k_updF
    refine WP.iC ⟨by decide, by decide⟩ ?_
    k_updF
    refine WP.iC (show (0 : Int) < 12 by decide) ?_
    have r0 := Int.emod_nonneg (rich / 23) (show (12 : Int) ≠ 0 by decide)
    have r1 := Int.emod_lt_of_pos (rich / 23) (show (0 : Int) < 12 by decide)
    obtain ⟨n, hn⟩ : ∃ n : Nat, rich / 23 % 12 = (n : Int) := ⟨(rich / 23 % 12).toNat, by omega⟩
    rw [hn]
    k_updF
    refine ⟨[97, 98, 99, 100, 101], n, rfl, by decide, by omega, ?_⟩
    k_updF
    refine ⟨[97, 98, 99, 100, 101], n, rfl, by decide, by omega, ?_⟩
    refine WP.neTS ?_
    refine ⟨_, rfl, ?_⟩
    refine WP.brF (by rw [decide_eq_true rfl]; rfl) ?_
    k_updF
    exact ⟨⟨_, _, _, _, _, _, _, _, _, _, rfl⟩, ((((e18.trans (WP.Sm.of e9)).trans (WP.Sm.of e10)).trans e11))⟩
end
theorem all_mk {l : PySem.W.OpenLaw} {w : World} {K : PySem.W.Frag} {h : Heap} {mg : Str → Option Value} {fa : Addr} (X : K.In h) (G : h.Ns mainGlobals mg) (hfa : mg "law" = some (.ref fa))
    {fx0 : Addr} {odx0 anx0 : Option Addr} {slx0 : Array (Option Value)} {ocx0 kVx0 dcx0 pmx0 cdx0 ctx0 : Value}
    (ax0 : PySem.W.nsIn K mainGlobals "_law_rich" = some (some (.ref fx0))) (lx0 : K.lookup fx0 = some ⟨ocx0, odx0, .func (PySem.W.fnOf "_law_rich" "_law_rich" (defArgs s__law_rich) (defBody s__law_rich) (defScope s__law_rich) .none kVx0 dcx0 pmx0 anx0 cdx0 ctx0), slx0⟩) (cx0 : PySem.W.codeIn K cdx0 "_law_rich" = true) (kx0 : PySem.W.keepIn K (.ref fx0) = true)
    {fx1 : Addr} {odx1 anx1 : Option Addr} {slx1 : Array (Option Value)} {ocx1 kVx1 dcx1 pmx1 cdx1 ctx1 : Value}
    (ax1 : PySem.W.nsIn K mainGlobals "_law_picture" = some (some (.ref fx1))) (lx1 : K.lookup fx1 = some ⟨ocx1, odx1, .func (PySem.W.fnOf "_law_picture" "_law_picture" (defArgs s__law_picture) (defBody s__law_picture) (defScope s__law_picture) .none kVx1 dcx1 pmx1 anx1 cdx1 ctx1), slx1⟩) (cx1 : PySem.W.codeIn K cdx1 "_law_picture" = true) (kx1 : PySem.W.keepIn K (.ref fx1) = true)
    {fx2 : Addr} {odx2 anx2 : Option Addr} {slx2 : Array (Option Value)} {ocx2 kVx2 dcx2 pmx2 cdx2 ctx2 : Value}
    (ax2 : PySem.W.nsIn K mainGlobals "_law_side" = some (some (.ref fx2))) (lx2 : K.lookup fx2 = some ⟨ocx2, odx2, .func (PySem.W.fnOf "_law_side" "_law_side" (defArgs s__law_side) (defBody s__law_side) (defScope s__law_side) .none kVx2 dcx2 pmx2 anx2 cdx2 ctx2), slx2⟩) (cx2 : PySem.W.codeIn K cdx2 "_law_side" = true) (kx2 : PySem.W.keepIn K (.ref fx2) = true)
    {fx3 : Addr} {odx3 anx3 : Option Addr} {slx3 : Array (Option Value)} {ocx3 kVx3 dcx3 pmx3 cdx3 ctx3 : Value}
    (ax3 : PySem.W.nsIn K mainGlobals "_law_can" = some (some (.ref fx3))) (lx3 : K.lookup fx3 = some ⟨ocx3, odx3, .func (PySem.W.fnOf "_law_can" "_law_can" (defArgs s__law_can) (defBody s__law_can) (defScope s__law_can) .none kVx3 dcx3 pmx3 anx3 cdx3 ctx3), slx3⟩) (cx3 : PySem.W.codeIn K cdx3 "_law_can" = true) (kx3 : PySem.W.keepIn K (.ref fx3) = true)
    {fx4 : Addr} {odx4 anx4 : Option Addr} {slx4 : Array (Option Value)} {ocx4 kVx4 dcx4 pmx4 cdx4 ctx4 : Value}
    (ax4 : PySem.W.nsIn K mainGlobals "_law_figures" = some (some (.ref fx4))) (lx4 : K.lookup fx4 = some ⟨ocx4, odx4, .func (PySem.W.fnOf "_law_figures" "_law_figures" (defArgs s__law_figures) (defBody s__law_figures) (defScope s__law_figures) .none kVx4 dcx4 pmx4 anx4 cdx4 ctx4), slx4⟩) (cx4 : PySem.W.codeIn K cdx4 "_law_figures" = true) (kx4 : PySem.W.keepIn K (.ref fx4) = true)
    {fx5 : Addr} {odx5 anx5 : Option Addr} {slx5 : Array (Option Value)} {ocx5 kVx5 dcx5 pmx5 cdx5 ctx5 : Value}
    (ax5 : PySem.W.nsIn K mainGlobals "_law_body" = some (some (.ref fx5))) (lx5 : K.lookup fx5 = some ⟨ocx5, odx5, .func (PySem.W.fnOf "_law_body" "_law_body" (defArgs s__law_body) (defBody s__law_body) (defScope s__law_body) .none kVx5 dcx5 pmx5 anx5 cdx5 ctx5), slx5⟩) (cx5 : PySem.W.codeIn K cdx5 "_law_body" = true) (kx5 : PySem.W.keepIn K (.ref fx5) = true)
    {fx6 : Addr} {odx6 anx6 : Option Addr} {slx6 : Array (Option Value)} {ocx6 kVx6 dcx6 pmx6 cdx6 ctx6 : Value}
    (ax6 : PySem.W.nsIn K mainGlobals "_law_written" = some (some (.ref fx6))) (lx6 : K.lookup fx6 = some ⟨ocx6, odx6, .func (PySem.W.fnOf "_law_written" "_law_written" (defArgs s__law_written) (defBody s__law_written) (defScope s__law_written) .none kVx6 dcx6 pmx6 anx6 cdx6 ctx6), slx6⟩) (cx6 : PySem.W.codeIn K cdx6 "_law_written" = true) (kx6 : PySem.W.keepIn K (.ref fx6) = true)
    {fx7 : Addr} {odx7 anx7 : Option Addr} {slx7 : Array (Option Value)} {ocx7 kVx7 dcx7 pmx7 cdx7 ctx7 : Value}
    (ax7 : PySem.W.nsIn K mainGlobals "_law_word" = some (some (.ref fx7))) (lx7 : K.lookup fx7 = some ⟨ocx7, odx7, .func (PySem.W.fnOf "_law_word" "_law_word" (defArgs s__law_word) (defBody s__law_word) (defScope s__law_word) .none kVx7 dcx7 pmx7 anx7 cdx7 ctx7), slx7⟩) (cx7 : PySem.W.codeIn K cdx7 "_law_word" = true) (kx7 : PySem.W.keepIn K (.ref fx7) = true)
    {fx8 : Addr} {odx8 anx8 : Option Addr} {slx8 : Array (Option Value)} {ocx8 kVx8 dcx8 pmx8 cdx8 ctx8 : Value}
    (ax8 : PySem.W.nsIn K mainGlobals "_law_decimal" = some (some (.ref fx8))) (lx8 : K.lookup fx8 = some ⟨ocx8, odx8, .func (PySem.W.fnOf "_law_decimal" "_law_decimal" (defArgs s__law_decimal) (defBody s__law_decimal) (defScope s__law_decimal) .none kVx8 dcx8 pmx8 anx8 cdx8 ctx8), slx8⟩) (cx8 : PySem.W.codeIn K cdx8 "_law_decimal" = true) (kx8 : PySem.W.keepIn K (.ref fx8) = true)
    {fx9 : Addr} {odx9 anx9 : Option Addr} {slx9 : Array (Option Value)} {ocx9 kVx9 dcx9 pmx9 cdx9 ctx9 : Value}
    (ax9 : PySem.W.nsIn K mainGlobals "_law_number" = some (some (.ref fx9))) (lx9 : K.lookup fx9 = some ⟨ocx9, odx9, .func (PySem.W.fnOf "_law_number" "_law_number" (defArgs s__law_number) (defBody s__law_number) (defScope s__law_number) .none kVx9 dcx9 pmx9 anx9 cdx9 ctx9), slx9⟩) (cx9 : PySem.W.codeIn K cdx9 "_law_number" = true) (kx9 : PySem.W.keepIn K (.ref fx9) = true)
    {fx10 : Addr} {odx10 anx10 : Option Addr} {slx10 : Array (Option Value)} {ocx10 kVx10 dcx10 pmx10 cdx10 ctx10 : Value}
    (ax10 : PySem.W.nsIn K mainGlobals "_law_units" = some (some (.ref fx10))) (lx10 : K.lookup fx10 = some ⟨ocx10, odx10, .func (PySem.W.fnOf "_law_units" "_law_units" (defArgs s__law_units) (defBody s__law_units) (defScope s__law_units) .none kVx10 dcx10 pmx10 anx10 cdx10 ctx10), slx10⟩) (cx10 : PySem.W.codeIn K cdx10 "_law_units" = true) (kx10 : PySem.W.keepIn K (.ref fx10) = true)
    {fx11 : Addr} {odx11 anx11 : Option Addr} {slx11 : Array (Option Value)} {ocx11 kVx11 dcx11 pmx11 cdx11 ctx11 : Value}
    (ax11 : PySem.W.nsIn K mainGlobals "_law_content" = some (some (.ref fx11))) (lx11 : K.lookup fx11 = some ⟨ocx11, odx11, .func (PySem.W.fnOf "_law_content" "_law_content" (defArgs s__law_content) (defBody s__law_content) (defScope s__law_content) .none kVx11 dcx11 pmx11 anx11 cdx11 ctx11), slx11⟩) (cx11 : PySem.W.codeIn K cdx11 "_law_content" = true) (kx11 : PySem.W.keepIn K (.ref fx11) = true)
    {fx12 : Addr} {odx12 anx12 : Option Addr} {slx12 : Array (Option Value)} {ocx12 kVx12 dcx12 pmx12 cdx12 ctx12 : Value}
    (ax12 : PySem.W.nsIn K mainGlobals "_law_cell" = some (some (.ref fx12))) (lx12 : K.lookup fx12 = some ⟨ocx12, odx12, .func (PySem.W.fnOf "_law_cell" "_law_cell" (defArgs s__law_cell) (defBody s__law_cell) (defScope s__law_cell) .none kVx12 dcx12 pmx12 anx12 cdx12 ctx12), slx12⟩) (cx12 : PySem.W.codeIn K cdx12 "_law_cell" = true) (kx12 : PySem.W.keepIn K (.ref fx12) = true)
    {fx13 : Addr} {odx13 anx13 : Option Addr} {slx13 : Array (Option Value)} {ocx13 kVx13 dcx13 pmx13 cdx13 ctx13 : Value}
    (ax13 : PySem.W.nsIn K mainGlobals "digits_in" = some (some (.ref fx13))) (lx13 : K.lookup fx13 = some ⟨ocx13, odx13, .func (PySem.W.fnOf "digits_in" "digits_in" (defArgs s_digits_in) (defBody s_digits_in) (defScope s_digits_in) .none kVx13 dcx13 pmx13 anx13 cdx13 ctx13), slx13⟩) (cx13 : PySem.W.codeIn K cdx13 "digits_in" = true) (kx13 : PySem.W.keepIn K (.ref fx13) = true)
    {fx14 : Addr} {odx14 anx14 : Option Addr} {slx14 : Array (Option Value)} {ocx14 kVx14 dcx14 pmx14 cdx14 ctx14 : Value}
    (ax14 : PySem.W.nsIn K mainGlobals "_sign_text" = some (some (.ref fx14))) (lx14 : K.lookup fx14 = some ⟨ocx14, odx14, .func (PySem.W.fnOf "_sign_text" "_sign_text" (defArgs s__sign_text) (defBody s__sign_text) (defScope s__sign_text) .none kVx14 dcx14 pmx14 anx14 cdx14 ctx14), slx14⟩) (cx14 : PySem.W.codeIn K cdx14 "_sign_text" = true) (kx14 : PySem.W.keepIn K (.ref fx14) = true)
    {fx15 : Addr} {odx15 anx15 : Option Addr} {slx15 : Array (Option Value)} {ocx15 kVx15 dcx15 pmx15 cdx15 ctx15 : Value}
    (ax15 : PySem.W.nsIn K mainGlobals "_body_text" = some (some (.ref fx15))) (lx15 : K.lookup fx15 = some ⟨ocx15, odx15, .func (PySem.W.fnOf "_body_text" "_body_text" (defArgs s__body_text) (defBody s__body_text) (defScope s__body_text) .none kVx15 dcx15 pmx15 anx15 cdx15 ctx15), slx15⟩) (cx15 : PySem.W.codeIn K cdx15 "_body_text" = true) (kx15 : PySem.W.keepIn K (.ref fx15) = true)
    {fx16 : Addr} {odx16 anx16 : Option Addr} {slx16 : Array (Option Value)} {ocx16 kVx16 dcx16 pmx16 cdx16 ctx16 : Value}
    (ax16 : PySem.W.nsIn K mainGlobals "power" = some (some (.ref fx16))) (lx16 : K.lookup fx16 = some ⟨ocx16, odx16, .func (PySem.W.fnOf "power" "power" (defArgs s_power) (defBody s_power) (defScope s_power) .none kVx16 dcx16 pmx16 anx16 cdx16 ctx16), slx16⟩) (cx16 : PySem.W.codeIn K cdx16 "power" = true) (kx16 : PySem.W.keepIn K (.ref fx16) = true)
    {fx17 : Addr} {odx17 anx17 : Option Addr} {slx17 : Array (Option Value)} {ocx17 kVx17 dcx17 pmx17 cdx17 ctx17 : Value}
    (ax17 : PySem.W.nsIn K mainGlobals "fits" = some (some (.ref fx17))) (lx17 : K.lookup fx17 = some ⟨ocx17, odx17, .func (PySem.W.fnOf "fits" "fits" (defArgs s_fits) (defBody s_fits) (defScope s_fits) .none kVx17 dcx17 pmx17 anx17 cdx17 ctx17), slx17⟩) (cx17 : PySem.W.codeIn K cdx17 "fits" = true) (kx17 : PySem.W.keepIn K (.ref fx17) = true)
    {fx18 : Addr} {odx18 anx18 : Option Addr} {slx18 : Array (Option Value)} {ocx18 kVx18 dcx18 pmx18 cdx18 ctx18 : Value}
    (ax18 : PySem.W.nsIn K mainGlobals "is_signed" = some (some (.ref fx18))) (lx18 : K.lookup fx18 = some ⟨ocx18, odx18, .func (PySem.W.fnOf "is_signed" "is_signed" (defArgs s_is_signed) (defBody s_is_signed) (defScope s_is_signed) .none kVx18 dcx18 pmx18 anx18 cdx18 ctx18), slx18⟩) (cx18 : PySem.W.codeIn K cdx18 "is_signed" = true) (kx18 : PySem.W.keepIn K (.ref fx18) = true)
    {fx19 : Addr} {odx19 anx19 : Option Addr} {slx19 : Array (Option Value)} {ocx19 kVx19 dcx19 pmx19 cdx19 ctx19 : Value}
    (ax19 : PySem.W.nsIn K mainGlobals "_many_digits" = some (some (.ref fx19))) (lx19 : K.lookup fx19 = some ⟨ocx19, odx19, .func (PySem.W.fnOf "_many_digits" "_many_digits" (defArgs s__many_digits) (defBody s__many_digits) (defScope s__many_digits) .none kVx19 dcx19 pmx19 anx19 cdx19 ctx19), slx19⟩) (cx19 : PySem.W.codeIn K cdx19 "_many_digits" = true) (kx19 : PySem.W.keepIn K (.ref fx19) = true)
    {fx20 : Addr} {odx20 anx20 : Option Addr} {slx20 : Array (Option Value)} {ocx20 kVx20 dcx20 pmx20 cdx20 ctx20 : Value}
    (ax20 : PySem.W.nsIn K mainGlobals "suits" = some (some (.ref fx20))) (lx20 : K.lookup fx20 = some ⟨ocx20, odx20, .func (PySem.W.fnOf "suits" "suits" (defArgs s_suits) (defBody s_suits) (defScope s_suits) .none kVx20 dcx20 pmx20 anx20 cdx20 ctx20), slx20⟩) (cx20 : PySem.W.codeIn K cdx20 "suits" = true) (kx20 : PySem.W.keepIn K (.ref fx20) = true)
    {fx21 : Addr} {odx21 anx21 : Option Addr} {slx21 : Array (Option Value)} {ocx21 kVx21 dcx21 pmx21 cdx21 ctx21 : Value}
    (ax21 : PySem.W.nsIn K mainGlobals "_sign_of" = some (some (.ref fx21))) (lx21 : K.lookup fx21 = some ⟨ocx21, odx21, .func (PySem.W.fnOf "_sign_of" "_sign_of" (defArgs s__sign_of) (defBody s__sign_of) (defScope s__sign_of) .none kVx21 dcx21 pmx21 anx21 cdx21 ctx21), slx21⟩) (cx21 : PySem.W.codeIn K cdx21 "_sign_of" = true) (kx21 : PySem.W.keepIn K (.ref fx21) = true)
    {fx22 : Addr} {odx22 anx22 : Option Addr} {slx22 : Array (Option Value)} {ocx22 kVx22 dcx22 pmx22 cdx22 ctx22 : Value}
    (ax22 : PySem.W.nsIn K mainGlobals "_is_sign_ahead" = some (some (.ref fx22))) (lx22 : K.lookup fx22 = some ⟨ocx22, odx22, .func (PySem.W.fnOf "_is_sign_ahead" "_is_sign_ahead" (defArgs s__is_sign_ahead) (defBody s__is_sign_ahead) (defScope s__is_sign_ahead) .none kVx22 dcx22 pmx22 anx22 cdx22 ctx22), slx22⟩) (cx22 : PySem.W.codeIn K cdx22 "_is_sign_ahead" = true) (kx22 : PySem.W.keepIn K (.ref fx22) = true)
    {fx23 : Addr} {odx23 anx23 : Option Addr} {slx23 : Array (Option Value)} {ocx23 kVx23 dcx23 pmx23 cdx23 ctx23 : Value}
    (ax23 : PySem.W.nsIn K mainGlobals "written" = some (some (.ref fx23))) (lx23 : K.lookup fx23 = some ⟨ocx23, odx23, .func (PySem.W.fnOf "written" "written" (defArgs s_written) (defBody s_written) (defScope s_written) .none kVx23 dcx23 pmx23 anx23 cdx23 ctx23), slx23⟩) (cx23 : PySem.W.codeIn K cdx23 "written" = true) (kx23 : PySem.W.keepIn K (.ref fx23) = true)
    {fx24 : Addr} {odx24 anx24 : Option Addr} {slx24 : Array (Option Value)} {ocx24 kVx24 dcx24 pmx24 cdx24 ctx24 : Value}
    (ax24 : PySem.W.nsIn K mainGlobals "trimmed" = some (some (.ref fx24))) (lx24 : K.lookup fx24 = some ⟨ocx24, odx24, .func (PySem.W.fnOf "trimmed" "trimmed" (defArgs s_trimmed) (defBody s_trimmed) (defScope s_trimmed) .none kVx24 dcx24 pmx24 anx24 cdx24 ctx24), slx24⟩) (cx24 : PySem.W.codeIn K cdx24 "trimmed" = true) (kx24 : PySem.W.keepIn K (.ref fx24) = true)
    {fx25 : Addr} {odx25 anx25 : Option Addr} {slx25 : Array (Option Value)} {ocx25 kVx25 dcx25 pmx25 cdx25 ctx25 : Value}
    (ax25 : PySem.W.nsIn K mainGlobals "quotient" = some (some (.ref fx25))) (lx25 : K.lookup fx25 = some ⟨ocx25, odx25, .func (PySem.W.fnOf "quotient" "quotient" (defArgs s_quotient) (defBody s_quotient) (defScope s_quotient) .none kVx25 dcx25 pmx25 anx25 cdx25 ctx25), slx25⟩) (cx25 : PySem.W.codeIn K cdx25 "quotient" = true) (kx25 : PySem.W.keepIn K (.ref fx25) = true)
    {fx26 : Addr} {odx26 anx26 : Option Addr} {slx26 : Array (Option Value)} {ocx26 kVx26 dcx26 pmx26 cdx26 ctx26 : Value}
    (ax26 : PySem.W.nsIn K mainGlobals "aligned" = some (some (.ref fx26))) (lx26 : K.lookup fx26 = some ⟨ocx26, odx26, .func (PySem.W.fnOf "aligned" "aligned" (defArgs s_aligned) (defBody s_aligned) (defScope s_aligned) .none kVx26 dcx26 pmx26 anx26 cdx26 ctx26), slx26⟩) (cx26 : PySem.W.codeIn K cdx26 "aligned" = true) (kx26 : PySem.W.keepIn K (.ref fx26) = true)
    {fx27 : Addr} {odx27 anx27 : Option Addr} {slx27 : Array (Option Value)} {ocx27 kVx27 dcx27 pmx27 cdx27 ctx27 : Value}
    (ax27 : PySem.W.nsIn K mainGlobals "units_at" = some (some (.ref fx27))) (lx27 : K.lookup fx27 = some ⟨ocx27, odx27, .func (PySem.W.fnOf "units_at" "units_at" (defArgs s_units_at) (defBody s_units_at) (defScope s_units_at) .none kVx27 dcx27 pmx27 anx27 cdx27 ctx27), slx27⟩) (cx27 : PySem.W.codeIn K cdx27 "units_at" = true) (kx27 : PySem.W.keepIn K (.ref fx27) = true)
    {fx28 : Addr} {odx28 anx28 : Option Addr} {slx28 : Array (Option Value)} {ocx28 kVx28 dcx28 pmx28 cdx28 ctx28 : Value}
    (ax28 : PySem.W.nsIn K mainGlobals "cut_to" = some (some (.ref fx28))) (lx28 : K.lookup fx28 = some ⟨ocx28, odx28, .func (PySem.W.fnOf "cut_to" "cut_to" (defArgs s_cut_to) (defBody s_cut_to) (defScope s_cut_to) .none kVx28 dcx28 pmx28 anx28 cdx28 ctx28), slx28⟩) (cx28 : PySem.W.codeIn K cdx28 "cut_to" = true) (kx28 : PySem.W.keepIn K (.ref fx28) = true)
    {fx29 : Addr} {odx29 anx29 : Option Addr} {slx29 : Array (Option Value)} {ocx29 kVx29 dcx29 pmx29 cdx29 ctx29 : Value}
    (ax29 : PySem.W.nsIn K mainGlobals "padded" = some (some (.ref fx29))) (lx29 : K.lookup fx29 = some ⟨ocx29, odx29, .func (PySem.W.fnOf "padded" "padded" (defArgs s_padded) (defBody s_padded) (defScope s_padded) .none kVx29 dcx29 pmx29 anx29 cdx29 ctx29), slx29⟩) (cx29 : PySem.W.codeIn K cdx29 "padded" = true) (kx29 : PySem.W.keepIn K (.ref fx29) = true)
    {fx30 : Addr} {odx30 anx30 : Option Addr} {slx30 : Array (Option Value)} {ocx30 kVx30 dcx30 pmx30 cdx30 ctx30 : Value}
    (ax30 : PySem.W.nsIn K mainGlobals "_sign_and_body" = some (some (.ref fx30))) (lx30 : K.lookup fx30 = some ⟨ocx30, odx30, .func (PySem.W.fnOf "_sign_and_body" "_sign_and_body" (defArgs s__sign_and_body) (defBody s__sign_and_body) (defScope s__sign_and_body) .none kVx30 dcx30 pmx30 anx30 cdx30 ctx30), slx30⟩) (cx30 : PySem.W.codeIn K cdx30 "_sign_and_body" = true) (kx30 : PySem.W.keepIn K (.ref fx30) = true)
    {fx31 : Addr} {odx31 anx31 : Option Addr} {slx31 : Array (Option Value)} {ocx31 kVx31 dcx31 pmx31 cdx31 ctx31 : Value}
    (ax31 : PySem.W.nsIn K mainGlobals "_likely_units" = some (some (.ref fx31))) (lx31 : K.lookup fx31 = some ⟨ocx31, odx31, .func (PySem.W.fnOf "_likely_units" "_likely_units" (defArgs s__likely_units) (defBody s__likely_units) (defScope s__likely_units) .none kVx31 dcx31 pmx31 anx31 cdx31 ctx31), slx31⟩) (cx31 : PySem.W.codeIn K cdx31 "_likely_units" = true) (kx31 : PySem.W.keepIn K (.ref fx31) = true)
    {fx32 : Addr} {odx32 anx32 : Option Addr} {slx32 : Array (Option Value)} {ocx32 kVx32 dcx32 pmx32 cdx32 ctx32 : Value}
    (ax32 : PySem.W.nsIn K mainGlobals "_sign_marks" = some (some (.ref fx32))) (lx32 : K.lookup fx32 = some ⟨ocx32, odx32, .func (PySem.W.fnOf "_sign_marks" "_sign_marks" (defArgs s__sign_marks) (defBody s__sign_marks) (defScope s__sign_marks) .none kVx32 dcx32 pmx32 anx32 cdx32 ctx32), slx32⟩) (cx32 : PySem.W.codeIn K cdx32 "_sign_marks" = true) (kx32 : PySem.W.keepIn K (.ref fx32) = true)
    {fx33 : Addr} {odx33 anx33 : Option Addr} {slx33 : Array (Option Value)} {ocx33 kVx33 dcx33 pmx33 cdx33 ctx33 : Value}
    (ax33 : PySem.W.nsIn K mainGlobals "size_of" = some (some (.ref fx33))) (lx33 : K.lookup fx33 = some ⟨ocx33, odx33, .func (PySem.W.fnOf "size_of" "size_of" (defArgs s_size_of) (defBody s_size_of) (defScope s_size_of) .none kVx33 dcx33 pmx33 anx33 cdx33 ctx33), slx33⟩) (cx33 : PySem.W.codeIn K cdx33 "size_of" = true) (kx33 : PySem.W.keepIn K (.ref fx33) = true)
    {fx34 : Addr} {odx34 anx34 : Option Addr} {slx34 : Array (Option Value)} {ocx34 kVx34 dcx34 pmx34 cdx34 ctx34 : Value}
    (ax34 : PySem.W.nsIn K mainGlobals "reading" = some (some (.ref fx34))) (lx34 : K.lookup fx34 = some ⟨ocx34, odx34, .func (PySem.W.fnOf "reading" "reading" (defArgs s_reading) (defBody s_reading) (defScope s_reading) .none kVx34 dcx34 pmx34 anx34 cdx34 ctx34), slx34⟩) (cx34 : PySem.W.codeIn K cdx34 "reading" = true) (kx34 : PySem.W.keepIn K (.ref fx34) = true)
    {fx35 : Addr} {odx35 anx35 : Option Addr} {slx35 : Array (Option Value)} {ocx35 kVx35 dcx35 pmx35 cdx35 ctx35 : Value}
    (ax35 : PySem.W.nsIn K mainGlobals "normal" = some (some (.ref fx35))) (lx35 : K.lookup fx35 = some ⟨ocx35, odx35, .func (PySem.W.fnOf "normal" "normal" (defArgs s_normal) (defBody s_normal) (defScope s_normal) .none kVx35 dcx35 pmx35 anx35 cdx35 ctx35), slx35⟩) (cx35 : PySem.W.codeIn K cdx35 "normal" = true) (kx35 : PySem.W.keepIn K (.ref fx35) = true)
    {fx36 : Addr} {odx36 anx36 : Option Addr} {slx36 : Array (Option Value)} {ocx36 kVx36 dcx36 pmx36 cdx36 ctx36 : Value}
    (ax36 : PySem.W.nsIn K mainGlobals "value_of" = some (some (.ref fx36))) (lx36 : K.lookup fx36 = some ⟨ocx36, odx36, .func (PySem.W.fnOf "value_of" "value_of" (defArgs s_value_of) (defBody s_value_of) (defScope s_value_of) .none kVx36 dcx36 pmx36 anx36 cdx36 ctx36), slx36⟩) (cx36 : PySem.W.codeIn K cdx36 "value_of" = true) (kx36 : PySem.W.keepIn K (.ref fx36) = true)
    {fx37 : Addr} {odx37 anx37 : Option Addr} {slx37 : Array (Option Value)} {ocx37 kVx37 dcx37 pmx37 cdx37 ctx37 : Value}
    (ax37 : PySem.W.nsIn K mainGlobals "figures_of" = some (some (.ref fx37))) (lx37 : K.lookup fx37 = some ⟨ocx37, odx37, .func (PySem.W.fnOf "figures_of" "figures_of" (defArgs s_figures_of) (defBody s_figures_of) (defScope s_figures_of) .none kVx37 dcx37 pmx37 anx37 cdx37 ctx37), slx37⟩) (cx37 : PySem.W.codeIn K cdx37 "figures_of" = true) (kx37 : PySem.W.keepIn K (.ref fx37) = true)
    {fx38 : Addr} {odx38 anx38 : Option Addr} {slx38 : Array (Option Value)} {ocx38 kVx38 dcx38 pmx38 cdx38 ctx38 : Value}
    (ax38 : PySem.W.nsIn K mainGlobals "moved" = some (some (.ref fx38))) (lx38 : K.lookup fx38 = some ⟨ocx38, odx38, .func (PySem.W.fnOf "moved" "moved" (defArgs s_moved) (defBody s_moved) (defScope s_moved) .none kVx38 dcx38 pmx38 anx38 cdx38 ctx38), slx38⟩) (cx38 : PySem.W.codeIn K cdx38 "moved" = true) (kx38 : PySem.W.keepIn K (.ref fx38) = true)
    {fx39 : Addr} {odx39 anx39 : Option Addr} {slx39 : Array (Option Value)} {ocx39 kVx39 dcx39 pmx39 cdx39 ctx39 : Value}
    (ax39 : PySem.W.nsIn K mainGlobals "_law_pad" = some (some (.ref fx39))) (lx39 : K.lookup fx39 = some ⟨ocx39, odx39, .func (PySem.W.fnOf "_law_pad" "_law_pad" (defArgs s__law_pad) (defBody s__law_pad) (defScope s__law_pad) .none kVx39 dcx39 pmx39 anx39 cdx39 ctx39), slx39⟩) (cx39 : PySem.W.codeIn K cdx39 "_law_pad" = true) (kx39 : PySem.W.keepIn K (.ref fx39) = true)
    {fx40 : Addr} {odx40 anx40 : Option Addr} {slx40 : Array (Option Value)} {ocx40 kVx40 dcx40 pmx40 cdx40 ctx40 : Value}
    (ax40 : PySem.W.nsIn K mainGlobals "_is_whole_number" = some (some (.ref fx40))) (lx40 : K.lookup fx40 = some ⟨ocx40, odx40, .func (PySem.W.fnOf "_is_whole_number" "_is_whole_number" (defArgs s__is_whole_number) (defBody s__is_whole_number) (defScope s__is_whole_number) .none kVx40 dcx40 pmx40 anx40 cdx40 ctx40), slx40⟩) (cx40 : PySem.W.codeIn K cdx40 "_is_whole_number" = true) (kx40 : PySem.W.keepIn K (.ref fx40) = true)
    {fx41 : Addr} {odx41 anx41 : Option Addr} {slx41 : Array (Option Value)} {ocx41 kVx41 dcx41 pmx41 cdx41 ctx41 : Value}
    (ax41 : PySem.W.nsIn K mainGlobals "can_move" = some (some (.ref fx41))) (lx41 : K.lookup fx41 = some ⟨ocx41, odx41, .func (PySem.W.fnOf "can_move" "can_move" (defArgs s_can_move) (defBody s_can_move) (defScope s_can_move) .none kVx41 dcx41 pmx41 anx41 cdx41 ctx41), slx41⟩) (cx41 : PySem.W.codeIn K cdx41 "can_move" = true) (kx41 : PySem.W.keepIn K (.ref fx41) = true)
    {fx42 : Addr} {odx42 anx42 : Option Addr} {slx42 : Array (Option Value)} {ocx42 kVx42 dcx42 pmx42 cdx42 ctx42 : Value}
    (ax42 : PySem.W.nsIn K mainGlobals "_law_cut" = some (some (.ref fx42))) (lx42 : K.lookup fx42 = some ⟨ocx42, odx42, .func (PySem.W.fnOf "_law_cut" "_law_cut" (defArgs s__law_cut) (defBody s__law_cut) (defScope s__law_cut) .none kVx42 dcx42 pmx42 anx42 cdx42 ctx42), slx42⟩) (cx42 : PySem.W.codeIn K cdx42 "_law_cut" = true) (kx42 : PySem.W.keepIn K (.ref fx42) = true)
    {fx43 : Addr} {odx43 anx43 : Option Addr} {slx43 : Array (Option Value)} {ocx43 kVx43 dcx43 pmx43 cdx43 ctx43 : Value}
    (ax43 : PySem.W.nsIn K mainGlobals "_law_value" = some (some (.ref fx43))) (lx43 : K.lookup fx43 = some ⟨ocx43, odx43, .func (PySem.W.fnOf "_law_value" "_law_value" (defArgs s__law_value) (defBody s__law_value) (defScope s__law_value) .none kVx43 dcx43 pmx43 anx43 cdx43 ctx43), slx43⟩) (cx43 : PySem.W.codeIn K cdx43 "_law_value" = true) (kx43 : PySem.W.keepIn K (.ref fx43) = true)
    {fx44 : Addr} {odx44 anx44 : Option Addr} {slx44 : Array (Option Value)} {ocx44 kVx44 dcx44 pmx44 cdx44 ctx44 : Value}
    (ax44 : PySem.W.nsIn K mainGlobals "_law_moved" = some (some (.ref fx44))) (lx44 : K.lookup fx44 = some ⟨ocx44, odx44, .func (PySem.W.fnOf "_law_moved" "_law_moved" (defArgs s__law_moved) (defBody s__law_moved) (defScope s__law_moved) .none kVx44 dcx44 pmx44 anx44 cdx44 ctx44), slx44⟩) (cx44 : PySem.W.codeIn K cdx44 "_law_moved" = true) (kx44 : PySem.W.keepIn K (.ref fx44) = true)
    {fx45 : Addr} {odx45 anx45 : Option Addr} {slx45 : Array (Option Value)} {ocx45 kVx45 dcx45 pmx45 cdx45 ctx45 : Value}
    (ax45 : PySem.W.nsIn K mainGlobals "stored" = some (some (.ref fx45))) (lx45 : K.lookup fx45 = some ⟨ocx45, odx45, .func (PySem.W.fnOf "stored" "stored" (defArgs s_stored) (defBody s_stored) (defScope s_stored) .none kVx45 dcx45 pmx45 anx45 cdx45 ctx45), slx45⟩) (cx45 : PySem.W.codeIn K cdx45 "stored" = true) (kx45 : PySem.W.keepIn K (.ref fx45) = true)
    {fx46 : Addr} {odx46 anx46 : Option Addr} {slx46 : Array (Option Value)} {ocx46 kVx46 dcx46 pmx46 cdx46 ctx46 : Value}
    (ax46 : PySem.W.nsIn K mainGlobals "_law_stored" = some (some (.ref fx46))) (lx46 : K.lookup fx46 = some ⟨ocx46, odx46, .func (PySem.W.fnOf "_law_stored" "_law_stored" (defArgs s__law_stored) (defBody s__law_stored) (defScope s__law_stored) .none kVx46 dcx46 pmx46 anx46 cdx46 ctx46), slx46⟩) (cx46 : PySem.W.codeIn K cdx46 "_law_stored" = true) (kx46 : PySem.W.keepIn K (.ref fx46) = true)
    {fx47 Kcx47 Ktx47 : Addr} {odx47 anx47 : Option Addr} {slx47 : Array (Option Value)} {ocx47 kVx47 dcx47 pmx47 ctx47 : Value}
    (ax47 : PySem.W.nsIn K mainGlobals "is_printable" = some (some (.ref fx47))) (tbx47 : PySem.W.tabIn K "is_printable" = some (Kcx47, Ktx47)) (lx47 : K.lookup fx47 = some ⟨ocx47, odx47, .func (PySem.W.fnOf "is_printable" "is_printable" (defArgs s_is_printable) (defBody s_is_printable) (defScope s_is_printable) .none kVx47 dcx47 pmx47 anx47 (.ref Kcx47) ctx47), slx47⟩) (cx47 : PySem.W.codeIn K (.ref Kcx47) "is_printable" = true) (kx47 : PySem.W.keepIn K (.ref fx47) = true)
    (hdx47 : PySem.W.CodeHd h Kcx47 Ktx47 ∧ h.get? Ktx47 = some { cls := .none, data := .fields #[] }) (nkx47 : K.lookup Ktx47 = none)
    {fx48 : Addr} {odx48 anx48 : Option Addr} {slx48 : Array (Option Value)} {ocx48 kVx48 dcx48 pmx48 cdx48 ctx48 : Value}
    (ax48 : PySem.W.nsIn K mainGlobals "holds" = some (some (.ref fx48))) (lx48 : K.lookup fx48 = some ⟨ocx48, odx48, .func (PySem.W.fnOf "holds" "holds" (defArgs s_holds) (defBody s_holds) (defScope s_holds) .none kVx48 dcx48 pmx48 anx48 cdx48 ctx48), slx48⟩) (cx48 : PySem.W.codeIn K cdx48 "holds" = true) (kx48 : PySem.W.keepIn K (.ref fx48) = true)
    {fx49 : Addr} {odx49 anx49 : Option Addr} {slx49 : Array (Option Value)} {ocx49 kVx49 dcx49 pmx49 cdx49 ctx49 : Value}
    (ax49 : PySem.W.nsIn K mainGlobals "law" = some (some (.ref fx49))) (lx49 : K.lookup fx49 = some ⟨ocx49, odx49, .func (PySem.W.fnOf "law" "law" (defArgs s_law) (defBody s_law) (defScope s_law) .none kVx49 dcx49 pmx49 anx49 cdx49 ctx49), slx49⟩) (cx49 : PySem.W.codeIn K cdx49 "law" = true) (kx49 : PySem.W.keepIn K (.ref fx49) = true)
    (z_abs : PySem.W.nsIn K mainGlobals "abs" = some none)
    (z_all : PySem.W.nsIn K mainGlobals "all" = some none)
    (z_bool : PySem.W.nsIn K mainGlobals "bool" = some none)
    (z_divmod : PySem.W.nsIn K mainGlobals "divmod" = some none)
    (z_int : PySem.W.nsIn K mainGlobals "int" = some none)
    (z_isinstance : PySem.W.nsIn K mainGlobals "isinstance" = some none)
    (z_len : PySem.W.nsIn K mainGlobals "len" = some none)
    (z_max : PySem.W.nsIn K mainGlobals "max" = some none)
    (z_min : PySem.W.nsIn K mainGlobals "min" = some none)
    (z_ord : PySem.W.nsIn K mainGlobals "ord" = some none)
    (z_range : PySem.W.nsIn K mainGlobals "range" = some none)
    (z_str : PySem.W.nsIn K mainGlobals "str" = some none)
    (z_tuple : PySem.W.nsIn K mainGlobals "tuple" = some none)
    (z_zip : PySem.W.nsIn K mainGlobals "zip" = some none)
    {a_DIGIT_MARKS : Addr} {d_DIGIT_MARKS : Option Addr} {n_DIGIT_MARKS : Nat} {s_DIGIT_MARKS : Array (Option Value)} {TDIGIT_MARKS_0 TDIGIT_MARKS_1 TDIGIT_MARKS_2 : Tok} (g_DIGIT_MARKS : PySem.W.nsIn K mainGlobals "DIGIT_MARKS" = some (some (.ref a_DIGIT_MARKS))) (h_DIGIT_MARKS : K.lookup a_DIGIT_MARKS = some ⟨.type "tuple", d_DIGIT_MARKS, .seq #[.str ("z" : Str) TDIGIT_MARKS_0, .str ("*" : Str) TDIGIT_MARKS_1, .str ("9" : Str) TDIGIT_MARKS_2] n_DIGIT_MARKS, s_DIGIT_MARKS⟩)
    {t_FIGURES : Tok} (g_FIGURES : PySem.W.nsIn K mainGlobals "FIGURES" = some (some (.str "0123456789" t_FIGURES)))
    {t_FIRST_PRINTABLE : Tok} (g_FIRST_PRINTABLE : PySem.W.nsIn K mainGlobals "FIRST_PRINTABLE" = some (some (.int 32 t_FIRST_PRINTABLE)))
    {a_HIDING_MARKS : Addr} {d_HIDING_MARKS : Option Addr} {n_HIDING_MARKS : Nat} {s_HIDING_MARKS : Array (Option Value)} {THIDING_MARKS_0 THIDING_MARKS_1 : Tok} (g_HIDING_MARKS : PySem.W.nsIn K mainGlobals "HIDING_MARKS" = some (some (.ref a_HIDING_MARKS))) (h_HIDING_MARKS : K.lookup a_HIDING_MARKS = some ⟨.type "tuple", d_HIDING_MARKS, .seq #[.str ("z" : Str) THIDING_MARKS_0, .str ("*" : Str) THIDING_MARKS_1] n_HIDING_MARKS, s_HIDING_MARKS⟩)
    {a_INSERTED_CHARACTERS : Addr} {es_INSERTED_CHARACTERS : Array DictEntry} {n_INSERTED_CHARACTERS : Nat} {TINSERTED_CHARACTERS_0 TINSERTED_CHARACTERS_1 TINSERTED_CHARACTERS_2 TINSERTED_CHARACTERS_3 : Tok} (g_INSERTED_CHARACTERS : PySem.W.nsIn K mainGlobals "INSERTED_CHARACTERS" = some (some (.ref a_INSERTED_CHARACTERS))) (h_INSERTED_CHARACTERS : K.lookup a_INSERTED_CHARACTERS = some ⟨.type "dict", none, .dict es_INSERTED_CHARACTERS n_INSERTED_CHARACTERS, #[]⟩) (kl_INSERTED_CHARACTERS : PySem.W.KeysLit w.params es_INSERTED_CHARACTERS.toList)
    (e_INSERTED_CHARACTERS_0 : PySem.W.nsIn K a_INSERTED_CHARACTERS "," = some (some (.str ("," : Str) TINSERTED_CHARACTERS_0)))
    (e_INSERTED_CHARACTERS_1 : PySem.W.nsIn K a_INSERTED_CHARACTERS "b" = some (some (.str (" " : Str) TINSERTED_CHARACTERS_1)))
    (e_INSERTED_CHARACTERS_2 : PySem.W.nsIn K a_INSERTED_CHARACTERS "0" = some (some (.str ("0" : Str) TINSERTED_CHARACTERS_2)))
    (e_INSERTED_CHARACTERS_3 : PySem.W.nsIn K a_INSERTED_CHARACTERS "/" = some (some (.str ("/" : Str) TINSERTED_CHARACTERS_3)))
    {t_LAST_PRINTABLE : Tok} (g_LAST_PRINTABLE : PySem.W.nsIn K mainGlobals "LAST_PRINTABLE" = some (some (.int 126 t_LAST_PRINTABLE)))
    {a_NEGATIVE_SIGNS : Addr} {d_NEGATIVE_SIGNS : Option Addr} {n_NEGATIVE_SIGNS : Nat} {s_NEGATIVE_SIGNS : Array (Option Value)} {TNEGATIVE_SIGNS_0 TNEGATIVE_SIGNS_1 TNEGATIVE_SIGNS_2 : Tok} (g_NEGATIVE_SIGNS : PySem.W.nsIn K mainGlobals "NEGATIVE_SIGNS" = some (some (.ref a_NEGATIVE_SIGNS))) (h_NEGATIVE_SIGNS : K.lookup a_NEGATIVE_SIGNS = some ⟨.type "tuple", d_NEGATIVE_SIGNS, .seq #[.str ("-" : Str) TNEGATIVE_SIGNS_0, .str ("CR" : Str) TNEGATIVE_SIGNS_1, .str ("DB" : Str) TNEGATIVE_SIGNS_2] n_NEGATIVE_SIGNS, s_NEGATIVE_SIGNS⟩)
    {t_NOT_PRINTABLE : Tok} (g_NOT_PRINTABLE : PySem.W.nsIn K mainGlobals "NOT_PRINTABLE" = some (some (.int 37 t_NOT_PRINTABLE)))
    {aC_BadPicture : Addr} (n_BadPicture : PySem.W.nsIn K mainGlobals "BadPicture" = some (some (.ref aC_BadPicture))) (x_BadPicture : PySem.W.excIn K aC_BadPicture [.type "ValueError", .type "Exception", .type "BaseException", .type "object"] "ValueError.__new__" = true) (kc_BadPicture : PySem.W.keepIn K (.ref aC_BadPicture) = true) (tc_BadPicture : PySem.W.typeIn K (.ref aC_BadPicture) = some (.type "type"))
    (hg_BadPicture : PySem.W.findIn K (.ref aC_BadPicture) "__getattribute__" = some (some (.builtin "BaseException.__getattribute__"))) (hk_BadPicture : PySem.W.findIn K (.ref aC_BadPicture) "__getattr__" = some none) (hs_BadPicture : PySem.W.subIn K (.ref aC_BadPicture) (.type "BaseException") = some true) (hd_BadPicture : PySem.W.hasDictIn K aC_BadPicture = true) (ha_BadPicture : PySem.W.findIn K (.ref aC_BadPicture) "__class__" = some (some (.builtin "object.__class__"))) (hm_BadPicture : PySem.W.mroIn K aC_BadPicture (.type "object") = some true)
    (hn_ : PySem.W.specialIn K (.builtin "object.__class__") "__get__" = some (some (.builtin "getset_descriptor.__get__"))) (ht_ : PySem.W.takesIn K (.builtin "object.__class__") = some true)
    : LamX.LawAtS l w K CX0 9 63 "script" mg fa h := by
  have e := hfa.symm.trans (PySem.W.mg_of X G ax49)
  cases e
  have B : Blt w K mg := ⟨PySem.W.mg_none_of X G z_abs, PySem.W.mg_none_of X G z_all, PySem.W.mg_none_of X G z_bool, PySem.W.mg_none_of X G z_divmod, PySem.W.mg_none_of X G z_int, PySem.W.mg_none_of X G z_isinstance, PySem.W.mg_none_of X G z_len, PySem.W.mg_none_of X G z_max, PySem.W.mg_none_of X G z_min, PySem.W.mg_none_of X G z_ord, PySem.W.mg_none_of X G z_range, PySem.W.mg_none_of X G z_str, PySem.W.mg_none_of X G z_tuple, PySem.W.mg_none_of X G z_zip, WP.KTp.mk' (PySem.W.mg_of X G g_DIGIT_MARKS) (fun _ => .inr ⟨_, _, _, h_DIGIT_MARKS, rfl, rfl, WP.sz (show 3 ≤ 1000000 by decide), (.cons ⟨_, congrArg (Value.str · _) (by decide +kernel)⟩ (.cons ⟨_, congrArg (Value.str · _) (by decide +kernel)⟩ (.cons ⟨_, congrArg (Value.str · _) (by decide +kernel)⟩ .nil)))⟩), ⟨_, PySem.W.mg_of X G g_FIGURES, _, congrArg (Value.str · _) (by decide +kernel)⟩, ⟨_, PySem.W.mg_of X G g_FIRST_PRINTABLE, _, rfl⟩, WP.KTp.mk' (PySem.W.mg_of X G g_HIDING_MARKS) (fun _ => .inr ⟨_, _, _, h_HIDING_MARKS, rfl, rfl, WP.sz (show 2 ≤ 1000000 by decide), (.cons ⟨_, congrArg (Value.str · _) (by decide +kernel)⟩ (.cons ⟨_, congrArg (Value.str · _) (by decide +kernel)⟩ .nil))⟩), WP.KDc.mk' (PySem.W.mg_of X G g_INSERTED_CHARACTERS) (WP.kdc_cons ⟨_, _, _, h_INSERTED_CHARACTERS, kl_INSERTED_CHARACTERS, e_INSERTED_CHARACTERS_0, ⟨_, congrArg (Value.str · _) (by decide +kernel)⟩⟩ (WP.kdc_cons ⟨_, _, _, h_INSERTED_CHARACTERS, kl_INSERTED_CHARACTERS, e_INSERTED_CHARACTERS_1, ⟨_, congrArg (Value.str · _) (by decide +kernel)⟩⟩ (WP.kdc_cons ⟨_, _, _, h_INSERTED_CHARACTERS, kl_INSERTED_CHARACTERS, e_INSERTED_CHARACTERS_2, ⟨_, congrArg (Value.str · _) (by decide +kernel)⟩⟩ (WP.kdc_cons ⟨_, _, _, h_INSERTED_CHARACTERS, kl_INSERTED_CHARACTERS, e_INSERTED_CHARACTERS_3, ⟨_, congrArg (Value.str · _) (by decide +kernel)⟩⟩ (fun p hp => by cases hp))))), ⟨_, PySem.W.mg_of X G g_LAST_PRINTABLE, _, rfl⟩, WP.KTp.mk' (PySem.W.mg_of X G g_NEGATIVE_SIGNS) (fun _ => .inr ⟨_, _, _, h_NEGATIVE_SIGNS, rfl, rfl, WP.sz (show 3 ≤ 1000000 by decide), (.cons ⟨_, congrArg (Value.str · _) (by decide +kernel)⟩ (.cons ⟨_, congrArg (Value.str · _) (by decide +kernel)⟩ (.cons ⟨_, congrArg (Value.str · _) (by decide +kernel)⟩ .nil)))⟩), ⟨_, PySem.W.mg_of X G g_NOT_PRINTABLE, _, rfl⟩, WP.ExcOk.mk' (PySem.W.mg_of X G n_BadPicture) ⟨x_BadPicture, kc_BadPicture, tc_BadPicture, ⟨hg_BadPicture, hk_BadPicture, hs_BadPicture, hd_BadPicture, ha_BadPicture, hn_, ht_, hm_BadPicture⟩⟩⟩
  have Fx0 := fun_mk (st := s__law_rich) lx0 cx0 kx0
  have bx0 := Fx0.binds (ps := ["cell", "k"]) fun _ _ _ _ _ _ us hl => match us, hl with | [_, _], _ => rfl
  have Cx0 : ∀ base : Heap, K.In base → base.Ns mainGlobals mg → (∀ p ∈ ([(Kcx47, Ktx47)] : List (Addr × Addr)), LamX.TabB base mg p.1 p.2) → WP.Callee l.prog w K mg base CX0 1 "_law_rich" ["cell", "k"] (sp__law_rich K mg) := fun base p1 p2 p3 => WP.Callee.mk' (ok__law_rich Fx0 B ) (PySem.W.mg_of X G ax0) kx0 bx0
  have Fx1 := fun_mk (st := s__law_picture) lx1 cx1 kx1
  have bx1 := Fx1.binds (ps := ["rich"]) fun _ _ _ _ _ _ us hl => match us, hl with | [_], _ => rfl
  have Cx1 : ∀ base : Heap, K.In base → base.Ns mainGlobals mg → (∀ p ∈ ([(Kcx47, Ktx47)] : List (Addr × Addr)), LamX.TabB base mg p.1 p.2) → WP.Callee l.prog w K mg base CX0 1 "_law_picture" ["rich"] (sp__law_picture K mg) := fun base p1 p2 p3 => WP.Callee.mk' (ok__law_picture Fx1 B ) (PySem.W.mg_of X G ax1) kx1 bx1
  have Fx2 := fun_mk (st := s__law_side) lx2 cx2 kx2
  have bx2 := Fx2.binds (ps := ["rich"]) fun _ _ _ _ _ _ us hl => match us, hl with | [_], _ => rfl
  have Cx2 : ∀ base : Heap, K.In base → base.Ns mainGlobals mg → (∀ p ∈ ([(Kcx47, Ktx47)] : List (Addr × Addr)), LamX.TabB base mg p.1 p.2) → WP.Callee l.prog w K mg base CX0 2 "_law_side" ["rich"] (sp__law_side K mg) := fun base p1 p2 p3 => WP.Callee.mk' (ok__law_side Fx2 B (Cx1 base p1 p2 p3)) (PySem.W.mg_of X G ax2) kx2 bx2
  have Fx3 := fun_mk (st := s__law_can) lx3 cx3 kx3
  have bx3 := Fx3.binds (ps := ["source", "target"]) fun _ _ _ _ _ _ us hl => match us, hl with | [_, _], _ => rfl
  have Cx3 : ∀ base : Heap, K.In base → base.Ns mainGlobals mg → (∀ p ∈ ([(Kcx47, Ktx47)] : List (Addr × Addr)), LamX.TabB base mg p.1 p.2) → WP.Callee l.prog w K mg base CX0 1 "_law_can" ["source", "target"] (sp__law_can K mg) := fun base p1 p2 p3 => WP.Callee.mk' (ok__law_can Fx3 B ) (PySem.W.mg_of X G ax3) kx3 bx3
  have Fx4 := fun_mk (st := s__law_figures) lx4 cx4 kx4
  have bx4 := Fx4.binds (ps := ["units", "size"]) fun _ _ _ _ _ _ us hl => match us, hl with | [_, _], _ => rfl
  have Cx4 : ∀ base : Heap, K.In base → base.Ns mainGlobals mg → (∀ p ∈ ([(Kcx47, Ktx47)] : List (Addr × Addr)), LamX.TabB base mg p.1 p.2) → WP.Callee l.prog w K mg base CX0 1 "_law_figures" ["units", "size"] (sp__law_figures K mg) := fun base p1 p2 p3 => WP.Callee.mk' (ok__law_figures Fx4 B ) (PySem.W.mg_of X G ax4) kx4 bx4
  have Fx5 := fun_mk (st := s__law_body) lx5 cx5 kx5
  have bx5 := Fx5.binds (ps := ["marks", "figures"]) fun _ _ _ _ _ _ us hl => match us, hl with | [_, _], _ => rfl
  have Cx5 : ∀ base : Heap, K.In base → base.Ns mainGlobals mg → (∀ p ∈ ([(Kcx47, Ktx47)] : List (Addr × Addr)), LamX.TabB base mg p.1 p.2) → WP.Callee l.prog w K mg base CX0 1 "_law_body" ["marks", "figures"] (sp__law_body K mg) := fun base p1 p2 p3 => WP.Callee.mk' (ok__law_body Fx5 B ) (PySem.W.mg_of X G ax5) kx5 bx5
  have Fx6 := fun_mk (st := s__law_written) lx6 cx6 kx6
  have bx6 := Fx6.binds (ps := ["picture", "units"]) fun _ _ _ _ _ _ us hl => match us, hl with | [_, _], _ => rfl
  have Cx6 : ∀ base : Heap, K.In base → base.Ns mainGlobals mg → (∀ p ∈ ([(Kcx47, Ktx47)] : List (Addr × Addr)), LamX.TabB base mg p.1 p.2) → WP.Callee l.prog w K mg base CX0 2 "_law_written" ["picture", "units"] (sp__law_written K mg) := fun base p1 p2 p3 => WP.Callee.mk' (ok__law_written Fx6 B (Cx4 base p1 p2 p3) (Cx5 base p1 p2 p3)) (PySem.W.mg_of X G ax6) kx6 bx6
  have Fx7 := fun_mk (st := s__law_word) lx7 cx7 kx7
  have bx7 := Fx7.binds (ps := ["size", "chars", "seed"]) fun _ _ _ _ _ _ us hl => match us, hl with | [_, _, _], _ => rfl
  have Cx7 : ∀ base : Heap, K.In base → base.Ns mainGlobals mg → (∀ p ∈ ([(Kcx47, Ktx47)] : List (Addr × Addr)), LamX.TabB base mg p.1 p.2) → WP.Callee l.prog w K mg base CX0 1 "_law_word" ["size", "chars", "seed"] (sp__law_word K mg) := fun base p1 p2 p3 => WP.Callee.mk' (ok__law_word Fx7 B ) (PySem.W.mg_of X G ax7) kx7 bx7
  have Fx8 := fun_mk (st := s__law_decimal) lx8 cx8 kx8
  have bx8 := Fx8.binds (ps := ["units", "scale"]) fun _ _ _ _ _ _ us hl => match us, hl with | [_, _], _ => rfl
  have Cx8 : ∀ base : Heap, K.In base → base.Ns mainGlobals mg → (∀ p ∈ ([(Kcx47, Ktx47)] : List (Addr × Addr)), LamX.TabB base mg p.1 p.2) → WP.Callee l.prog w K mg base CX0 1 "_law_decimal" ["units", "scale"] (sp__law_decimal K mg) := fun base p1 p2 p3 => WP.Callee.mk' (ok__law_decimal Fx8 B ) (PySem.W.mg_of X G ax8) kx8 bx8
  have Fx9 := fun_mk (st := s__law_number) lx9 cx9 kx9
  have bx9 := Fx9.binds (ps := ["rich"]) fun _ _ _ _ _ _ us hl => match us, hl with | [_], _ => rfl
  have Cx9 : ∀ base : Heap, K.In base → base.Ns mainGlobals mg → (∀ p ∈ ([(Kcx47, Ktx47)] : List (Addr × Addr)), LamX.TabB base mg p.1 p.2) → WP.Callee l.prog w K mg base CX0 2 "_law_number" ["rich"] (sp__law_number K mg) := fun base p1 p2 p3 => WP.Callee.mk' (ok__law_number Fx9 B (Cx8 base p1 p2 p3)) (PySem.W.mg_of X G ax9) kx9 bx9
  have Fx10 := fun_mk (st := s__law_units) lx10 cx10 kx10
  have bx10 := Fx10.binds (ps := ["picture", "rich"]) fun _ _ _ _ _ _ us hl => match us, hl with | [_, _], _ => rfl
  have Cx10 : ∀ base : Heap, K.In base → base.Ns mainGlobals mg → (∀ p ∈ ([(Kcx47, Ktx47)] : List (Addr × Addr)), LamX.TabB base mg p.1 p.2) → WP.Callee l.prog w K mg base CX0 1 "_law_units" ["picture", "rich"] (sp__law_units K mg) := fun base p1 p2 p3 => WP.Callee.mk' (ok__law_units Fx10 B ) (PySem.W.mg_of X G ax10) kx10 bx10
  have Fx11 := fun_mk (st := s__law_content) lx11 cx11 kx11
  have bx11 := Fx11.binds (ps := ["source", "rich"]) fun _ _ _ _ _ _ us hl => match us, hl with | [_, _], _ => rfl
  have Cx11_0 : ∀ base : Heap, K.In base → base.Ns mainGlobals mg → (∀ p ∈ ([(Kcx47, Ktx47)] : List (Addr × Addr)), LamX.TabB base mg p.1 p.2) → WP.Callee l.prog w K mg base CX0 2 "_law_content" ["source", "rich"] (sp__law_content K mg 0) := fun base p1 p2 p3 => WP.Callee.mk' ⟨fun _ _ _ _ h => (h : False).elim, fun _ _ _ _ _ _ _ _ _ _ _ _ _ h => (h : False).elim⟩ (PySem.W.mg_of X G ax11) kx11 bx11
  have Cx11_1 : ∀ base : Heap, K.In base → base.Ns mainGlobals mg → (∀ p ∈ ([(Kcx47, Ktx47)] : List (Addr × Addr)), LamX.TabB base mg p.1 p.2) → WP.Callee l.prog w K mg base CX0 3 "_law_content" ["source", "rich"] (sp__law_content K mg 1) := fun base p1 p2 p3 => WP.Callee.mk' (ok__law_content (nn := 0) Fx11 B (Cx6 base p1 p2 p3) (Cx7 base p1 p2 p3) (Cx9 base p1 p2 p3) (Cx10 base p1 p2 p3) (Cx11_0 base p1 p2 p3)) (PySem.W.mg_of X G ax11) kx11 bx11
  have Cx11_2 : ∀ base : Heap, K.In base → base.Ns mainGlobals mg → (∀ p ∈ ([(Kcx47, Ktx47)] : List (Addr × Addr)), LamX.TabB base mg p.1 p.2) → WP.Callee l.prog w K mg base CX0 4 "_law_content" ["source", "rich"] (sp__law_content K mg 2) := fun base p1 p2 p3 => WP.Callee.mk' (ok__law_content (nn := 1) Fx11 B (Cx6 base p1 p2 p3) (Cx7 base p1 p2 p3) (Cx9 base p1 p2 p3) (Cx10 base p1 p2 p3) (Cx11_1 base p1 p2 p3)) (PySem.W.mg_of X G ax11) kx11 bx11
  have Cx11 := Cx11_2
  have Fx12 := fun_mk (st := s__law_cell) lx12 cx12 kx12
  have bx12 := Fx12.binds (ps := ["script", "k"]) fun _ _ _ _ _ _ us hl => match us, hl with | [_, _], _ => rfl
  have Cx12 : ∀ base : Heap, K.In base → base.Ns mainGlobals mg → (∀ p ∈ ([(Kcx47, Ktx47)] : List (Addr × Addr)), LamX.TabB base mg p.1 p.2) → WP.Callee l.prog w K mg base CX0 1 "_law_cell" ["script", "k"] (sp__law_cell K mg) := fun base p1 p2 p3 => WP.Callee.mk' (ok__law_cell Fx12 B ) (PySem.W.mg_of X G ax12) kx12 bx12
  have Fx13 := fun_mk (st := s_digits_in) lx13 cx13 kx13
  have bx13 := Fx13.binds (ps := ["picture"]) fun _ _ _ _ _ _ us hl => match us, hl with | [_], _ => rfl
  have Cx13 : ∀ base : Heap, K.In base → base.Ns mainGlobals mg → (∀ p ∈ ([(Kcx47, Ktx47)] : List (Addr × Addr)), LamX.TabB base mg p.1 p.2) → WP.Callee l.prog w K mg base CX0 1 "digits_in" ["picture"] (sp_digits_in K mg) := fun base p1 p2 p3 => WP.Callee.mk' (ok_digits_in Fx13 B ) (PySem.W.mg_of X G ax13) kx13 bx13
  have Fx14 := fun_mk (st := s__sign_text) lx14 cx14 kx14
  have bx14 := Fx14.binds (ps := ["sign", "is_negative"]) fun _ _ _ _ _ _ us hl => match us, hl with | [_, _], _ => rfl
  have Cx14 : ∀ base : Heap, K.In base → base.Ns mainGlobals mg → (∀ p ∈ ([(Kcx47, Ktx47)] : List (Addr × Addr)), LamX.TabB base mg p.1 p.2) → WP.Callee l.prog w K mg base CX0 1 "_sign_text" ["sign", "is_negative"] (sp__sign_text K mg) := fun base p1 p2 p3 => WP.Callee.mk' (ok__sign_text Fx14 B ) (PySem.W.mg_of X G ax14) kx14 bx14
  have Fx15 := fun_mk (st := s__body_text) lx15 cx15 kx15
  have bx15 := Fx15.binds (ps := ["marks", "figures"]) fun _ _ _ _ _ _ us hl => match us, hl with | [_, _], _ => rfl
  have Cx15 : ∀ base : Heap, K.In base → base.Ns mainGlobals mg → (∀ p ∈ ([(Kcx47, Ktx47)] : List (Addr × Addr)), LamX.TabB base mg p.1 p.2) → WP.Callee l.prog w K mg base CX0 1 "_body_text" ["marks", "figures"] (sp__body_text K mg) := fun base p1 p2 p3 => WP.Callee.mk' (ok__body_text Fx15 B ) (PySem.W.mg_of X G ax15) kx15 bx15
  have Fx16 := fun_mk (st := s_power) lx16 cx16 kx16
  have bx16 := Fx16.binds (ps := ["exponent"]) fun _ _ _ _ _ _ us hl => match us, hl with | [_], _ => rfl
  have Cx16 : ∀ base : Heap, K.In base → base.Ns mainGlobals mg → (∀ p ∈ ([(Kcx47, Ktx47)] : List (Addr × Addr)), LamX.TabB base mg p.1 p.2) → WP.Callee l.prog w K mg base CX0 1 "power" ["exponent"] (sp_power K mg) := fun base p1 p2 p3 => WP.Callee.mk' (ok_power Fx16 B ) (PySem.W.mg_of X G ax16) kx16 bx16
  have Fx17 := fun_mk (st := s_fits) lx17 cx17 kx17
  have bx17 := Fx17.binds (ps := ["units", "digits"]) fun _ _ _ _ _ _ us hl => match us, hl with | [_, _], _ => rfl
  have Cx17 : ∀ base : Heap, K.In base → base.Ns mainGlobals mg → (∀ p ∈ ([(Kcx47, Ktx47)] : List (Addr × Addr)), LamX.TabB base mg p.1 p.2) → WP.Callee l.prog w K mg base CX0 2 "fits" ["units", "digits"] (sp_fits K mg) := fun base p1 p2 p3 => WP.Callee.mk' (ok_fits Fx17 B (Cx16 base p1 p2 p3)) (PySem.W.mg_of X G ax17) kx17 bx17
  have Fx18 := fun_mk (st := s_is_signed) lx18 cx18 kx18
  have bx18 := Fx18.binds (ps := ["picture"]) fun _ _ _ _ _ _ us hl => match us, hl with | [_], _ => rfl
  have Cx18 : ∀ base : Heap, K.In base → base.Ns mainGlobals mg → (∀ p ∈ ([(Kcx47, Ktx47)] : List (Addr × Addr)), LamX.TabB base mg p.1 p.2) → WP.Callee l.prog w K mg base CX0 1 "is_signed" ["picture"] (sp_is_signed K mg) := fun base p1 p2 p3 => WP.Callee.mk' (ok_is_signed Fx18 B ) (PySem.W.mg_of X G ax18) kx18 bx18
  have Fx19 := fun_mk (st := s__many_digits) lx19 cx19 kx19
  have bx19 := Fx19.binds (ps := ["picture"]) fun _ _ _ _ _ _ us hl => match us, hl with | [_], _ => rfl
  have Cx19 : ∀ base : Heap, K.In base → base.Ns mainGlobals mg → (∀ p ∈ ([(Kcx47, Ktx47)] : List (Addr × Addr)), LamX.TabB base mg p.1 p.2) → WP.Callee l.prog w K mg base CX0 2 "_many_digits" ["picture"] (sp__many_digits K mg) := fun base p1 p2 p3 => WP.Callee.mk' (ok__many_digits Fx19 B (Cx13 base p1 p2 p3)) (PySem.W.mg_of X G ax19) kx19 bx19
  have Fx20 := fun_mk (st := s_suits) lx20 cx20 kx20
  have bx20 := Fx20.binds (ps := ["picture", "units"]) fun _ _ _ _ _ _ us hl => match us, hl with | [_, _], _ => rfl
  have Cx20 : ∀ base : Heap, K.In base → base.Ns mainGlobals mg → (∀ p ∈ ([(Kcx47, Ktx47)] : List (Addr × Addr)), LamX.TabB base mg p.1 p.2) → WP.Callee l.prog w K mg base CX0 3 "suits" ["picture", "units"] (sp_suits K mg) := fun base p1 p2 p3 => WP.Callee.mk' (ok_suits Fx20 B (Cx17 base p1 p2 p3) (Cx18 base p1 p2 p3) (Cx19 base p1 p2 p3)) (PySem.W.mg_of X G ax20) kx20 bx20
  have Fx21 := fun_mk (st := s__sign_of) lx21 cx21 kx21
  have bx21 := Fx21.binds (ps := ["picture"]) fun _ _ _ _ _ _ us hl => match us, hl with | [_], _ => rfl
  have Cx21 : ∀ base : Heap, K.In base → base.Ns mainGlobals mg → (∀ p ∈ ([(Kcx47, Ktx47)] : List (Addr × Addr)), LamX.TabB base mg p.1 p.2) → WP.Callee l.prog w K mg base CX0 2 "_sign_of" ["picture"] (sp__sign_of K mg) := fun base p1 p2 p3 => WP.Callee.mk' (ok__sign_of Fx21 B (Cx18 base p1 p2 p3)) (PySem.W.mg_of X G ax21) kx21 bx21
  have Fx22 := fun_mk (st := s__is_sign_ahead) lx22 cx22 kx22
  have bx22 := Fx22.binds (ps := ["picture"]) fun _ _ _ _ _ _ us hl => match us, hl with | [_], _ => rfl
  have Cx22 : ∀ base : Heap, K.In base → base.Ns mainGlobals mg → (∀ p ∈ ([(Kcx47, Ktx47)] : List (Addr × Addr)), LamX.TabB base mg p.1 p.2) → WP.Callee l.prog w K mg base CX0 3 "_is_sign_ahead" ["picture"] (sp__is_sign_ahead K mg) := fun base p1 p2 p3 => WP.Callee.mk' (ok__is_sign_ahead Fx22 B (Cx21 base p1 p2 p3)) (PySem.W.mg_of X G ax22) kx22 bx22
  have Fx23 := fun_mk (st := s_written) lx23 cx23 kx23
  have bx23 := Fx23.binds (ps := ["picture", "units"]) fun _ _ _ _ _ _ us hl => match us, hl with | [_, _], _ => rfl
  have Cx23 : ∀ base : Heap, K.In base → base.Ns mainGlobals mg → (∀ p ∈ ([(Kcx47, Ktx47)] : List (Addr × Addr)), LamX.TabB base mg p.1 p.2) → WP.Callee l.prog w K mg base (L2.CX l.prog w) 4 "written" ["picture", "units"] (sp_written K mg) := fun base p1 p2 p3 => WP.Callee.mk' (ok_written Fx23 B (Cx14 base p1 p2 p3) (Cx15 base p1 p2 p3) (Cx20 base p1 p2 p3) (Cx19 base p1 p2 p3) (Cx21 base p1 p2 p3) (Cx22 base p1 p2 p3)) (PySem.W.mg_of X G ax23) kx23 bx23
  have Fx24 := fun_mk (st := s_trimmed) lx24 cx24 kx24
  have bx24 := Fx24.binds (ps := ["picture", "units"]) fun _ _ _ _ _ _ us hl => match us, hl with | [_, _], _ => rfl
  have Cx24 : ∀ base : Heap, K.In base → base.Ns mainGlobals mg → (∀ p ∈ ([(Kcx47, Ktx47)] : List (Addr × Addr)), LamX.TabB base mg p.1 p.2) → WP.Callee l.prog w K mg base CX0 3 "trimmed" ["picture", "units"] (sp_trimmed K mg) := fun base p1 p2 p3 => WP.Callee.mk' (ok_trimmed Fx24 B (Cx16 base p1 p2 p3) (Cx19 base p1 p2 p3) (Cx18 base p1 p2 p3)) (PySem.W.mg_of X G ax24) kx24 bx24
  have Fx25 := fun_mk (st := s_quotient) lx25 cx25 kx25
  have bx25 := Fx25.binds (ps := ["above", "below", "is_rounded"]) fun _ _ _ _ _ _ us hl => match us, hl with | [_, _, _], _ => rfl
  have Cx25 : ∀ base : Heap, K.In base → base.Ns mainGlobals mg → (∀ p ∈ ([(Kcx47, Ktx47)] : List (Addr × Addr)), LamX.TabB base mg p.1 p.2) → WP.Callee l.prog w K mg base CX0 1 "quotient" ["above", "below", "is_rounded"] (sp_quotient K mg) := fun base p1 p2 p3 => WP.Callee.mk' (ok_quotient Fx25 B ) (PySem.W.mg_of X G ax25) kx25 bx25
  have Fx26 := fun_mk (st := s_aligned) lx26 cx26 kx26
  have bx26 := Fx26.binds (ps := ["a", "scale"]) fun _ _ _ _ _ _ us hl => match us, hl with | [_, _], _ => rfl
  have Cx26 : ∀ base : Heap, K.In base → base.Ns mainGlobals mg → (∀ p ∈ ([(Kcx47, Ktx47)] : List (Addr × Addr)), LamX.TabB base mg p.1 p.2) → WP.Callee l.prog w K mg base CX0 2 "aligned" ["a", "scale"] (sp_aligned K mg) := fun base p1 p2 p3 => WP.Callee.mk' (ok_aligned Fx26 B (Cx16 base p1 p2 p3)) (PySem.W.mg_of X G ax26) kx26 bx26
  have Fx27 := fun_mk (st := s_units_at) lx27 cx27 kx27
  have bx27 := Fx27.binds (ps := ["a", "scale", "is_rounded"]) fun _ _ _ _ _ _ us hl => match us, hl with | [_, _, _], _ => rfl
  have Cx27 : ∀ base : Heap, K.In base → base.Ns mainGlobals mg → (∀ p ∈ ([(Kcx47, Ktx47)] : List (Addr × Addr)), LamX.TabB base mg p.1 p.2) → WP.Callee l.prog w K mg base CX0 3 "units_at" ["a", "scale", "is_rounded"] (sp_units_at K mg) := fun base p1 p2 p3 => WP.Callee.mk' (ok_units_at Fx27 B (Cx25 base p1 p2 p3) (Cx26 base p1 p2 p3) (Cx16 base p1 p2 p3)) (PySem.W.mg_of X G ax27) kx27 bx27
  have Fx28 := fun_mk (st := s_cut_to) lx28 cx28 kx28
  have bx28 := Fx28.binds (ps := ["target", "value"]) fun _ _ _ _ _ _ us hl => match us, hl with | [_, _], _ => rfl
  have Cx28 : ∀ base : Heap, K.In base → base.Ns mainGlobals mg → (∀ p ∈ ([(Kcx47, Ktx47)] : List (Addr × Addr)), LamX.TabB base mg p.1 p.2) → WP.Callee l.prog w K mg base CX0 5 "cut_to" ["target", "value"] (sp_cut_to K mg) := fun base p1 p2 p3 => WP.Callee.mk' (ok_cut_to Fx28 B (Cx13 base p1 p2 p3) (Cx23 base p1 p2 p3) (Cx24 base p1 p2 p3) (Cx27 base p1 p2 p3)) (PySem.W.mg_of X G ax28) kx28 bx28
  have Fx29 := fun_mk (st := s_padded) lx29 cx29 kx29
  have bx29 := Fx29.binds (ps := ["text", "size"]) fun _ _ _ _ _ _ us hl => match us, hl with | [_, _], _ => rfl
  have Cx29 : ∀ base : Heap, K.In base → base.Ns mainGlobals mg → (∀ p ∈ ([(Kcx47, Ktx47)] : List (Addr × Addr)), LamX.TabB base mg p.1 p.2) → WP.Callee l.prog w K mg base CX0 1 "padded" ["text", "size"] (sp_padded K mg) := fun base p1 p2 p3 => WP.Callee.mk' (ok_padded Fx29 B ) (PySem.W.mg_of X G ax29) kx29 bx29
  have Fx30 := fun_mk (st := s__sign_and_body) lx30 cx30 kx30
  have bx30 := Fx30.binds (ps := ["picture", "text"]) fun _ _ _ _ _ _ us hl => match us, hl with | [_, _], _ => rfl
  have Cx30 : ∀ base : Heap, K.In base → base.Ns mainGlobals mg → (∀ p ∈ ([(Kcx47, Ktx47)] : List (Addr × Addr)), LamX.TabB base mg p.1 p.2) → WP.Callee l.prog w K mg base CX0 4 "_sign_and_body" ["picture", "text"] (sp__sign_and_body K mg) := fun base p1 p2 p3 => WP.Callee.mk' (ok__sign_and_body Fx30 B (Cx22 base p1 p2 p3)) (PySem.W.mg_of X G ax30) kx30 bx30
  have Fx31 := fun_mk (st := s__likely_units) lx31 cx31 kx31
  have bx31 := Fx31.binds (ps := ["picture", "text"]) fun _ _ _ _ _ _ us hl => match us, hl with | [_, _], _ => rfl
  have Cx31 : ∀ base : Heap, K.In base → base.Ns mainGlobals mg → (∀ p ∈ ([(Kcx47, Ktx47)] : List (Addr × Addr)), LamX.TabB base mg p.1 p.2) → WP.Callee l.prog w K mg base CX0 5 "_likely_units" ["picture", "text"] (sp__likely_units K mg) := fun base p1 p2 p3 => WP.Callee.mk' (ok__likely_units Fx31 B (Cx30 base p1 p2 p3)) (PySem.W.mg_of X G ax31) kx31 bx31
  have Fx32 := fun_mk (st := s__sign_marks) lx32 cx32 kx32
  have bx32 := Fx32.binds (ps := ["sign"]) fun _ _ _ _ _ _ us hl => match us, hl with | [_], _ => rfl
  have Cx32 : ∀ base : Heap, K.In base → base.Ns mainGlobals mg → (∀ p ∈ ([(Kcx47, Ktx47)] : List (Addr × Addr)), LamX.TabB base mg p.1 p.2) → WP.Callee l.prog w K mg base CX0 1 "_sign_marks" ["sign"] (sp__sign_marks K mg) := fun base p1 p2 p3 => WP.Callee.mk' (ok__sign_marks Fx32 B ) (PySem.W.mg_of X G ax32) kx32 bx32
  have Fx33 := fun_mk (st := s_size_of) lx33 cx33 kx33
  have bx33 := Fx33.binds (ps := ["picture"]) fun _ _ _ _ _ _ us hl => match us, hl with | [_], _ => rfl
  have Cx33 : ∀ base : Heap, K.In base → base.Ns mainGlobals mg → (∀ p ∈ ([(Kcx47, Ktx47)] : List (Addr × Addr)), LamX.TabB base mg p.1 p.2) → WP.Callee l.prog w K mg base CX0 2 "size_of" ["picture"] (sp_size_of K mg) := fun base p1 p2 p3 => WP.Callee.mk' (ok_size_of Fx33 B (Cx32 base p1 p2 p3)) (PySem.W.mg_of X G ax33) kx33 bx33
  have Fx34 := fun_mk (st := s_reading) lx34 cx34 kx34
  have bx34 := Fx34.binds (ps := ["picture", "text"]) fun _ _ _ _ _ _ us hl => match us, hl with | [_, _], _ => rfl
  have Cx34 : ∀ base : Heap, K.In base → base.Ns mainGlobals mg → (∀ p ∈ ([(Kcx47, Ktx47)] : List (Addr × Addr)), LamX.TabB base mg p.1 p.2) → WP.Callee l.prog w K mg base CX0 6 "reading" ["picture", "text"] (sp_reading K mg) := fun base p1 p2 p3 => WP.Callee.mk' (ok_reading Fx34 B (Cx31 base p1 p2 p3) (Cx33 base p1 p2 p3) (Cx23 base p1 p2 p3)) (PySem.W.mg_of X G ax34) kx34 bx34
  have Fx35 := fun_mk (st := s_normal) lx35 cx35 kx35
  have bx35 := Fx35.binds (ps := ["units", "scale"]) fun _ _ _ _ _ _ us hl => match us, hl with | [_, _], _ => rfl
  have Cx35 : ∀ base : Heap, K.In base → base.Ns mainGlobals mg → (∀ p ∈ ([(Kcx47, Ktx47)] : List (Addr × Addr)), LamX.TabB base mg p.1 p.2) → WP.Callee l.prog w K mg base CX0 1 "normal" ["units", "scale"] (sp_normal K mg) := fun base p1 p2 p3 => WP.Callee.mk' (ok_normal Fx35 B ) (PySem.W.mg_of X G ax35) kx35 bx35
  have Fx36 := fun_mk (st := s_value_of) lx36 cx36 kx36
  have bx36 := Fx36.binds (ps := ["picture", "text"]) fun _ _ _ _ _ _ us hl => match us, hl with | [_, _], _ => rfl
  have Cx36 : ∀ base : Heap, K.In base → base.Ns mainGlobals mg → (∀ p ∈ ([(Kcx47, Ktx47)] : List (Addr × Addr)), LamX.TabB base mg p.1 p.2) → WP.Callee l.prog w K mg base (L2.CX l.prog w) 7 "value_of" ["picture", "text"] (sp_value_of K mg) := fun base p1 p2 p3 => WP.Callee.mk' (ok_value_of Fx36 B (Cx13 base p1 p2 p3) (Cx34 base p1 p2 p3) (Cx35 base p1 p2 p3)) (PySem.W.mg_of X G ax36) kx36 bx36
  have Fx37 := fun_mk (st := s_figures_of) lx37 cx37 kx37
  have bx37 := Fx37.binds (ps := ["picture", "text"]) fun _ _ _ _ _ _ us hl => match us, hl with | [_, _], _ => rfl
  have Cx37 : ∀ base : Heap, K.In base → base.Ns mainGlobals mg → (∀ p ∈ ([(Kcx47, Ktx47)] : List (Addr × Addr)), LamX.TabB base mg p.1 p.2) → WP.Callee l.prog w K mg base CX0 2 "figures_of" ["picture", "text"] (sp_figures_of K mg) := fun base p1 p2 p3 => WP.Callee.mk' (ok_figures_of Fx37 B (Cx18 base p1 p2 p3)) (PySem.W.mg_of X G ax37) kx37 bx37
  have Fx38 := fun_mk (st := s_moved) lx38 cx38 kx38
  have bx38 := Fx38.binds (ps := ["source", "content", "target"]) fun _ _ _ _ _ _ us hl => match us, hl with | [_, _, _], _ => rfl
  have Cx38 : ∀ base : Heap, K.In base → base.Ns mainGlobals mg → (∀ p ∈ ([(Kcx47, Ktx47)] : List (Addr × Addr)), LamX.TabB base mg p.1 p.2) → WP.Callee l.prog w K mg base CX0 8 "moved" ["source", "content", "target"] (sp_moved K mg) := fun base p1 p2 p3 => WP.Callee.mk' (ok_moved Fx38 B (Cx28 base p1 p2 p3) (Cx29 base p1 p2 p3) (Cx36 base p1 p2 p3) (Cx37 base p1 p2 p3)) (PySem.W.mg_of X G ax38) kx38 bx38
  have Fx39 := fun_mk (st := s__law_pad) lx39 cx39 kx39
  have bx39 := Fx39.binds (ps := ["text", "size"]) fun _ _ _ _ _ _ us hl => match us, hl with | [_, _], _ => rfl
  have Cx39 : ∀ base : Heap, K.In base → base.Ns mainGlobals mg → (∀ p ∈ ([(Kcx47, Ktx47)] : List (Addr × Addr)), LamX.TabB base mg p.1 p.2) → WP.Callee l.prog w K mg base CX0 1 "_law_pad" ["text", "size"] (sp__law_pad K mg) := fun base p1 p2 p3 => WP.Callee.mk' (ok__law_pad Fx39 B ) (PySem.W.mg_of X G ax39) kx39 bx39
  have Fx40 := fun_mk (st := s__is_whole_number) lx40 cx40 kx40
  have bx40 := Fx40.binds (ps := ["source"]) fun _ _ _ _ _ _ us hl => match us, hl with | [_], _ => rfl
  have Cx40 : ∀ base : Heap, K.In base → base.Ns mainGlobals mg → (∀ p ∈ ([(Kcx47, Ktx47)] : List (Addr × Addr)), LamX.TabB base mg p.1 p.2) → WP.Callee l.prog w K mg base CX0 1 "_is_whole_number" ["source"] (sp__is_whole_number K mg) := fun base p1 p2 p3 => WP.Callee.mk' (ok__is_whole_number Fx40 B ) (PySem.W.mg_of X G ax40) kx40 bx40
  have Fx41 := fun_mk (st := s_can_move) lx41 cx41 kx41
  have bx41 := Fx41.binds (ps := ["source", "target"]) fun _ _ _ _ _ _ us hl => match us, hl with | [_, _], _ => rfl
  have Cx41 : ∀ base : Heap, K.In base → base.Ns mainGlobals mg → (∀ p ∈ ([(Kcx47, Ktx47)] : List (Addr × Addr)), LamX.TabB base mg p.1 p.2) → WP.Callee l.prog w K mg base CX0 2 "can_move" ["source", "target"] (sp_can_move K mg) := fun base p1 p2 p3 => WP.Callee.mk' (ok_can_move Fx41 B (Cx40 base p1 p2 p3)) (PySem.W.mg_of X G ax41) kx41 bx41
  have Fx42 := fun_mk (st := s__law_cut) lx42 cx42 kx42
  have bx42 := Fx42.binds (ps := ["target", "value"]) fun _ _ _ _ _ _ us hl => match us, hl with | [_, _], _ => rfl
  have Cx42 : ∀ base : Heap, K.In base → base.Ns mainGlobals mg → (∀ p ∈ ([(Kcx47, Ktx47)] : List (Addr × Addr)), LamX.TabB base mg p.1 p.2) → WP.Callee l.prog w K mg base CX0 4 "_law_cut" ["target", "value"] (sp__law_cut K mg) := fun base p1 p2 p3 => WP.Callee.mk' (ok__law_cut Fx42 B (Cx27 base p1 p2 p3) (Cx6 base p1 p2 p3)) (PySem.W.mg_of X G ax42) kx42 bx42
  have Fx43 := fun_mk (st := s__law_value) lx43 cx43 kx43
  have bx43 := Fx43.binds (ps := ["source", "content", "rich"]) fun _ _ _ _ _ _ us hl => match us, hl with | [_, _, _], _ => rfl
  have Cx43 : ∀ base : Heap, K.In base → base.Ns mainGlobals mg → (∀ p ∈ ([(Kcx47, Ktx47)] : List (Addr × Addr)), LamX.TabB base mg p.1 p.2) → WP.Callee l.prog w K mg base CX0 2 "_law_value" ["source", "content", "rich"] (sp__law_value K mg) := fun base p1 p2 p3 => WP.Callee.mk' (ok__law_value Fx43 B (Cx8 base p1 p2 p3) (Cx10 base p1 p2 p3)) (PySem.W.mg_of X G ax43) kx43 bx43
  have Fx44 := fun_mk (st := s__law_moved) lx44 cx44 kx44
  have bx44 := Fx44.binds (ps := ["source", "content", "target", "rich"]) fun _ _ _ _ _ _ us hl => match us, hl with | [_, _, _, _], _ => rfl
  have Cx44 : ∀ base : Heap, K.In base → base.Ns mainGlobals mg → (∀ p ∈ ([(Kcx47, Ktx47)] : List (Addr × Addr)), LamX.TabB base mg p.1 p.2) → WP.Callee l.prog w K mg base CX0 5 "_law_moved" ["source", "content", "target", "rich"] (sp__law_moved K mg) := fun base p1 p2 p3 => WP.Callee.mk' (ok__law_moved Fx44 B (Cx39 base p1 p2 p3) (Cx42 base p1 p2 p3) (Cx43 base p1 p2 p3)) (PySem.W.mg_of X G ax44) kx44 bx44
  have Fx45 := fun_mk (st := s_stored) lx45 cx45 kx45
  have bx45 := Fx45.binds (ps := ["target", "value", "is_rounded"]) fun _ _ _ _ _ _ us hl => match us, hl with | [_, _, _], _ => rfl
  have Cx45 : ∀ base : Heap, K.In base → base.Ns mainGlobals mg → (∀ p ∈ ([(Kcx47, Ktx47)] : List (Addr × Addr)), LamX.TabB base mg p.1 p.2) → WP.Callee l.prog w K mg base CX0 5 "stored" ["target", "value", "is_rounded"] (sp_stored K mg) := fun base p1 p2 p3 => WP.Callee.mk' (ok_stored Fx45 B (Cx13 base p1 p2 p3) (Cx27 base p1 p2 p3) (Cx20 base p1 p2 p3) (Cx23 base p1 p2 p3)) (PySem.W.mg_of X G ax45) kx45 bx45
  have Fx46 := fun_mk (st := s__law_stored) lx46 cx46 kx46
  have bx46 := Fx46.binds (ps := ["target", "value", "is_rounded"]) fun _ _ _ _ _ _ us hl => match us, hl with | [_, _, _], _ => rfl
  have Cx46 : ∀ base : Heap, K.In base → base.Ns mainGlobals mg → (∀ p ∈ ([(Kcx47, Ktx47)] : List (Addr × Addr)), LamX.TabB base mg p.1 p.2) → WP.Callee l.prog w K mg base CX0 4 "_law_stored" ["target", "value", "is_rounded"] (sp__law_stored K mg) := fun base p1 p2 p3 => WP.Callee.mk' (ok__law_stored Fx46 B (Cx27 base p1 p2 p3) (Cx6 base p1 p2 p3)) (PySem.W.mg_of X G ax46) kx46 bx46
  have Fx47 := fun_mk (st := s_is_printable) lx47 cx47 kx47
  have FCx47 := WP.funC_mk (st := s_is_printable) (y := "is_printable") lx47 cx47 tbx47
  have bx47 := Fx47.binds (ps := ["value"]) fun _ _ _ _ _ _ us hl => match us, hl with | [_], _ => rfl
  have Cx47 : ∀ base : Heap, K.In base → base.Ns mainGlobals mg → (∀ p ∈ ([(Kcx47, Ktx47)] : List (Addr × Addr)), LamX.TabB base mg p.1 p.2) → WP.Callee l.prog w K mg base CX0 1 "is_printable" ["value"] (sp_is_printable K mg) := fun base p1 p2 p3 => WP.Callee.mk' (ok_is_printable FCx47 (WP.tabB_of (p3 (Kcx47, Ktx47) (.head _)) tbx47) B ) (PySem.W.mg_of X G ax47) kx47 bx47
  have Fx48 := fun_mk (st := s_holds) lx48 cx48 kx48
  have bx48 := Fx48.binds (ps := ["picture", "text"]) fun _ _ _ _ _ _ us hl => match us, hl with | [_, _], _ => rfl
  have Cx48 : ∀ base : Heap, K.In base → base.Ns mainGlobals mg → (∀ p ∈ ([(Kcx47, Ktx47)] : List (Addr × Addr)), LamX.TabB base mg p.1 p.2) → WP.Callee l.prog w K mg base CX0 7 "holds" ["picture", "text"] (sp_holds K mg) := fun base p1 p2 p3 => WP.Callee.mk' (ok_holds Fx48 B (Cx34 base p1 p2 p3) (Cx47 base p1 p2 p3) (Cx33 base p1 p2 p3)) (PySem.W.mg_of X G ax48) kx48 bx48
  have Fx49 := fun_mk (st := s_law) lx49 cx49 kx49
  exact ⟨PySem.W.fnOf "law" "law" (defArgs s_law) (defBody s_law) (defScope s_law) .none kVx49 dcx49 pmx49 anx49 cdx49 ctx49, [(Kcx47, Ktx47)], sp_law K, (List.forall_mem_cons.mpr ⟨hdx47.2, (fun _ h => nomatch h)⟩), (List.forall_mem_cons.mpr ⟨nkx47, (fun _ h => nomatch h)⟩), (List.forall_mem_cons.mpr ⟨hdx47.1, (fun _ h => nomatch h)⟩), fun s v => .of_eq rfl, fun H a ns hl _ hT hS => ⟨a, ns, rfl, hS, hl, ⟨#[], by rw [WP.tbl_of tbx47]; exact hT (Kcx47, Ktx47) (.head _), True.intro⟩, fun _ => rfl⟩, fun base p1 p2 p3 => ok_law Fx49 B (Cx0 base p1 p2 p3) (Cx2 base p1 p2 p3) (Cx3 base p1 p2 p3) (Cx11 base p1 p2 p3) (Cx1 base p1 p2 p3) (Cx9 base p1 p2 p3) (Cx12 base p1 p2 p3) (Cx38 base p1 p2 p3) (Cx29 base p1 p2 p3) (Cx39 base p1 p2 p3) (Cx41 base p1 p2 p3) (Cx44 base p1 p2 p3) (Cx37 base p1 p2 p3) (Cx28 base p1 p2 p3) (Cx42 base p1 p2 p3) (Cx45 base p1 p2 p3) (Cx46 base p1 p2 p3) (Cx48 base p1 p2 p3)⟩
end D
open PySem PySem.W PyProof.Rows
set_option maxRecDepth 100000 in
set_option maxHeartbeats 0 in
theorem PySem.Challenge.cw_cardwright_k23_moves_and_stores_holds : PySem.Challenge.rw_cardwright_k23_moves_and_stores.Holds := by
  w_on; o_law; k_head; (case hw => w_witness2)
  k_fill
  refine WP.walk_ofG (l := PySem.Challenge.rw_cardwright_k23_moves_and_stores) (n := 63) (k := 9) (x := "script") (CX := fun _ => L2.CX0) rfl (by decide) rfl ⟨rfl, by decide, by decide⟩ (fun w h Y => PySem.W.kIn_of Y) ?F (fun _ _ _ _ _ z => z)
  case F =>
    intro w mg fa h Y KX G hmg hT
    refine' D.all_mk KX G hmg ?ax0 ?lx0 ?cx0 ?kx0 ?ax1 ?lx1 ?cx1 ?kx1 ?ax2 ?lx2 ?cx2 ?kx2 ?ax3 ?lx3 ?cx3 ?kx3 ?ax4 ?lx4 ?cx4 ?kx4 ?ax5 ?lx5 ?cx5 ?kx5 ?ax6 ?lx6 ?cx6 ?kx6 ?ax7 ?lx7 ?cx7 ?kx7 ?ax8 ?lx8 ?cx8 ?kx8 ?ax9 ?lx9 ?cx9 ?kx9 ?ax10 ?lx10 ?cx10 ?kx10 ?ax11 ?lx11 ?cx11 ?kx11 ?ax12 ?lx12 ?cx12 ?kx12 ?ax13 ?lx13 ?cx13 ?kx13 ?ax14 ?lx14 ?cx14 ?kx14 ?ax15 ?lx15 ?cx15 ?kx15 ?ax16 ?lx16 ?cx16 ?kx16 ?ax17 ?lx17 ?cx17 ?kx17 ?ax18 ?lx18 ?cx18 ?kx18 ?ax19 ?lx19 ?cx19 ?kx19 ?ax20 ?lx20 ?cx20 ?kx20 ?ax21 ?lx21 ?cx21 ?kx21 ?ax22 ?lx22 ?cx22 ?kx22 ?ax23 ?lx23 ?cx23 ?kx23 ?ax24 ?lx24 ?cx24 ?kx24 ?ax25 ?lx25 ?cx25 ?kx25 ?ax26 ?lx26 ?cx26 ?kx26 ?ax27 ?lx27 ?cx27 ?kx27 ?ax28 ?lx28 ?cx28 ?kx28 ?ax29 ?lx29 ?cx29 ?kx29 ?ax30 ?lx30 ?cx30 ?kx30 ?ax31 ?lx31 ?cx31 ?kx31 ?ax32 ?lx32 ?cx32 ?kx32 ?ax33 ?lx33 ?cx33 ?kx33 ?ax34 ?lx34 ?cx34 ?kx34 ?ax35 ?lx35 ?cx35 ?kx35 ?ax36 ?lx36 ?cx36 ?kx36 ?ax37 ?lx37 ?cx37 ?kx37 ?ax38 ?lx38 ?cx38 ?kx38 ?ax39 ?lx39 ?cx39 ?kx39 ?ax40 ?lx40 ?cx40 ?kx40 ?ax41 ?lx41 ?cx41 ?kx41 ?ax42 ?lx42 ?cx42 ?kx42 ?ax43 ?lx43 ?cx43 ?kx43 ?ax44 ?lx44 ?cx44 ?kx44 ?ax45 ?lx45 ?cx45 ?kx45 ?ax46 ?lx46 ?cx46 ?kx46 ?ax47 ?tbx47 ?lx47 ?cx47 ?kx47 ?hdx47 ?nkx47 ?ax48 ?lx48 ?cx48 ?kx48 ?ax49 ?lx49 ?cx49 ?kx49 ?z_abs ?z_all ?z_bool ?z_divmod ?z_int ?z_isinstance ?z_len ?z_max ?z_min ?z_ord ?z_range ?z_str ?z_tuple ?z_zip ?g_DIGIT_MARKS ?h_DIGIT_MARKS ?g_FIGURES ?g_FIRST_PRINTABLE ?g_HIDING_MARKS ?h_HIDING_MARKS ?g_INSERTED_CHARACTERS ?h_INSERTED_CHARACTERS ?kl_INSERTED_CHARACTERS ?e_INSERTED_CHARACTERS_0 ?e_INSERTED_CHARACTERS_1 ?e_INSERTED_CHARACTERS_2 ?e_INSERTED_CHARACTERS_3 ?g_LAST_PRINTABLE ?g_NEGATIVE_SIGNS ?h_NEGATIVE_SIGNS ?g_NOT_PRINTABLE ?n_BadPicture ?x_BadPicture ?kc_BadPicture ?tc_BadPicture ?hg_BadPicture ?hk_BadPicture ?hs_BadPicture ?hd_BadPicture ?ha_BadPicture ?hm_BadPicture ?hn_ ?ht_
    (case ax0 => k_is); (case lx0 => k_is); (case cx0 => k_is); (case kx0 => k_is); (case ax1 => k_is); (case lx1 => k_is)
    (case cx1 => k_is); (case kx1 => k_is); (case ax2 => k_is); (case lx2 => k_is); (case cx2 => k_is); (case kx2 => k_is)
    (case ax3 => k_is); (case lx3 => k_is); (case cx3 => k_is); (case kx3 => k_is); (case ax4 => k_is); (case lx4 => k_is)
    (case cx4 => k_is); (case kx4 => k_is); (case ax5 => k_is); (case lx5 => k_is); (case cx5 => k_is); (case kx5 => k_is)
    (case ax6 => k_is); (case lx6 => k_is); (case cx6 => k_is); (case kx6 => k_is); (case ax7 => k_is); (case lx7 => k_is)
    (case cx7 => k_is); (case kx7 => k_is); (case ax8 => k_is); (case lx8 => k_is); (case cx8 => k_is); (case kx8 => k_is)
    (case ax9 => k_is); (case lx9 => k_is); (case cx9 => k_is); (case kx9 => k_is); (case ax10 => k_is); (case lx10 => k_is)
    (case cx10 => k_is); (case kx10 => k_is); (case ax11 => k_is); (case lx11 => k_is); (case cx11 => k_is); (case kx11 => k_is)
    (case ax12 => k_is); (case lx12 => k_is); (case cx12 => k_is); (case kx12 => k_is); (case ax13 => k_is); (case lx13 => k_is)
    (case cx13 => k_is); (case kx13 => k_is); (case ax14 => k_is); (case lx14 => k_is); (case cx14 => k_is); (case kx14 => k_is)
    (case ax15 => k_is); (case lx15 => k_is); (case cx15 => k_is); (case kx15 => k_is); (case ax16 => k_is); (case lx16 => k_is)
    (case cx16 => k_is); (case kx16 => k_is); (case ax17 => k_is); (case lx17 => k_is); (case cx17 => k_is); (case kx17 => k_is)
    (case ax18 => k_is); (case lx18 => k_is); (case cx18 => k_is); (case kx18 => k_is); (case ax19 => k_is); (case lx19 => k_is)
    (case cx19 => k_is); (case kx19 => k_is); (case ax20 => k_is); (case lx20 => k_is); (case cx20 => k_is); (case kx20 => k_is)
    (case ax21 => k_is); (case lx21 => k_is); (case cx21 => k_is); (case kx21 => k_is); (case ax22 => k_is); (case lx22 => k_is)
    (case cx22 => k_is); (case kx22 => k_is); (case ax23 => k_is); (case lx23 => k_is); (case cx23 => k_is); (case kx23 => k_is)
    (case ax24 => k_is); (case lx24 => k_is); (case cx24 => k_is); (case kx24 => k_is); (case ax25 => k_is); (case lx25 => k_is)
    (case cx25 => k_is); (case kx25 => k_is); (case ax26 => k_is); (case lx26 => k_is); (case cx26 => k_is); (case kx26 => k_is)
    (case ax27 => k_is); (case lx27 => k_is); (case cx27 => k_is); (case kx27 => k_is); (case ax28 => k_is); (case lx28 => k_is)
    (case cx28 => k_is); (case kx28 => k_is); (case ax29 => k_is); (case lx29 => k_is); (case cx29 => k_is); (case kx29 => k_is)
    (case ax30 => k_is); (case lx30 => k_is); (case cx30 => k_is); (case kx30 => k_is); (case ax31 => k_is); (case lx31 => k_is)
    (case cx31 => k_is); (case kx31 => k_is); (case ax32 => k_is); (case lx32 => k_is); (case cx32 => k_is); (case kx32 => k_is)
    (case ax33 => k_is); (case lx33 => k_is); (case cx33 => k_is); (case kx33 => k_is); (case ax34 => k_is); (case lx34 => k_is)
    (case cx34 => k_is); (case kx34 => k_is); (case ax35 => k_is); (case lx35 => k_is); (case cx35 => k_is); (case kx35 => k_is)
    (case ax36 => k_is); (case lx36 => k_is); (case cx36 => k_is); (case kx36 => k_is); (case ax37 => k_is); (case lx37 => k_is)
    (case cx37 => k_is); (case kx37 => k_is); (case ax38 => k_is); (case lx38 => k_is); (case cx38 => k_is); (case kx38 => k_is)
    (case ax39 => k_is); (case lx39 => k_is); (case cx39 => k_is); (case kx39 => k_is); (case ax40 => k_is); (case lx40 => k_is)
    (case cx40 => k_is); (case kx40 => k_is); (case ax41 => k_is); (case lx41 => k_is); (case cx41 => k_is); (case kx41 => k_is)
    (case ax42 => k_is); (case lx42 => k_is); (case cx42 => k_is); (case kx42 => k_is); (case ax43 => k_is); (case lx43 => k_is)
    (case cx43 => k_is); (case kx43 => k_is); (case ax44 => k_is); (case lx44 => k_is); (case cx44 => k_is); (case kx44 => k_is)
    (case ax45 => k_is); (case lx45 => k_is); (case cx45 => k_is); (case kx45 => k_is); (case ax46 => k_is); (case lx46 => k_is)
    (case cx46 => k_is); (case kx46 => k_is); (case ax47 => k_is); (case tbx47 => exact rfl); (case lx47 => k_is); (case cx47 => k_is)
    (case kx47 => k_is); (case hdx47 => exact hT "is_printable" _ _ (by decide +kernel) rfl); (case nkx47 => exact rfl); (case ax48 => k_is); (case lx48 => k_is); (case cx48 => k_is)
    (case kx48 => k_is); (case ax49 => k_is); (case lx49 => k_is); (case cx49 => k_is); (case kx49 => k_is); (case z_abs => k_is)
    (case z_all => k_is); (case z_bool => k_is); (case z_divmod => k_is); (case z_int => k_is); (case z_isinstance => k_is); (case z_len => k_is)
    (case z_max => k_is); (case z_min => k_is); (case z_ord => k_is); (case z_range => k_is); (case z_str => k_is); (case z_tuple => k_is)
    (case z_zip => k_is); (case g_DIGIT_MARKS => k_is); (case h_DIGIT_MARKS => k_is); (case g_FIGURES => k_is); (case g_FIRST_PRINTABLE => k_is); (case g_HIDING_MARKS => k_is)
    (case h_HIDING_MARKS => k_is); (case g_INSERTED_CHARACTERS => k_is); (case h_INSERTED_CHARACTERS => k_is); (case kl_INSERTED_CHARACTERS => exact ⟨⟨_, _, rfl, rfl⟩, ⟨⟨_, _, rfl, rfl⟩, ⟨⟨_, _, rfl, rfl⟩, ⟨⟨_, _, rfl, rfl⟩, True.intro⟩⟩⟩⟩); (case e_INSERTED_CHARACTERS_0 => k_is); (case e_INSERTED_CHARACTERS_1 => k_is)
    (case e_INSERTED_CHARACTERS_2 => k_is); (case e_INSERTED_CHARACTERS_3 => k_is); (case g_LAST_PRINTABLE => k_is); (case g_NEGATIVE_SIGNS => k_is); (case h_NEGATIVE_SIGNS => k_is); (case g_NOT_PRINTABLE => k_is)
    (case n_BadPicture => k_is); (case x_BadPicture => k_exc); (case kc_BadPicture => k_is); (case tc_BadPicture => k_is); (case hg_BadPicture => k_is); (case hk_BadPicture => k_is)
    (case hs_BadPicture => k_is); (case hd_BadPicture => k_is); (case ha_BadPicture => k_is); (case hm_BadPicture => k_is); (case hn_ => k_is); (case ht_ => k_is)
#print axioms PySem.Challenge.cw_cardwright_k23_moves_and_stores_holds
