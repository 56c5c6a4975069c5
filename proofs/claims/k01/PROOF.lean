import PyProof.Rows.All
import Wide.All
import OpenK.AllK
import Wide.FinOn
import HandS.ForMost
import HandS.Wide
import HandS.IsInst
import HandS.Evl
import HandS.ForExc
import HandS.ExcIs
import HandS.WideBits
import HandS.AnyAll
import HandS.Codes
import HandS.Comp
import HandS.Dict
import HandS.EndTab
import HandS.Iter
import HandS.More
import HandS.StrMore
import HandS.Text
import HandS.Walk
import PySem.Challenge.RW_cardwright_k01_words
set_option Elab.async false
set_option linter.all false
set_option maxRecDepth 100000
set_option maxHeartbeats 4000000
namespace WP
open PySem PySem.Spec PyProof.Rows L2

/-! ### a def that may be called -/
structure Callee (P : Program) (w : World) (K : PySem.W.Frag) (mg : Str → Option Value) (base : Heap) (CX : CXT) (lv : Nat) (nm : Str) (ps : List Str) (sp : Sp) : Prop where
  ex : ∃ (f : Addr) (fd : FuncData), FnOk P w K mg base CX lv f fd ps sp ∧ mg nm = some (.ref f) ∧ PySem.W.keepIn K (.ref f) = true ∧ Binds K fd ps []
theorem Callee.mk' {P : Program} {w : World} {K : PySem.W.Frag} {mg : Str → Option Value} {base : Heap} {CX : CXT} {lv : Nat} {nm : Str} {ps : List Str} {sp : Sp} {f : Addr} {fd : FuncData}
    (h : FnOk P w K mg base CX lv f fd ps sp) (m : mg nm = some (.ref f)) (k : PySem.W.keepIn K (.ref f) = true) (b : Binds K fd ps []) : Callee P w K mg base CX lv nm ps sp := ⟨⟨f, fd, h, m, k, b⟩⟩
section
variable {X : Cx} {CX : CXT} {k j : Nat} {ps : List Str} {sp : Sp} {E : XK} {x : Str} {p pos : Pos} {e : Expr} {es : List Expr} {t : TA}
theorem pe_callC (C : Callee X.prog X.w X.K X.mg X.base CX k x ps sp) (hr : Room j X.A) (hg : Gl X x) (hx : Passes CX X E) (ha : PA X (e :: es) t) (hl : k ≤ j := by decide)
    (hdb : (x == ("__debug__" : Str)) = false := by decide) (he : starEach (e :: es) X.env = (false, eval e X.env) :: starEach es X.env := by rfl) (hpl : (backTo pos (starEach es X.env)).any (·.1) = false := by rfl) :
    PE X (.Call (.Name x p) (e :: es) [] pos) (tCall sp [] E t) := by
  obtain ⟨f, fd, F, hm, hk, hb⟩ := C.ex
  exact pe_call F (hr.mono hl) hg hm hk hb .nil hx ha hdb he hpl
theorem pe_callC0 (C : Callee X.prog X.w X.K X.mg X.base CX k x ps sp) (hr : Room j X.A) (hg : Gl X x) (hx : Passes CX X E) (hl : k ≤ j := by decide)
    (hdb : (x == ("__debug__" : Str)) = false := by decide) : PE X (.Call (.Name x p) [] [] pos) (tCall sp [] E tNil) := by
  obtain ⟨f, fd, F, hm, hk, hb⟩ := C.ex
  exact pe_call0 F (hr.mono hl) hg hm hk hb .nil hx hdb
end

/-! ### readings, a step at a time -/
section
variable {σ : L2.St} {H : Hp} {D : Ends} {t u : TS} {te ta tb : TE} {tt tu : TT} {g : TG} {Q : VK} {QB : Bool → Hp → Prop} {QA : List V → Hp → Prop} {r : R2} {i j : Int} {n : Nat} {v x y : V}
theorem seq (h : t { D with nx := u D } σ H) : tSeq t u D σ H := h
theorem asg (h : te σ H fun x H1 => g x σ H1 D.nx) : tAsg te g D σ H := h
theorem name {QS : L2.St → Hp → Prop} (h : QS (σ.set n (some v)) H) : gName n v σ H QS := h
theorem var (e : σ[n]? = some (some v)) (h : Q v H) : tVar n σ H Q := ⟨v, e, h⟩
theorem con (h : Q v H) : tC v σ H Q := h
theorem op (h : ta σ H fun x H1 => tb σ H1 fun y H2 => r x y H2 Q) : tOp r ta tb σ H Q := h
theorem un {ru : V → Hp → VK → Prop} (h : ta σ H fun x H1 => ru x H1 Q) : tUn ru ta σ H Q := h
theorem rU_ {g : Int → V} (h : Q (g i) H) : rU g (.int i) H Q := ⟨i, rfl, h⟩
theorem i0 {g : Int → Int → V} (h : Q (g i j) H) : rI0 g (.int i) (.int j) H Q := ⟨i, j, rfl, rfl, h⟩
theorem iC {C : Int → Int → Prop} {g : Int → Int → V} (c : C i j) (h : Q (g i j) H) : rI C g (.int i) (.int j) H Q := ⟨i, j, rfl, rfl, c, h⟩
theorem eqS (s : scal x y = true) (h : Q (.bl (decide (x = y))) H) : rEq x y H Q := ⟨s, h⟩
theorem neS (s : scal x y = true) (h : Q (.bl (!decide (x = y))) H) : rNe x y H Q := ⟨s, h⟩
theorem ifS (h : tt σ H fun b H1 => if b = true then t D σ H1 else u D σ H1) : tIfS tt t u D σ H := h
theorem ifE (h : tt σ H fun b H1 => if b = true then ta σ H1 Q else tb σ H1 Q) : tIf tt ta tb σ H Q := h
theorem test (h : te σ H fun x H1 => ∃ k, x = .bl k ∧ QB k H1) : tTest te σ H QB := h
theorem bt (h : te σ H fun x H1 => ∃ k, x = .bl k ∧ QB k H1) : tB te σ H QB := h
theorem isb {b : Bool} (h : QB b H) : ∃ k, V.bl b = V.bl k ∧ QB k H := ⟨b, rfl, h⟩
theorem ret (h : te σ H D.rt) : tRet te D σ H := h
theorem retN (h : D.rt .non H) : tRetN D σ H := h
theorem drop (h : te σ H fun _ H1 => D.nx σ H1) : tDrop te D σ H := h
theorem next (h : D.nx σ H) : tNext D σ H := h
theorem brk (h : D.bk σ H) : tBreak D σ H := h
theorem cont (h : D.ct σ H) : tCont D σ H := h
theorem cb {rc : List V → Hp → VK → Prop} {a : TA} (h : a σ H fun vs H1 => rc vs H1 Q) : tCB rc a σ H Q := h
theorem call {sp : Sp} {E : XK} {a : TA} (h : a σ H fun vs H1 => sp (vs ++ []) H1 Q E) : tCall sp [] E a σ H Q := h
theorem cons {a : TA} (h : te σ H fun x H1 => a σ H1 fun xs H2 => QA (x :: xs) H2) : tCons te a σ H QA := h
theorem nil (h : QA [] H) : tNil σ H QA := h
theorem tup {a : TA} (h : a σ H fun xs H1 => xs.length ≤ sizeLine ∧ ∀ p, H1 p = none → Q (.ref p) (upd H1 p (.tup xs))) : tTup a σ H Q := h
theorem lst {a : TA} (h : a σ H fun xs H1 => xs.length ≤ sizeLine ∧ ∀ p, H1 p = none → Q (.ref p) (upd H1 p (.lst xs))) : tLst a σ H Q := h
theorem notT (h : tt σ H fun c H1 => QB (!c) H1) : tNot tt σ H QB := h
theorem andT (h : tt σ H fun c H1 => if c = true then tu σ H1 QB else QB false H1) : tAnd tt tu σ H QB := h
theorem orT (h : tt σ H fun c H1 => if c = true then QB true H1 else tu σ H1 QB) : tOr tt tu σ H QB := h
theorem andV (h : ta σ H fun x H1 => ∃ c, x = .bl c ∧ if c = true then tb σ H1 Q else Q (.bl false) H1) : tAndV ta tb σ H Q := h
theorem orV (h : ta σ H fun x H1 => ∃ c, x = .bl c ∧ if c = true then Q (.bl true) H1 else tb σ H1 Q) : tOrV ta tb σ H Q := h
theorem notV (h : ta σ H fun x H1 => ∃ c, x = .bl c ∧ Q (.bl (!c)) H1) : tNotV ta σ H Q := h
theorem isbV {b : Bool} {R : Bool → Prop} (h : R b) : ∃ k, V.bl b = V.bl k ∧ R k := ⟨b, rfl, h⟩
theorem sl {r : V → Option Int → Option Int → Hp → VK → Prop} {tl th : TO} (h : te σ H fun x H1 => tl σ H1 fun l H2 => th σ H2 fun u H3 => r x l u H3 Q) : tSl r te tl th σ H Q := h
theorem noPart {QO : Option Int → Hp → Prop} (h : QO none H) : tNoPart σ H QO := h
theorem part {QO : Option Int → Hp → Prop} (h : te σ H fun x H1 => ∃ i, x = .int i ∧ QO (some i) H1) : tPart te σ H QO := h
theorem isi {R : Int → Prop} (h : R i) : ∃ k, V.int i = V.int k ∧ R k := ⟨i, rfl, h⟩
/-- tests -/
theorem br {c A B : Prop} [Decidable c] (h1 : c → A) (h2 : ¬ c → B) : if decide c = true then A else B := by
  by_cases h : c
  · rw [decide_eq_true h, if_pos rfl]; exact h1 h
  · rw [decide_eq_false h, if_neg Bool.false_ne_true]; exact h2 h
theorem brN {c A B : Prop} [Decidable c] (h1 : ¬ c → A) (h2 : c → B) : if (!decide c) = true then A else B := by
  by_cases h : c
  · rw [decide_eq_true h]; exact iteF (h2 h)
  · rw [decide_eq_false h]; exact iteT (h1 h)
theorem brT {b : Bool} {A B : Prop} (e : b = true) (h : A) : if b = true then A else B := by rw [if_pos e]; exact h
theorem brF {b : Bool} {A B : Prop} (e : b = false) (h : B) : if b = true then A else B := by rw [if_neg (by rw [e]; exact Bool.false_ne_true)]; exact h
theorem brB {b : Bool} {A B : Prop} (h1 : b = true → A) (h2 : b = false → B) : if b = true then A else B := by
  cases b
  · exact iteF (h2 rfl)
  · exact iteT (h1 rfl)
theorem dec_int {i j : Int} : decide (V.int i = V.int j) = decide (i = j) := by
  by_cases h : i = j
  · rw [decide_eq_true h, decide_eq_true (congrArg V.int h)]
  · rw [decide_eq_false h, decide_eq_false fun e => h (V.int.inj e)]
theorem dec_str {i j : Str} : decide (V.str i = V.str j) = decide (i = j) := by
  by_cases h : i = j
  · rw [decide_eq_true h, decide_eq_true (congrArg V.str h)]
  · rw [decide_eq_false h, decide_eq_false fun e => h (V.str.inj e)]
theorem dec_bl {i j : Bool} : decide (V.bl i = V.bl j) = decide (i = j) := by
  by_cases h : i = j
  · rw [decide_eq_true h, decide_eq_true (congrArg V.bl h)]
  · rw [decide_eq_false h, decide_eq_false fun e => h (V.bl.inj e)]
theorem eqI (h : Q (.bl (decide (i = j))) H) : rEq (.int i) (.int j) H Q := ⟨rfl, by rw [dec_int]; exact h⟩
theorem neI (h : Q (.bl (!decide (i = j))) H) : rNe (.int i) (.int j) H Q := ⟨rfl, by rw [dec_int]; exact h⟩
theorem eqT {a b : Str} (h : Q (.bl (decide (a = b))) H) : rEq (.str a) (.str b) H Q := ⟨rfl, by rw [dec_str]; exact h⟩
theorem neT {a b : Str} (h : Q (.bl (!decide (a = b))) H) : rNe (.str a) (.str b) H Q := ⟨rfl, by rw [dec_str]; exact h⟩
theorem eqB {a b : Bool} (h : Q (.bl (decide (a = b))) H) : rEq (.bl a) (.bl b) H Q := ⟨rfl, by rw [dec_bl]; exact h⟩
theorem neB {a b : Bool} (h : Q (.bl (!decide (a = b))) H) : rNe (.bl a) (.bl b) H Q := ⟨rfl, by rw [dec_bl]; exact h⟩
end
/-! ### numbers of a known number of bits -/
theorem sz2 : (2 : Nat) ≤ sizeLine := by rw [sizeLine_eq]; decide
theorem sz {n : Nat} (h : n ≤ 1000000) : n ≤ sizeLine := by rw [sizeLine_eq]; omega
end WP
namespace WP
open PySem PySem.Spec PyProof.Rows L2
section
variable {X : Cx} {x : Str} {v : V} {pos : Pos}
theorem pe_const (hg : Gl X x) (h : ∃ u, X.mg x = some u ∧ RelV v u) (hd : (x == ("__debug__" : Str)) = false := by decide) : PE X (.Name x pos) (tC v) := by
  obtain ⟨u, hm, r⟩ := h
  exact pe_glob hg hm r hd
end
/-- a number of at most a bits -/
def Bt (i : Int) (a : Nat) : Prop := i.natAbs < 2 ^ a
theorem Bt.mono {i : Int} {a b : Nat} (h : Bt i a) (l : a ≤ b) : Bt i b := Nat.lt_of_lt_of_le h (Nat.pow_le_pow_right (by decide) l)
theorem Bt.mul {i j : Int} {a b : Nat} (h : Bt i a) (k : Bt j b) : Bt (i * j) (a + b) := wide_lt h k
theorem Bt.neg {i : Int} {a : Nat} (h : Bt i a) : Bt (-i) a := by unfold Bt at *; rw [Int.natAbs_neg]; exact h
theorem Bt.add {i j : Int} {a : Nat} (h : Bt i a) (k : Bt j a) : Bt (i + j) (a + 1) := by
  unfold Bt at *
  have := Int.natAbs_add_le i j
  rw [Nat.pow_succ]; omega
theorem Bt.sub {i j : Int} {a : Nat} (h : Bt i a) (k : Bt j a) : Bt (i - j) (a + 1) := by
  rw [Int.sub_eq_add_neg]; exact h.add k.neg
theorem Bt.le {i j : Int} {a : Nat} (h : Bt i a) (k : j.natAbs ≤ i.natAbs) : Bt j a := Nat.lt_of_le_of_lt k h
theorem Bt.ten (n : Nat) : Bt (10 ^ n) (4 * n + 1) := by
  unfold Bt
  have e : ((10 : Int) ^ n).natAbs = 10 ^ n := by rw [Int.natAbs_pow]; rfl
  rw [e]
  have h : 10 ^ n ≤ 16 ^ n := Nat.pow_le_pow_left (by decide) n
  have h2 : (16 : Nat) ^ n = 2 ^ (4 * n) := by rw [show (16 : Nat) = 2 ^ 4 from rfl, ← Nat.pow_mul]
  rw [h2] at h
  rw [Nat.pow_succ]
  have : 0 < 2 ^ (4 * n) := Nat.pow_pos (by decide)
  omega
theorem Bt.w {i j : Int} {a b : Nat} (h : Bt i a) (k : Bt j b) (l : a + b ≤ 999998 := by omega) : CMulW i j :=
  wide_mul (h.mono (Nat.le_succ a)) (k.mono (Nat.le_succ b)) (Nat.succ_pos _) (Nat.succ_pos _) (by omega)
theorem Bt.d {j : Int} {b : Nat} (h : 0 < j) (k : Bt j b) (l : b ≤ 8999 := by omega) : CDivW 0 j := wide_div h (k.mono (Nat.le_succ b)) (Nat.succ_pos _) (by omega)
theorem Bt.d' {i j : Int} {b : Nat} (h : 0 < j) (k : Bt j b) (l : b ≤ 8999 := by omega) : CDivW i j := Bt.d h k l
theorem ten_pos (n : Nat) : (0 : Int) < 10 ^ n := Int.pow_pos (by decide)
end WP
namespace WP
open PySem PySem.Spec PyProof.Rows L2
/-! ### what comes back -/
def RetT (xs : List V) (H : Hp) (Q : VK) : Prop := ∀ p H', Same H H' → H' p = some (.tup xs) → Q (.ref p) H'
def RetL (xs : List V) (H : Hp) (Q : VK) : Prop := ∀ p H', H p = none → Same H H' → H' p = some (.lst xs) → Q (.ref p) H'
def RetV (v : V) (H : Hp) (Q : VK) : Prop := ∀ H', Same H H' → Q v H'
theorem same_new {H : Hp} {p : Addr} {o : HO} (h : H p = none) : Same H (upd H p o) := fun b u e => by
  rw [upd_ne (ne_of_none e h)]; exact e
theorem same_mut {H H' : Hp} {p : Addr} {o : HO} (e : Same H H') (h : H p = none) : Same H (upd H' p o) := fun a u ha => by
  rw [upd_ne (ne_of_none ha h)]; exact e a u ha
theorem sqt {K : PySem.W.Frag} {H H' : Hp} {a : Addr} {xs : List V} (e : Same H H') (h : SqT K H a xs) : SqT K H' a xs := by
  rcases h with (h | ⟨o, h⟩) | h
  · exact .inl (.inl (e _ _ h))
  · exact .inl (.inr ⟨o, e _ _ h⟩)
  · exact .inr h
theorem RetT.new {xs : List V} {H H' : Hp} {Q : VK} (k : RetT xs H Q) (e : Same H H') : ∀ p, H' p = none → Q (.ref p) (upd H' p (.tup xs)) := fun p hp =>
  k p _ (e.trans (same_new hp)) upd_same
theorem RetL.new {xs : List V} {H H' : Hp} {Q : VK} (k : RetL xs H Q) (e : Same H H') : ∀ p, H' p = none → Q (.ref p) (upd H' p (.lst xs)) := fun p hp =>
  k p _ (e.free hp) (e.trans (same_new hp)) upd_same
/-- a decimal's two parts -/
abbrev dv (u : Int) (s : Nat) : List V := [.int u, .int (s : Int)]
theorem at0 {α : Type} {x : α} {xs : List α} : atI (x :: xs) (0 : Int) = some x := atI_nat (j := 0) rfl
theorem at1 {α : Type} {x y : α} {xs : List α} : atI (x :: y :: xs) (1 : Int) = some y := atI_nat (j := 1) rfl
theorem at2 {α : Type} {x y z : α} {xs : List α} : atI (x :: y :: z :: xs) (2 : Int) = some z := atI_nat (j := 2) rfl
theorem at3 {α : Type} {x y z u : α} {xs : List α} : atI (x :: y :: z :: u :: xs) (3 : Int) = some u := atI_nat (j := 3) rfl
theorem at4 {α : Type} {x y z u v : α} {xs : List α} : atI (x :: y :: z :: u :: v :: xs) (4 : Int) = some v := atI_nat (j := 4) rfl
section
variable {K : PySem.W.Frag} {H : Hp} {p : Addr} {xs : List V} {v : V} {i : Int} {Q : VK}
theorem ixT (h : SqT K H p xs) (a : atI xs i = some v) (q : Q v H) : rIxT K (.ref p) (.int i) H Q := ⟨p, xs, i, v, rfl, rfl, h, a, q⟩
theorem ixL (h : SqL K H p xs) (a : atI xs i = some v) (q : Q v H) : rIxL K (.ref p) (.int i) H Q := ⟨p, xs, i, v, rfl, rfl, h, a, q⟩
theorem unT {n : Nat} {t : TGs} {σ : L2.St} {QS : L2.St → Hp → Prop} (h : SqT K H p xs) (l : xs.length = n) (q : t xs σ H QS) : gTup K n t (.ref p) σ H QS := ⟨p, xs, rfl, h, l, q⟩
theorem gsCons {g : TG} {gs : TGs} {x : V} {r : List V} {σ : L2.St} {QS : L2.St → Hp → Prop} (q : g x σ H fun σ' H' => gs r σ' H' QS) : gCons g gs (x :: r) σ H QS := ⟨x, r, rfl, q⟩
theorem gsNil {σ : L2.St} {QS : L2.St → Hp → Prop} (q : QS σ H) : gNil [] σ H QS := ⟨rfl, q⟩
end
end WP
namespace WP
open PySem PySem.Spec PyProof.Rows L2
section
variable {K : PySem.W.Frag} {H : Hp} {p : Addr} {xs : List V} {v x : V} {i : Int} {Q : VK} {σ : L2.St} {D : Ends}
theorem forl {wi : TI} {g : TG} {tb : TS} (h : wi σ H fun J H1 => ∃ W : Nat → Nat → L2.St → Hp → Prop, (∃ m, W 0 m σ H1) ∧ ∀ i m σ H, W i m σ H →
  (J.stop i H ∧ D.nx σ H) ∨ (J.go i H ∧ ∃ N : L2.St → Hp → Prop, (∀ σ' H', N σ' H' → ∃ m', m' < m ∧ W (i + 1) m' σ' H') ∧ ∀ x H', J.yld i H x H' → g x σ H' fun σ2 H2 => tb { D with nx := N, ct := N, bk := D.nx } σ2 H2)) : tFor wi g tb D σ H := h
theorem rng1 {ta : TA} {R : It → Hp → Prop} (h : ta σ H fun vs H1 => ∃ j : Int, vs = [.int j] ∧ -(2 ^ 62) ≤ j ∧ j < 2 ^ 62 ∧ R (Itr 0 j.toNat) H1) : iRng1 ta σ H R := h
theorem rng2 {ta : TA} {R : It → Hp → Prop} (h : ta σ H fun vs H1 => ∃ i j : Int, vs = [.int i, .int j] ∧ (-(2 ^ 62) ≤ i ∧ i < 2 ^ 62 ∧ -(2 ^ 62) ≤ j ∧ j < 2 ^ 62) ∧ R (Itr i (j - i).toNat) H1) : iRng2 ta σ H R := h
theorem walkL {tl : TE} {R : It → Hp → Prop} (h : tl σ H fun x H1 => ∃ a, x = .ref a ∧ (∃ xs, SqL K H1 a xs) ∧ R (Itl K a) H1) : iList K tl σ H R := h
theorem walkT {tl : TE} {R : It → Hp → Prop} (h : tl σ H fun x H1 => ∃ a, x = .ref a ∧ (∃ xs, SqT K H1 a xs) ∧ R (Itt K a) H1) : iTup K tl σ H R := h
theorem isT {t n : String} {b : Bool} (ty : TyX K H x (.type t)) (q : Q (.bl b) H) (hb : kitB t n = some b := by decide +kernel) : rIsi K [x, .ty n] H Q :=
  ⟨x, .ty n, _, _, b, rfl, ClsV.ty n, ty, kit_ty hb, q⟩
theorem isY {t n : String} (ty : TyX K H x (.type t)) (q : Q (.bl true) H) (hb : kitB t n = some true := by decide +kernel) : rIsi K [x, .ty n] H Q := isT ty q hb
theorem isN {t n : String} (ty : TyX K H x (.type t)) (q : Q (.bl false) H) (hb : kitB t n = some false := by decide +kernel) : rIsi K [x, .ty n] H Q := isT ty q hb
def rLen (K : PySem.W.Frag) : List V → Hp → VK → Prop := fun xs H Q => ∃ x n, xs = [x] ∧ LenV K x H n ∧ Q (.int (n : Nat)) H
theorem c_len {X : Cx} : CallR X (.builtin "len") (rLen X.K) := call_len
theorem lenL (h : SqL K H p xs) (q : Q (.int (xs.length : Int)) H) : rLen K [V.ref p] H Q := ⟨_, _, rfl, .inl ⟨xs, h, rfl⟩, q⟩
theorem lenT (h : SqT K H p xs) (q : Q (.int (xs.length : Int)) H) : rLen K [V.ref p] H Q := ⟨_, _, rfl, .inr ⟨xs, h, rfl⟩, q⟩
theorem lenS {z : Str} (h : z.length ≤ sizeLine) (q : Q (.int (z.length : Int)) H) : rLen K [V.str z] H Q := ⟨_, _, rfl, ⟨h, rfl⟩, q⟩
def rInt1 : List V → Hp → VK → Prop := fun xs H Q => (∃ i, xs = [.int i] ∧ Q (.int i) H) ∨ ∃ k, xs = [.bl k] ∧ Q (.int (if k then 1 else 0)) H
theorem c_int1 {X : Cx} : CallR X (.type "int") rInt1 := call_int1
theorem intI (q : Q (.int i) H) : rInt1 [V.int i] H Q := .inl ⟨i, rfl, q⟩
theorem intB {b : Bool} (q : Q (.int (if b then 1 else 0)) H) : rInt1 [V.bl b] H Q := .inr ⟨b, rfl, q⟩
def rAbs : List V → Hp → VK → Prop := fun xs H Q => ∃ i, xs = [.int i] ∧ Q (.int (if i < 0 then -i else i)) H
theorem c_abs {X : Cx} : CallR X (.builtin "abs") rAbs := call_abs
theorem absI (q : Q (.int (i.natAbs : Int)) H) : rAbs [V.int i] H Q := ⟨i, rfl, by
  have e : (if i < 0 then -i else i) = (i.natAbs : Int) := by split <;> omega
  rw [e]; exact q⟩
def rMax2 : List V → Hp → VK → Prop := fun xs H Q => ∃ i j, xs = [.int i, .int j] ∧ Q (.int (if j > i then j else i)) H
def rMin2 : List V → Hp → VK → Prop := fun xs H Q => ∃ i j, xs = [.int i, .int j] ∧ Q (.int (if j < i then j else i)) H
theorem c_max2 {X : Cx} (hc : X.calm = true) : CallR X (.builtin "max") rMax2 := call_max2 hc
theorem c_min2 {X : Cx} (hc : X.calm = true) : CallR X (.builtin "min") rMin2 := call_min2 hc
theorem maxI {j : Int} (q : Q (.int (max i j)) H) : rMax2 [V.int i, V.int j] H Q := ⟨i, j, rfl, by
  have e : (if j > i then j else i) = max i j := by split <;> omega
  rw [e]; exact q⟩
theorem minI {j : Int} (q : Q (.int (min i j)) H) : rMin2 [V.int i, V.int j] H Q := ⟨i, j, rfl, by
  have e : (if j < i then j else i) = min i j := by split <;> omega
  rw [e]; exact q⟩
def rStrI : List V → Hp → VK → Prop := fun xs H Q => ∃ i : Int, xs = [.int i] ∧ i.natAbs.log2 < 1920 ∧ Q (.str (toString i)) H
theorem c_str {X : Cx} : CallR X (.type "str") rStrI := call_str_int
theorem strI (h : i.natAbs.log2 < 1920) (q : Q (.str (toString i)) H) : rStrI [V.int i] H Q := ⟨i, rfl, h, q⟩
def rListOf (K : PySem.W.Frag) : List V → Hp → VK → Prop := fun xs H Q => ∃ p ys, xs = [.ref p] ∧ (SqL K H p ys ∨ SqT K H p ys) ∧ ∀ l, H l = none → Q (.ref l) (upd H l (.lst ys))
theorem c_listOf {X : Cx} : CallR X (.type "list") (rListOf X.K) := call_list_of
theorem listL (h : SqL K H p xs) (q : ∀ l, H l = none → Q (.ref l) (upd H l (.lst xs))) : rListOf K [V.ref p] H Q := ⟨p, xs, rfl, .inl h, q⟩
theorem listT (h : SqT K H p xs) (q : ∀ l, H l = none → Q (.ref l) (upd H l (.lst xs))) : rListOf K [V.ref p] H Q := ⟨p, xs, rfl, .inr h, q⟩
def rTupOf (K : PySem.W.Frag) : List V → Hp → VK → Prop := fun xs H Q => ∃ p ys, xs = [.ref p] ∧ ((SqL K H p ys ∧ ∀ l, H l = none → Q (.ref l) (upd H l (.tup ys))) ∨ (SqT K H p ys ∧ Q (.ref p) H))
theorem c_tupOf {X : Cx} : CallR X (.type "tuple") (rTupOf X.K) := call_tuple_of
theorem tupL (h : SqL K H p xs) (q : ∀ l, H l = none → Q (.ref l) (upd H l (.tup xs))) : rTupOf K [V.ref p] H Q := ⟨p, xs, rfl, .inl ⟨h, q⟩⟩
def rOrd : List V → Hp → VK → Prop := fun xs H Q => ∃ x : Str, xs = [.str x] ∧ x.length = 1 ∧ Q (.int (x.cps.getD 0 0 : Nat)) H
theorem c_ord {X : Cx} : CallR X (.builtin "ord") rOrd := call_ord
theorem ordS {z : Str} (h : z.length = 1) (q : Q (.int (z.cps.getD 0 0 : Nat)) H) : rOrd [V.str z] H Q := ⟨z, rfl, h, q⟩
def rDivmod : List V → Hp → VK → Prop := fun xs H Q => ∃ i j, xs = [.int i, .int j] ∧ CDiv i j ∧ ∀ p, H p = none → Q (.ref p) (upd H p (.tup [.int (i / j), .int (i % j)]))
theorem c_divmod {X : Cx} : CallR X (.builtin "divmod") rDivmod := call_divmod
theorem sql {H' : Hp} {a : Addr} (e : Same H H') (h : SqL K H a xs) : SqL K H' a xs := e.seq h
theorem at_ints {ns : List Int} (h0 : 0 ≤ i) (h1 : i < (ns.length : Int)) : atI (ns.map V.int) i = some (.int (ns.getD i.toNat 0)) := by
  have e : i = ((i.toNat : Nat) : Int) := (Int.toNat_of_nonneg h0).symm
  rw [e]
  refine atI_nat ?_
  have hl : i.toNat < ns.length := by omega
  rw [List.getElem?_map, List.getElem?_eq_getElem hl, Int.toNat_natCast, List.getD_eq_getElem?_getD, List.getElem?_eq_getElem hl]
  rfl
end
end WP
namespace WP
open PySem PySem.Spec PyProof.Rows L2
section
variable {X : Cx}
theorem cut {t u : TS} {D : Ends} {σ : L2.St} {H : Hp} (Mid : L2.St → Hp → Prop) (h : t { D with nx := Mid } σ H) (k : ∀ σ' H', Mid σ' H' → u D σ' H') : Evl.tCut t u D σ H := ⟨Mid, h, k⟩
end
/-! ### == of data -/
section
variable {K : PySem.W.Frag} {H : Hp} {x y : V} {d e : PyData} {Q : VK}
theorem eqD (a : Dp K H x d) (b : Dp K H y e) (h : Q (.bl (PyData.eqv d e)) H) (s1 : SeqAt.shaped d = true := by first | rfl | decide +kernel) (s2 : SeqAt.shaped e = true := by first | rfl | decide +kernel) : rEqD K x y H Q := ⟨d, e, a, b, s1, s2, h⟩
theorem neD (a : Dp K H x d) (b : Dp K H y e) (h : Q (.bl (!PyData.eqv d e)) H) (s1 : SeqAt.shaped d = true := by first | rfl | decide +kernel) (s2 : SeqAt.shaped e = true := by first | rfl | decide +kernel) : rNeD K x y H Q := ⟨d, e, a, b, s1, s2, h⟩
theorem dpv {p : Addr} {u : Int} {s : Nat} (h : SqT K H p (dv u s)) : Dp K H (.ref p) (.tuple [.int u, .int (s : Int)]) := .tup h (.cons (.int _) (.cons (.int _) .nil))
end
end WP
namespace WP
open PySem PySem.Spec PyProof.Rows L2
abbrev MG := Str → Option Value
/-- the address that a module's name holds -/
def ca (mg : MG) (nm : Str) : Addr := match mg nm with
  | some (.ref a) => a
  | _ => 0
theorem ca_of {mg : MG} {nm : Str} {a : Addr} (h : mg nm = some (.ref a)) : ca mg nm = a := by unfold ca; rw [h]
/-! ### own exceptions without an __init__ of their own -/
structure ExcAt (K : PySem.W.Frag) (C : Addr) : Prop where
  x : PySem.W.excIn K C [.type "ValueError", .type "Exception", .type "BaseException", .type "object"] "ValueError.__new__" = true
  k : PySem.W.keepIn K (.ref C) = true
  t : PySem.W.typeIn K (.ref C) = some (.type "type")
  c : ExcC K C
structure ExcOk (K : PySem.W.Frag) (mg : MG) (nm : Str) : Prop where
  m : mg nm = some (.ref (ca mg nm))
  a : ExcAt K (ca mg nm)
theorem ExcOk.mk' {K : PySem.W.Frag} {mg : MG} {nm : Str} {C : Addr} (h : mg nm = some (.ref C)) (x : ExcAt K C) : ExcOk K mg nm := by
  have e := ca_of h
  exact ⟨by rw [e]; exact h, by rw [e]; exact x⟩
theorem ExcAt.raises {X : Cx} {C : Addr} (x : ExcAt X.K C) : Raises X (.ref C) := raises_own x.c.hs x.t
theorem ExcAt.catches {K : PySem.W.Frag} {C : Addr} (x : ExcAt K C) {cls : Value} {b : Bool} (h : PySem.W.subIn K cls (.ref C) = some b) : PySem.W.exmOne K cls (.ref C) = some b := PySem.W.exm_ref x.c.hs x.c.hd x.t h
section
variable {X : Cx} {x m : Str} {j : Nat} {p p2 pos pos2 : Pos} {W : WX}
theorem ps_raiseC (hc : X.calm = true) (tk : Takes X W) (e : ExcOk X.K X.mg x) (hg : Gl X x) (hdb : (x == ("__debug__" : Str)) = false := by decide) :
    PS X (.Raise (some (.Call (.Name x p) [.Constant (.str m) j p2] [] pos)) none pos2) (fun _ σ H => W (.ref (ca X.mg x)) none σ H) :=
  ps_raise hc tk (pmk_own PySem.F.excBase_ValueError e.a.x e.m e.a.k e.a.raises hg hdb)
end
/-- isinstance of the caught error -/
def rIsX (K : PySem.W.Frag) (a : Addr) (cls : Value) (d : Option Addr) : List V → Hp → VK → Prop := fun xs H Q => ∃ D, cls = .ref D ∧ d = none ∧ ExcC K D ∧ rIsE K D a xs H Q
theorem call_isX {X : Cx} {a : Addr} {oe : Obj} {cls : Value} {d : Option Addr} {pn : List (Addr × Obj)} (hz : Zc cls d oe) (hf : ∃ vs, oe.data = .fields vs) : CallR (X.suite a ((a, oe) :: pn)) (.builtin "isinstance") (rIsX X.K a cls d) := by
  intro pins s σ H xs us Q I r h
  obtain ⟨D, rfl, rfl, c, h⟩ := h
  exact call_isE c hz hf pins s σ H xs us Q I r h
theorem isX {K : PySem.W.Frag} {a D C : Addr} {b : Bool} {H : Hp} {Q : VK} (c : ExcC K D) (h : PySem.W.kitOne K (.ref D) (.ref C) = some b) (q : Q (.bl b) H) : rIsX K a (.ref D) none [.ref a, .ref C] H Q :=
  ⟨D, rfl, rfl, c, .ref C, .ref C, b, rfl, fun _ r => r, h, q⟩
section
variable {X : Cx} {CX' : CXT} {k j : Nat} {ps : List Str} {sp : Sp} {E : L2.St → XK} {E0 : XK} {x : Str} {p pos : Pos} {e : Expr} {es : List Expr} {t : TA}
theorem pe_callSC (C : Callee X.prog X.w X.K X.mg X.base (L2.CX X.prog X.w) k x ps sp) (hr : Room j X.A) (hg : Gl X x) (hx : ∀ σ, PassesAt (L2.CX X.prog X.w) X σ (E σ)) (ha : PA X (e :: es) t) (hl : k ≤ j := by decide)
    (hdb : (x == ("__debug__" : Str)) = false := by decide) (he : starEach (e :: es) X.env = (false, eval e X.env) :: starEach es X.env := by rfl) (hpl : (backTo pos (starEach es X.env)).any (·.1) = false := by rfl) :
    PE X (.Call (.Name x p) (e :: es) [] pos) (tCallS sp E t) := by
  obtain ⟨f, fd, F, hm, hk, hb⟩ := C.ex
  exact pe_callS F (hr.mono hl) hg hm hk hb hx ha hdb he hpl
/-- what a callee lets out leaves this def too -/
theorem passX {E : XK} {E₁ : Value → Shared → Prop} (hs : X.stack = X.env :: X.outer) (hf : X.env.frame = some X.env.locals) (hex : X.ex = [])
    (hx : X.xe = fun e s' => wpAny (model X.prog X.w) X.A (leaving X.env e) (fun _ s'' => L2.CX X.prog X.w X.outer X.H_0 X.s_0 E e s'') E₁ s') : Passes (L2.CX X.prog X.w) X E :=
  fun pins σ H s e s' I c => passes_call (takes_of hs hf hex hx) (fun _ _ _ _ z => z) pins σ H s e s' I c
end
theorem callS {sp : Sp} {E : L2.St → XK} {a : TA} {σ : L2.St} {H : Hp} {Q : VK} (h : a σ H fun vs H1 => sp vs H1 Q (E σ)) : tCallS sp E a σ H Q := h
end WP
namespace WP
open PySem PySem.Spec PyProof.Rows L2
def rDivmodW : List V → Hp → VK → Prop := fun xs H Q => ∃ i j, xs = [.int i, .int j] ∧ CDivP i j ∧ ∀ p, H p = none → Q (.ref p) (upd H p (.tup [.int (i / j), .int (i % j)]))
theorem c_divmodW {X : Cx} : CallR X (.builtin "divmod") rDivmodW := call_divmodW
theorem Bt.p {i j : Int} {a : Nat} (h : Bt i a) (hj : 0 < j) (l : a ≤ 4000 := by omega) : CDivP i j := divp_ok hj (by have := intBits_le h; omega)
theorem divW {i j : Int} {H : Hp} {Q : VK} (c : CDivP i j) (q : ∀ p, H p = none → Q (.ref p) (upd H p (.tup [.int (i / j), .int (i % j)]))) : rDivmodW [.int i, .int j] H Q := ⟨i, j, rfl, c, q⟩
end WP

namespace WP
open PySem PySem.Spec PyProof.Rows L2
open SX (S S_len S_cat)
section
variable {X : Cx}
theorem pe_strL {x : Str} {j pos} (l : List Nat) (h : x = S l) : PE X (.Constant (.str x) j pos) (tC (.str (S l))) := by subst h; exact pe_str
/-- text * number -/
def rMulS : R2 := fun x y H Q => ∃ (a : Str) (i : Int), x = .str a ∧ y = .int i ∧ MulOk a i ∧ Q (.str (Txt.mul a i)) H
theorem op_mul_str : OpR X (binaryOp .Mult) rMulS := by
  intro pins s σ H x y v u Q I rx ry h
  obtain ⟨a, i, rfl, rfl, hz, q⟩ := h
  obtain ⟨t, rfl⟩ := rx
  obtain ⟨t', rfl⟩ := ry
  exact SB.mul hz fun t' k => ⟨.str _, H, I.tok _, ⟨_, rfl⟩, q⟩
def rAddS : R2 := fun x y H Q => ∃ (a b : Str), x = .str a ∧ y = .str b ∧ a.length + b.length ≤ sizeLine ∧ Q (.str (a ++ b)) H
theorem op_addS : OpR X (binaryOp .Add) rAddS := op_add_str
def rZfill : V → List V → Hp → VK → Prop := fun x xs H Q => ∃ (a : Str) (i : Int), x = .str a ∧ xs = [.int i] ∧ PadOk i = true ∧ Q (.str (Txt.zfill a i)) H
theorem m_zfill : MtR X "str.zfill" rZfill := mt_zfill
def rIntS : List V → Hp → VK → Prop := fun xs H Q => ∃ (a : Str) (n : Int), xs = [.str a] ∧ PySem.intText? a = some n ∧ a.length ≤ 640 ∧ Q (.int n) H
theorem c_intS : CallR X (.type "int") rIntS := call_int_str
end
section
variable {a b l : List Nat} {i : Int} {H : Hp} {Q : VK}
theorem catS (q : Q (.str (S (a ++ b))) H) (h : a.length + b.length ≤ sizeLine := by size_fits) : rAddS (.str (S a)) (.str (S b)) H Q := ⟨_, _, rfl, rfl, by rw [S_len, S_len]; exact h, by rw [S_cat]; exact q⟩
theorem reps1 (c : Nat) : ∀ (k : Nat) (acc : Array Nat), ((List.replicate k #[c]).foldl (· ++ ·) acc) = (acc.toList ++ List.replicate k c).toArray
  | 0, acc => by simp
  | k + 1, acc => by
    rw [List.replicate_succ, List.foldl_cons, reps1 c k]
    simp [List.replicate_succ]
theorem mul_S (c : Nat) (i : Int) : Txt.mul (S [c]) i = S (List.replicate i.toNat c) := by
  unfold Txt.mul
  split
  · rename_i h
    rw [show i.toNat = 0 by omega]; rfl
  · rename_i h
    split
    · rename_i h2
      have : i = 1 := by
        rw [Bool.or_eq_true] at h2
        rcases h2 with h2 | h2
        · exact eq_of_beq h2
        · exact absurd h2 (by rw [S_len]; exact Bool.false_ne_true)
      subst this
      rfl
    · show (⟨(List.replicate i.toNat #[c]).foldl (· ++ ·) #[]⟩ : Str) = _
      rw [reps1]; simp [S]
theorem mulOk1 (c : Nat) {i : Int} (h : i ≤ 100000) (h2 : -100000 ≤ i) : MulOk (S [c]) i := by
  refine ⟨by rw [decide_eq_false (by omega), decide_eq_false (by omega)]; rfl, fun h1 _ => ?_, fun h1 _ => ?_⟩
  · rw [S_len]
    show ¬ (((1 : Nat) : Int) > _)
    have : (1 : Int) ≤ (2 ^ 63 - 1) / i := by
      rw [Int.le_ediv_iff_mul_le (by omega)]; omega
    omega
  · rw [S_len]
    unfold Builtin.Str.tooLong
    exact decide_eq_false (by rw [sizeLine_eq]; show ¬ (1 * i.toNat > _); omega)
theorem mulS {c : Nat} (h : i ≤ 100000) (h2 : -100000 ≤ i) (q : Q (.str (S (List.replicate i.toNat c))) H) : rMulS (.str (S [c])) (.int i) H Q :=
  ⟨_, _, rfl, rfl, mulOk1 c h h2, by rw [mul_S]; exact q⟩
/-- zfill of a text without a sign -/
theorem zfill_S (h : ∀ c, l.head? = some c → c ≠ 43 ∧ c ≠ 45) (hi : 0 ≤ i) : Txt.zfill (S l) i = S (List.replicate (i.toNat - l.length) 48 ++ l) := by
  unfold Txt.zfill
  rw [S_len]
  split
  · rename_i h1
    rw [show i.toNat - l.length = 0 by omega]; rfl
  · unfold PySem.zfilled
    have e : (S l).cps[0]? = l.head? := by simp [S, List.head?_eq_getElem?]
    rw [e]
    have fin : Builtin.Str.padded (S l) (i.toNat - l.length) 0 48 = S (List.replicate (i.toNat - l.length) 48 ++ l) := by
      unfold Builtin.Str.padded
      simp [S]
    split
    · rename_i hc; exact absurd rfl (h _ hc).1
    · rename_i hc; exact absurd rfl (h _ hc).2
    · exact fin
theorem zfillS (h : ∀ c, l.head? = some c → c ≠ 43 ∧ c ≠ 45) (hi : 0 ≤ i) (h2 : i ≤ 100000) (q : Q (.str (S (List.replicate (i.toNat - l.length) 48 ++ l))) H) : rZfill (.str (S l)) [.int i] H Q :=
  ⟨_, _, rfl, rfl, by unfold PadOk fitsSsize; rw [decide_eq_false (by omega), decide_eq_false (by omega)]; unfold Builtin.Str.tooLong; rw [decide_eq_false (by rw [sizeLine_eq]; omega)]; rfl, by rw [zfill_S h hi]; exact q⟩
theorem lenS' (h : l.length ≤ sizeLine) (q : Q (.int (l.length : Int)) H) {K : PySem.W.Frag} : rLen K [V.str (S l)] H Q := ⟨_, _, rfl, ⟨by rw [S_len]; exact h, rfl⟩, by rw [S_len]; exact q⟩
theorem strN {n : Nat} (h : n.log2 < 1920) (q : Q (.str (S (TL.numL n))) H) : rStrI [V.int (n : Int)] H Q := ⟨_, rfl, by rw [Int.natAbs_natCast]; exact h, by
  have e : Str.ofString (toString ((n : Nat) : Int)) = S (TL.numL n) := SX.num_S n
  rw [e]; exact q⟩
theorem intSd (h : l.all (fun c => decide (48 ≤ c) && decide (c ≤ 57)) = true) (hne : l ≠ []) (hl : l.length ≤ 640) (q : Q (.int ((NumText.digitsVal l : Nat) : Int)) H) : rIntS [V.str (S l)] H Q :=
  ⟨_, _, rfl, SX.int_S h hne (by omega), by rw [S_len]; exact hl, q⟩
theorem slS {lo hi : Option Int} (z : Str) (h : z.length ≤ sizeLine) (q : Q (.str (Txt.slice z lo hi)) H) : rSlS (.str z) lo hi H Q := ⟨z, rfl, h, by rw [C8.cutS_slice]; exact q⟩
theorem slTo (hi : 0 ≤ i) (h : l.length ≤ sizeLine) (q : Q (.str (S (l.take i.toNat))) H) : rSlS (.str (S l)) none (some i) H Q := slS _ (by rw [S_len]; exact h) (by rw [SX.slice_to hi]; exact q)
theorem slFrom (hi : 0 ≤ i) (h : l.length ≤ sizeLine) (q : Q (.str (S (l.drop i.toNat))) H) : rSlS (.str (S l)) (some i) none H Q := slS _ (by rw [S_len]; exact h) (by rw [SX.slice_from hi]; exact q)
/-- an index from the end -/
theorem idx_neg_hi {l1 : Option Int} {n : Nat} {i : Int} (h : i < 0) (h2 : 0 ≤ i + n) : Builtin.Str.strSliceIndices l1 (some i) 1 n = Builtin.Str.strSliceIndices l1 (some (i + n)) 1 n := by
  have h1 : ¬ (i + n < 0) := by omega
  simp only [Builtin.Str.strSliceIndices, h, h1, if_false, if_true]
theorem idx_neg_lo {l1 : Option Int} {n : Nat} {i : Int} (h : i < 0) (h2 : 0 ≤ i + n) : Builtin.Str.strSliceIndices (some i) l1 1 n = Builtin.Str.strSliceIndices (some (i + n)) l1 1 n := by
  have h1 : ¬ (i + n < 0) := by omega
  simp only [Builtin.Str.strSliceIndices, h, h1, if_false, if_true]
theorem slice_toN (h : i < 0) (h2 : 0 ≤ i + (l.length : Int)) : Txt.slice (S l) none (some i) = S (l.take (i + (l.length : Int)).toNat) := by
  rw [← SX.slice_to h2]
  unfold Txt.slice
  rw [S_len, idx_neg_hi h h2]
theorem slice_fromN (h : i < 0) (h2 : 0 ≤ i + (l.length : Int)) : Txt.slice (S l) (some i) none = S (l.drop (i + (l.length : Int)).toNat) := by
  rw [← SX.slice_from h2]
  unfold Txt.slice
  rw [S_len, idx_neg_lo h h2]
theorem slToN (hi : i < 0) (h2 : 0 ≤ i + (l.length : Int)) (h : l.length ≤ sizeLine) (q : Q (.str (S (l.take (i + (l.length : Int)).toNat))) H) : rSlS (.str (S l)) none (some i) H Q := slS _ (by rw [S_len]; exact h) (by rw [slice_toN hi h2]; exact q)
theorem slFromN (hi : i < 0) (h2 : 0 ≤ i + (l.length : Int)) (h : l.length ≤ sizeLine) (q : Q (.str (S (l.drop (i + (l.length : Int)).toNat))) H) : rSlS (.str (S l)) (some i) none H Q := slS _ (by rw [S_len]; exact h) (by rw [slice_fromN hi h2]; exact q)
theorem eqTS {a b : List Nat} (h : Q (.bl (decide (a = b))) H) : rEq (.str (S a)) (.str (S b)) H Q := ⟨rfl, by
  have e : decide ((S a : Str) = S b) = decide (a = b) := by
    by_cases h : a = b
    · subst h; rw [decide_eq_true rfl, decide_eq_true rfl]
    · rw [decide_eq_false h, decide_eq_false fun z => h (SX.S_inj z)]
  rw [dec_str, e]; exact h⟩
theorem neTS {a b : List Nat} (h : Q (.bl (!decide (a = b))) H) : rNe (.str (S a)) (.str (S b)) H Q := ⟨rfl, by
  have e : decide ((S a : Str) = S b) = decide (a = b) := by
    by_cases h : a = b
    · subst h; rw [decide_eq_true rfl, decide_eq_true rfl]
    · rw [decide_eq_false h, decide_eq_false fun z => h (SX.S_inj z)]
  rw [dec_str, e]; exact h⟩
/-- range with a step -/
theorem rng3 {ta : TA} {σ : L2.St} {R : It → Hp → Prop} (h : ta σ H fun vs H1 => ∃ (i j c : Int) (n : Nat), vs = [.int i, .int j, .int c] ∧ RgC i j c n ∧ R (Itc i c n) H1) : iRng3 ta σ H R := h
end
/-! ### the figures of a number -/
/-- k figures of n -/
def padL : Nat → Nat → List Nat
  | 0, _ => []
  | k + 1, n => padL k (n / 10) ++ [48 + n % 10]
theorem padL_len : ∀ k n, (padL k n).length = k
  | 0, _ => rfl
  | k + 1, n => by unfold padL; rw [List.length_append, padL_len]; rfl
theorem numL_app : ∀ (k q r : Nat), 0 < q → r < 10 ^ k → TL.numL (q * 10 ^ k + r) = TL.numL q ++ padL k r
  | 0, q, r, _, hr => by
    have : r = 0 := by simp at hr; exact hr
    subst this
    simp [padL]
  | k + 1, q, r, hq, hr => by
    have e10 : 10 ^ (k + 1) = 10 ^ k * 10 := Nat.pow_succ ..
    have hp : 0 < 10 ^ k := Nat.pow_pos (by decide)
    have b : 10 ≤ q * 10 ^ (k + 1) + r := by
      have : 1 * 10 ^ (k + 1) ≤ q * 10 ^ (k + 1) := Nat.mul_le_mul_right _ hq
      omega
    have d : (q * 10 ^ (k + 1) + r) / 10 = q * 10 ^ k + r / 10 := by
      rw [e10, ← Nat.mul_assoc]; omega
    have m : (q * 10 ^ (k + 1) + r) % 10 = r % 10 := by
      rw [e10, ← Nat.mul_assoc]; omega
    rw [TL.numL_step b, d, m, numL_app k q (r / 10) hq (by omega)]
    rw [show padL (k + 1) r = padL k (r / 10) ++ [48 + r % 10] from rfl, List.append_assoc]
theorem padL_zero : ∀ k, padL k 0 = List.replicate k 48
  | 0 => rfl
  | k + 1 => by unfold padL; rw [show 0 / 10 = 0 from rfl, padL_zero k, List.replicate_succ']
theorem padL_num : ∀ (k n : Nat), 0 < k → n < 10 ^ k → padL k n = List.replicate (k - (TL.numL n).length) 48 ++ TL.numL n
  | k + 1, n, _, h => by
    by_cases c : n < 10
    · rw [TL.numL_lt c]
      unfold padL
      rw [show n / 10 = 0 by omega, padL_zero, show n % 10 = n by omega]
      rfl
    · have hk : 0 < k := by
        rcases k with _ | k
        · simp at h; omega
        · omega
      have e10 : 10 ^ (k + 1) = 10 ^ k * 10 := Nat.pow_succ ..
      rw [TL.numL_step (by omega)]
      unfold padL
      rw [padL_num k (n / 10) hk (by omega), List.length_append, List.append_assoc]
      congr 2
      simp
theorem numL_head {n c : Nat} (h : (TL.numL n).head? = some c) : c ≠ 43 ∧ c ≠ 45 := by
  have m : c ∈ TL.numL n := List.mem_of_head? h
  have := TL.numL_digits n c m
  omega
theorem digits_rep (n : Nat) : NumText.digitsVal (49 :: List.replicate n 48) = 10 ^ n := by
  unfold NumText.digitsVal
  rw [List.foldl_cons]
  have : ∀ (n a : Nat), (List.replicate n 48).foldl (fun acc c => acc * 10 + (c - 48)) a = a * 10 ^ n := by
    intro n
    induction n with
    | zero => intro a; simp
    | succ n ih => intro a; rw [List.replicate_succ, List.foldl_cons, ih, Nat.pow_succ]; rw [Nat.sub_self, Nat.add_zero, Nat.mul_assoc, Nat.mul_comm 10]
  rw [this]; simp
end WP
namespace WP
open PySem PySem.Spec PyProof.Rows L2
section
variable {K : PySem.W.Frag} {σ : L2.St} {H : Hp} {Q : VK} {x v : V} {p : Addr} {xs : List V}
theorem bm {T : String} {r : V → List V → Hp → VK → Prop} {to : TE} {t : TA} (h : to σ H fun x H1 => tyV K T x H1 ∧ t σ H1 fun xs H2 => r x xs H2 Q) : tBM K T r to t σ H Q := h
theorem tyS {z : Str} {A : Prop} (q : A) : tyV K "str" (.str z) H ∧ A := ⟨rfl, q⟩
theorem gsub {to ti : TE} {t : TSet} {QS : L2.St → Hp → Prop} (h : to σ H fun o H1 => ti σ H1 fun i H2 => t o i v H2 fun H3 => QS σ H3) : gSub to ti t v σ H QS := h
theorem setL {k : Int} {j : Nat} {R : Hp → Prop} (hp : H p = some (.lst xs)) (hj : ixN xs.length k = some j) (q : R (upd H p (.lst (xs.set j v)))) : rSetL (.ref p) (.int k) v H R := ⟨p, xs, k, j, rfl, rfl, hp, hj, q⟩
theorem appL (hp : H p = some (.lst xs)) (hz : xs.length < sizeLine) (q : Q .non (upd H p (.lst (xs ++ [v])))) : rAppend (.ref p) [v] H Q := ⟨p, xs, v, rfl, rfl, hp, hz, q⟩
theorem tyL {A : Prop} (hp : SqL K H p xs) (q : A) : tyV K "list" (.ref p) H ∧ A := ⟨.inl ⟨rfl, xs, hp⟩, q⟩
theorem tyT (h : SqT K H p xs) : TyX K H (.ref p) (.type "tuple") := by
  rcases h with (h | ⟨o, h⟩) | h
  · exact .base (.tup h)
  · exact .fTuple h
  · obtain ⟨o, its, n, h1, h2, h3⟩ := h
    exact .kTuple h1 h2
/-- all objects but the one at d are kept -/
def Sx (d : Addr) (H H' : Hp) : Prop := ∀ a o, a ≠ d → H a = some o → H' a = some o
theorem Sx.refl {d : Addr} {H : Hp} : Sx d H H := fun _ _ _ e => e
theorem Sx.trans {d : Addr} {H H' H2 : Hp} (h : Sx d H H') (k : Sx d H' H2) : Sx d H H2 := fun a o n e => k a o n (h a o n e)
theorem Sx.of {d : Addr} {H H' : Hp} (h : Same H H') : Sx d H H' := fun a o _ e => h a o e
theorem Sx.upd {d : Addr} {H : Hp} {o : HO} : Sx d H (upd H d o) := fun a u n e => by rw [upd_ne n]; exact e
theorem sqtX {d : Addr} {H H' : Hp} {ys : List V} (e : Sx d H H') (hd : H d = some (.lst ys)) (h : SqT K H p xs) : SqT K H' p xs := by
  rcases h with (h | ⟨o, h⟩) | h
  · exact .inl (.inl (e _ _ (fun z => by rw [z, hd] at h; cases h) h))
  · exact .inl (.inr ⟨o, e _ _ (fun z => by rw [z, hd] at h; cases h) h⟩)
  · exact .inr h
end
end WP
namespace WP
theorem log2_lt {n k : Nat} (hk : 0 < k) (h : n < 2 ^ k) : n.log2 < k := by
  by_cases z : n = 0
  · subst z; exact hk
  · exact (Nat.log2_lt z).mpr h
end WP
namespace WP
open PySem PySem.Spec PyProof.Rows L2
theorem ifSS {c : Prop} [Decidable c] {a b : List Nat} {σ : L2.St} {H : Hp} {Q : VK} (q : Q (.str (SX.S (if c then a else b))) H) : if decide c = true then tC (.str (SX.S a)) σ H Q else tC (.str (SX.S b)) σ H Q := by
  by_cases h : c
  · rw [if_pos (decide_eq_true h)]; rw [if_pos h] at q; exact q
  · rw [if_neg (by rw [decide_eq_false h]; exact Bool.false_ne_true)]; rw [if_neg h] at q; exact q
end WP
namespace WP
open PySem PySem.Spec PyProof.Rows L2
section
variable {K : PySem.W.Frag} {H H' : Hp} {a d : Addr} {xs : List V}
theorem sqlX (e : Sx d H H') (n : a ≠ d) (h : SqL K H a xs) : SqL K H' a xs := by
  rcases h with (h | ⟨o, h⟩) | h
  · exact .inl (.inl (e _ _ n h))
  · exact .inl (.inr ⟨o, e _ _ n h⟩)
  · exact .inr h
end
end WP
namespace WP
open PySem PySem.Spec PyProof.Rows L2
/-- a text that may stand in data -/
def SOk (z : Str) : Prop := (PyData.str z).canLay0 = true
theorem SOk.sh {z : Str} (h : SOk z) : SeqAt.shaped (.str z) = true := Bool.and_eq_true_iff.mpr ⟨h, rfl⟩
theorem sok_S {l : List Nat} (h : ∀ c ∈ l, c < 1114112) : SOk (SX.S l) := by
  show (SX.S l).cps.all (· < 0x110000) = true
  rw [← Array.all_toList]
  exact List.all_eq_true.mpr fun c hc => decide_eq_true (h c hc)
end WP
namespace WP
open PySem PySem.Spec PyProof.Rows L2
theorem rg9 {j : Int} (h1 : 1 ≤ j) (h2 : j ≤ 1000) : RgC 0 j 9 ((j - 1) / 9 + 1).toNat := by
  have e : Builtin.Range.rangeSize 0 j 9 = (j - 1) / 9 + 1 := by
    unfold Builtin.Range.rangeSize
    rw [if_pos (by decide), if_pos (by omega), show j - 0 - 1 = j - 1 by omega]
  refine ⟨by decide, by decide, ?_, by rw [e]; omega⟩
  unfold Builtin.Range.small
  rw [e]
  simp only [Builtin.Range.rangeFitsLong, Bool.and_eq_true, Bool.or_eq_true, decide_eq_true_eq, beq_iff_eq]
  simp
  omega
end WP

namespace WP
open PySem PySem.Spec PyProof.Rows L2
open SX (S S_len S_cat)
/-! ### tuples and dicts of the module -/
structure KTp (K : PySem.W.Frag) (mg : MG) (nm : Str) (xs : List V) : Prop where
  m : mg nm = some (.ref (ca mg nm))
  s : ∀ H, SqT K H (ca mg nm) xs
theorem KTp.mk' {K : PySem.W.Frag} {mg : MG} {nm : Str} {C : Addr} {xs : List V} (h : mg nm = some (.ref C)) (x : ∀ H, SqT K H C xs) : KTp K mg nm xs := by
  have e := ca_of h
  exact ⟨by rw [e]; exact h, by rw [e]; exact x⟩
structure KDc (K : PySem.W.Frag) (w : World) (mg : MG) (nm : Str) (l : List (Str × V)) : Prop where
  m : mg nm = some (.ref (ca mg nm))
  s : ∀ p ∈ l, KDct K w (ca mg nm) p.1 p.2
theorem KDc.mk' {K : PySem.W.Frag} {w : World} {mg : MG} {nm : Str} {C : Addr} {l : List (Str × V)} (h : mg nm = some (.ref C)) (x : ∀ p ∈ l, KDct K w C p.1 p.2) : KDc K w mg nm l := by
  have e := ca_of h
  exact ⟨by rw [e]; exact h, by rw [e]; exact x⟩
theorem kdc_cons {K : PySem.W.Frag} {w : World} {C : Addr} {k : Str} {v : V} {l : List (Str × V)} (h : KDct K w C k v) (t : ∀ p ∈ l, KDct K w C p.1 p.2) : ∀ p ∈ (k, v) :: l, KDct K w C p.1 p.2 := fun p hp => by
  rcases List.mem_cons.mp hp with e | e
  · subst e; exact h
  · exact t p e
section
variable {X : Cx}
theorem pe_ktup {x : Str} {xs : List V} {pos : Pos} (hg : Gl X x) (h : KTp X.K X.mg x xs) (hd : (x == ("__debug__" : Str)) = false := by decide) : PE X (.Name x pos) (tC (.ref (ca X.mg x))) := pe_glob hg h.m rfl hd
def rUpper : V → List V → Hp → VK → Prop := fun x xs H Q => ∃ a, x = .str a ∧ xs = [] ∧ a.length ≤ 5592405 ∧ Q (.str (Txt.upper a)) H
theorem m_upper : MtR X "str.upper" rUpper := mt_upper
theorem pe_dgetD {o e f : Expr} {td ty tx : TE} {apos cpos : Pos} (hu : X.A.units + 1 < cLine) (ho : PE X o td) (he : PE X e ty) (hf : PE X f tx) (m : M2 X o "get" apos e f cpos) : PE X (.Call (.Attribute o "get" apos) [e, f] [] cpos) (tDGet2 td ty tx) :=
  pe_dget2 hu ho he hf m
end
section
variable {K : PySem.W.Frag} {w : World} {σ : L2.St} {H : Hp} {Q : VK} {l : List Nat} {i : Int} {c : Nat}
theorem ixS1 (a : atI l i = some c) (hz : l.length ≤ sizeLine) (q : Q (.str (S [c])) H) : rIxS (.str (S l)) (.int i) H Q := ⟨S l, i, c, rfl, rfl, by rw [S_len]; exact hz, a, q⟩
theorem wstr {te : TE} {R : It → Hp → Prop} (h : te σ H fun v H1 => ∃ x, v = .str x ∧ R (Its x) H1) : iStr te σ H R := h
theorem upS (h : l.all (· < 128) = true) (hl : l.length ≤ 1000) (q : Q (.str (S (l.map up1))) H) : rUpper (.str (S l)) [] H Q := ⟨_, rfl, rfl, by rw [S_len]; omega, by rw [SX.upper_S h]; exact q⟩
theorem inV_S {s : List Nat} : ∀ {ls : List (List Nat)}, inV (.str (S s)) (ls.map fun a => V.str (S a)) = decide (s ∈ ls)
  | [] => rfl
  | a :: ls => by
    show (eqV (.str (S a)) (.str (S s)) || inV (.str (S s)) (ls.map fun a => V.str (S a))) = _
    rw [inV_S]
    show ((S a == S s) || _) = _
    rw [SX.S_beq_eq]
    by_cases h : a = s
    · subst h; simp
    · rw [decide_eq_false h, Bool.false_or]
      congr 1
      exact propext ⟨fun z => List.mem_cons_of_mem _ z, fun z => by
        rcases List.mem_cons.mp z with z | z
        · exact absurd z.symm h
        · exact z⟩
theorem flat_S : ∀ (ls : List (List Nat)), (ls.map fun a => V.str (S a)).all flatV = true
  | [] => rfl
  | a :: ls => flat_S ls
/-- a text in a tuple, a list of texts -/
theorem inT (ls : List (List Nat)) {p : Addr} {xs : List V} {s : List Nat} (h : SqT K H p xs) (e : xs = ls.map fun a => V.str (S a)) (q : Q (.bl (decide (s ∈ ls))) H) : rIn K false (.str (S s)) (.ref p) H Q := by
  subst e
  exact ⟨p, _, rfl, .inr h, rfl, flat_S ls, by rw [inV_S]; exact q⟩
theorem inL (ls : List (List Nat)) {p : Addr} {xs : List V} {s : List Nat} (h : SqL K H p xs) (e : xs = ls.map fun a => V.str (S a)) (q : Q (.bl (decide (s ∈ ls))) H) : rIn K false (.str (S s)) (.ref p) H Q := by
  subst e
  exact ⟨p, _, rfl, .inl h, rfl, flat_S ls, by rw [inV_S]; exact q⟩
/-- a sign in a text -/
def rInSign : R2 := fun x y H Q => ∃ (c : Nat) (z : Str), x = .str ⟨#[c]⟩ ∧ y = .str z ∧ Q (.bl (decide (c ∈ z.cps.toList))) H
theorem op_inSign {X : Cx} : OpR X (compareOp .In) rInSign := op_in_sign
theorem inSign (q : Q (.bl (decide (c ∈ l))) H) : rInSign (.str (S [c])) (.str (S l)) H Q := ⟨c, S l, rfl, rfl, q⟩
theorem ixK {nm : Str} {mg : MG} {ls : List (Str × V)} {s : Str} {v : V} (h : KDc K w mg nm ls) (m : (s, v) ∈ ls) (q : Q v H) : rIxD K w (.ref (ca mg nm)) (.str s) H Q := ⟨_, _, _, rfl, rfl, h.s _ m, q⟩
/-- displays of one and two pairs -/
theorem disp1 {a : Str} {v : V} (q : ∀ p, H p = none → Q (.ref p) (upd (upd H p (.dK [])) p (.dK [(.inr a, v)]))) : tDisp [(tC (.str a), tC v)] σ H Q := fun p hp =>
  ⟨upd_same, [(.inr a, v)], rfl, show 1 ≤ 15 by decide, q p hp⟩
theorem disp2 {a b : Str} {v u : V} (ne : ¬ a = b) (q : ∀ p, H p = none → Q (.ref p) (upd (upd H p (.dK [])) p (.dK [(.inr a, v), (.inr b, u)]))) : tDisp [(tC (.str a), tC v), (tC (.str b), tC u)] σ H Q := fun p hp =>
  ⟨upd_same, [(.inr a, v), (.inr b, u)], rfl, show 2 ≤ 15 by decide, by
    have e : mergeK [] [((Sum.inr a : Key), v), ((Sum.inr b : Key), u)] = [((Sum.inr a : Key), v), ((Sum.inr b : Key), u)] := by
      show putK (putK ([] : List (Key × V)) (Sum.inr a) v) (Sum.inr b) u = _
      have e1 : putK ([] : List (Key × V)) (Sum.inr a) v = [((Sum.inr a : Key), v)] := rfl
      rw [e1]
      unfold putK
      rw [if_neg (by simp [ne])]
      rfl
    rw [e]; exact q p hp⟩
theorem same_disp {p : Addr} {o u : HO} (hp : H p = none) : Same H (upd (upd H p o) p u) := fun b x e => by
  rw [upd_ne (ne_of_none e hp), upd_ne (ne_of_none e hp)]; exact e
end
end WP
namespace WP
open PySem PySem.Spec PyProof.Rows L2
theorem bm0 {K : PySem.W.Frag} {σ : L2.St} {H : Hp} {Q : VK} {T : String} {r : V → List V → Hp → VK → Prop} {to : TE} (h : to σ H fun x H1 => tyV K T x H1 ∧ r x [] H1 Q) : tBM0 K T r to σ H Q := h
/-- a for over the signs of a text -/
theorem for_txt {l : List Nat} {g : TG} {tb : TS} {D : Ends} {σ : L2.St} {H : Hp} (Pv : Nat → L2.St → Hp → Prop) (h0 : Pv 0 σ H)
    (hs : ∀ i c σ H, l[i]? = some c → Pv i σ H → g (.str (SX.S [c])) σ H fun σ2 H2 => tb { D with nx := Pv (i + 1), ct := Pv (i + 1), bk := D.nx } σ2 H2) (hd : ∀ σ H, Pv l.length σ H → D.nx σ H) :
    ∃ W : Nat → Nat → L2.St → Hp → Prop, (∃ m, W 0 m σ H) ∧ ∀ i m σ H, W i m σ H →
      ((Its (SX.S l)).stop i H ∧ D.nx σ H) ∨ ((Its (SX.S l)).go i H ∧ ∃ N : L2.St → Hp → Prop, (∀ σ' H', N σ' H' → ∃ m', m' < m ∧ W (i + 1) m' σ' H') ∧ ∀ x H', (Its (SX.S l)).yld i H x H' → g x σ H' fun σ2 H2 => tb { D with nx := N, ct := N, bk := D.nx } σ2 H2) := by
  have e : (SX.S l).cps.size = l.length := by simp [SX.S]
  refine for_it walk_str Pv h0 (fun _ _ _ _ _ => True.intro) (fun i x σ H H' hi p y => ?_) fun σ H p => hd σ H (by rw [← e]; exact p)
  obtain ⟨rfl, c, hc, rfl⟩ := y
  refine hs i c σ H' ?_ p
  simpa [SX.S] using hc
end WP
namespace WP
open PySem PySem.Spec PyProof.Rows L2
theorem pe_kdict {X : Cx} {x : Str} {xs : List (Str × V)} {pos : Pos} (hg : Gl X x) (h : KDc X.K X.w X.mg x xs) (hd : (x == ("__debug__" : Str)) = false := by decide) : PE X (.Name x pos) (tC (.ref (ca X.mg x))) := pe_glob hg h.m rfl hd
end WP
namespace WP
open PySem PySem.Spec PyProof.Rows L2
theorem lc {wi : TI} {g : TG} {tt : TT} {te : TE} {vs : List Nat} {σ : L2.St} {H : Hp} {Q : VK} (h : wi σ H fun J H1 => ∀ D, H1 D = none → ∃ W : Nat → Nat → Hp → Prop, (∃ m, W 0 m (upd H1 D (.lst []))) ∧ ∀ i m H, W i m H →
    (J.stop i H ∧ Q (.ref D) H) ∨ (J.go i H ∧ ∃ Nx : Hp → Prop, (∀ H', Nx H' → ∃ m', m' < m ∧ W (i + 1) m' H') ∧ ∀ x H', J.yld i H x H' → g x (wipe σ vs) H' fun σ2 H2 => wipe σ2 vs = wipe σ vs ∧ tt σ2 H2 fun b H3 =>
      if b = true then te σ2 H3 fun y H4 => ∃ acc, H4 D = some (.lst acc) ∧ acc.length < sizeLine ∧ Nx (upd H4 D (.lst (acc ++ [y]))) else Nx H3)) : tLc wi g tt te vs σ H Q := h
theorem lc_txt {l : List Nat} {g : TG} {tt : TT} {te : TE} {vs : List Nat} {σ : L2.St} {H1 : Hp} {D : Addr} {Qd : Hp → Prop} (Pv : Nat → Hp → Prop) (h0 : Pv 0 (upd H1 D (.lst [])))
    (hs : ∀ i c H, l[i]? = some c → Pv i H → g (.str (SX.S [c])) (wipe σ vs) H fun σ2 H2 => wipe σ2 vs = wipe σ vs ∧ tt σ2 H2 fun b H3 =>
      if b = true then te σ2 H3 fun y H4 => ∃ acc, H4 D = some (.lst acc) ∧ acc.length < sizeLine ∧ Pv (i + 1) (upd H4 D (.lst (acc ++ [y]))) else Pv (i + 1) H3) (hd : ∀ H, Pv l.length H → Qd H) :
    ∃ W : Nat → Nat → Hp → Prop, (∃ m, W 0 m (upd H1 D (.lst []))) ∧ ∀ i m H, W i m H →
      ((Its (SX.S l)).stop i H ∧ Qd H) ∨ ((Its (SX.S l)).go i H ∧ ∃ Nx : Hp → Prop, (∀ H', Nx H' → ∃ m', m' < m ∧ W (i + 1) m' H') ∧ ∀ x H', (Its (SX.S l)).yld i H x H' → g x (wipe σ vs) H' fun σ2 H2 => wipe σ2 vs = wipe σ vs ∧ tt σ2 H2 fun b H3 =>
        if b = true then te σ2 H3 fun y H4 => ∃ acc, H4 D = some (.lst acc) ∧ acc.length < sizeLine ∧ Nx (upd H4 D (.lst (acc ++ [y]))) else Nx H3) := by
  have e : (SX.S l).cps.size = l.length := by simp [SX.S]
  refine lc_it walk_str Pv h0 (fun _ _ _ _ => True.intro) (fun i x H H' hi p y => ?_) fun H p => hd H (by rw [← e]; exact p)
  obtain ⟨rfl, c, hc, rfl⟩ := y
  refine hs i c H' ?_ p
  simpa [SX.S] using hc
theorem at_S {ls : List (List Nat)} {i : Int} (h0 : 0 ≤ i) (h1 : i < (ls.length : Int)) : ∃ a ∈ ls, atI (ls.map fun a => V.str (SX.S a)) i = some (.str (SX.S a)) := by
  obtain ⟨j, rfl⟩ : ∃ j : Nat, i = (j : Int) := ⟨i.toNat, by omega⟩
  have hj : j < ls.length := by omega
  exact ⟨ls[j], List.getElem_mem hj, atI_nat (by rw [List.getElem?_map, List.getElem?_eq_getElem hj]; rfl)⟩
end WP
namespace WP
open PySem PySem.Spec PyProof.Rows L2
theorem dget2 {td ty tx : TE} {σ : L2.St} {H : Hp} {Q : VK} (h : td σ H fun x H1 => ∃ a, x = .ref a ∧ IsD H1 a ∧ ty σ H1 fun y H2 => tx σ H2 fun z H3 => ∃ o, DGet H3 a y o ∧ Q (o.getD z) H3) : tDGet2 td ty tx σ H Q := h
theorem dget {td ty : TE} {σ : L2.St} {H : Hp} {Q : VK} (h : td σ H fun x H1 => ty σ H1 fun y H2 => ∃ a v, x = .ref a ∧ DGet H2 a y (some v) ∧ Q v H2) : tDGet td ty σ H Q := h
theorem at_I {ls : List Int} {i : Int} (h0 : 0 ≤ i) (h1 : i < (ls.length : Int)) : ∃ a, atI (ls.map V.int) i = some (.int a) := ⟨_, at_ints h0 h1⟩
theorem valV1 {a c : List Nat} {v : V} : valV [((Sum.inr (SX.S a) : Key), v)] (Sum.inr (SX.S c)) = if a = c then some v else none := by
  by_cases h : a = c
  · subst h; rw [if_pos rfl]; exact valV_pos rfl
  · rw [if_neg h]; exact (valV_neg fun e => h (SX.S_inj (Sum.inr.inj e))).trans valV_nil
theorem valV2 {a b c : List Nat} {v u : V} : valV [((Sum.inr (SX.S a) : Key), v), ((Sum.inr (SX.S b) : Key), u)] (Sum.inr (SX.S c)) = if a = c then some v else if b = c then some u else none := by
  by_cases h : a = c
  · subst h; rw [if_pos rfl]; exact valV_pos rfl
  · rw [if_neg h]; exact (valV_neg fun e => h (SX.S_inj (Sum.inr.inj e))).trans valV1
end WP
namespace WP
open PySem PySem.Spec PyProof.Rows L2
theorem andOr {σ : L2.St} {H : Hp} {Q : VK} {ta tb tc : TE} {x y z : Bool} (ha : ∀ Q : VK, Q (.bl x) H → ta σ H Q) (hb : ∀ Q : VK, Q (.bl y) H → tb σ H Q) (hc : ∀ Q : VK, Q (.bl z) H → tc σ H Q)
    (q : Q (.bl (x && (y || z))) H) : tAndV ta (tOrV tb tc) σ H Q := by
  refine WP.andV (ha _ ⟨x, rfl, ?_⟩)
  cases x with
  | false => exact q
  | true =>
    refine WP.brT rfl (WP.orV (hb _ ⟨y, rfl, ?_⟩))
    cases y with
    | true => exact q
    | false => exact WP.brF rfl (hc _ q)
end WP
namespace WP
open PySem PySem.Spec PyProof.Rows L2
def rNotInSign : R2 := fun x y H Q => ∃ (c : Nat) (z : Str), x = .str ⟨#[c]⟩ ∧ y = .str z ∧ Q (.bl (!decide (c ∈ z.cps.toList))) H
theorem op_notInSign {X : Cx} : OpR X (compareOp .NotIn) rNotInSign := op_notIn_sign
theorem notInSign {c : Nat} {l : List Nat} {H : Hp} {Q : VK} (q : Q (.bl (!decide (c ∈ l))) H) : rNotInSign (.str (SX.S [c])) (.str (SX.S l)) H Q := ⟨c, SX.S l, rfl, rfl, q⟩
end WP
namespace WP
open PySem PySem.Spec PyProof.Rows L2
theorem chain {r r' : R2} {ta tb tc : TE} {σ : L2.St} {H : Hp} {Q : VK} (h : ta σ H fun x H1 => tb σ H1 fun y H2 => r x y H2 fun z H3 => ∃ k, z = .bl k ∧ (if k = true then tc σ H3 fun w' H4 => r' y w' H4 Q else Q (.bl false) H3)) : tChain r r' ta tb tc σ H Q := h
theorem notInL {K : PySem.W.Frag} {H : Hp} {Q : VK} (ls : List (List Nat)) {p : Addr} {xs : List V} {s : List Nat} (h : SqL K H p xs) (e : xs = ls.map fun a => V.str (SX.S a)) (q : Q (.bl (!decide (s ∈ ls))) H) : rIn K true (.str (SX.S s)) (.ref p) H Q := by
  subst e
  exact ⟨p, _, rfl, .inl h, rfl, flat_S ls, by rw [inV_S]; exact q⟩
end WP
namespace WP
open PySem PySem.Spec PyProof.Rows L2
theorem yes {σ : L2.St} {H : Hp} {t : Hp → Prop} {u : Hp → Prop} (h : t H) : tYes σ H (fun b H3 => if b = true then t H3 else u H3) := by
  show (if true = true then t H else u H)
  rw [if_pos rfl]; exact h
end WP

namespace WP
open PySem PySem.Spec PyProof.Rows L2 GxR
section
variable {X : Cx} {pins : List (Addr × Obj)} {σ : L2.St} {H : Hp} {s : Shared}
/-- the generator expression's scope in the def's scope sc -/
structure GenSc (sc scope : Scope) (x : Str) : Prop where
  kind : scope.kind = .function
  co : scope.isCoroutine = false
  cell : ∀ y ∈ scope.names, y.2 ≠ .cell
  dot : scope.names.lookup (".0" : Str) = some NameKind.local
  loc : scope.names.lookup x = some .local
  free : ∀ y ∈ scope.names, y.2 = .free → sc.names.lookup y.1 = some .cell ∨ sc.names.lookup y.1 = some .free
def gscB (sc scope : Scope) (x : Str) : Bool :=
  decide (scope.kind = .function) && !scope.isCoroutine && scope.names.all (fun y => !decide (y.2 = .cell)) && decide (scope.names.lookup (".0" : Str) = some NameKind.local) && decide (scope.names.lookup x = some .local) &&
    scope.names.all (fun y => !decide (y.2 = .free) || decide (sc.names.lookup y.1 = some .cell ∨ sc.names.lookup y.1 = some .free))
theorem gsc_by {sc scope : Scope} {x : Str} (h : gscB sc scope x = true) : GenSc sc scope x := by
  unfold gscB at h
  simp only [Bool.and_eq_true, Bool.not_eq_true', decide_eq_true_eq, List.all_eq_true, Bool.or_eq_true, decide_eq_false_iff_not] at h
  obtain ⟨⟨⟨⟨⟨h1, h2⟩, h3⟩, h4⟩, h5⟩, h6⟩ := h
  exact ⟨h1, h2, h3, h4, h5, fun y hy e => (h6 y hy).elim (fun z => absurd e z) id⟩
/-- what the walked thing xv gives in the state s1: n items, the i-th one as Pf tells -/
def ItOk (X : Cx) (P : Addr) (s1 : Shared) (xv : Value) (n : Nat) (Pf : Nat → Value → Prop) : Prop :=
  ∃ fpx : List Addr, (∀ b ∈ fpx, b < s1.heap.objs.size ∧ b ≠ P) ∧ ∀ (Q : Value → Shared → Prop),
    (∀ (o : Obj) (St : Nat → Heap → Prop), (∀ A' : Around, A'.handled = none → Walks X.prog X.w A' s1.heap.objs.size (s1.heap.objs.size :: fpx) [s1.heap.objs.size] n Pf St) → St 0 (s1.heap.push o) →
      Q (.ref s1.heap.objs.size) { s1 with heap := s1.heap.push o }) → wpAny (model X.prog X.w) X.A (pyIter xv) Q X.xe s1
theorem itOk_str {P : Addr} {s1 : Shared} {a : Str} {t : Tok} : ItOk X P s1 (.str a t) a.cps.size (SignAt a) :=
  ⟨[], (fun b hb => by cases hb), fun Q h => wpAny_pyIter_str fun o St W hst => h o St W hst⟩
theorem itOk_list {P : Addr} {s1 : Shared} {q : Addr} {its : Array Value} (hl : s1.heap.IsList q its) (hP : q ≠ P) : ItOk X P s1 (.ref q) its.size (fun i v => its[i]? = some v) := by
  obtain ⟨ol, hol, _⟩ := _root_.id hl
  have hlt := Heap.lt_size hol
  refine ⟨[q], fun b hb => ?_, fun Q h => wpAny_pyIter_list hl (h _ _ (fun A' hA => Walks.list hA _ q (Nat.ne_of_lt hlt) its) ⟨⟨_, Heap.get?_push_size _ rfl, rfl, rfl⟩, hl.push _⟩)⟩
  rcases List.mem_cons.mp hb with z | z
  · rw [z]; exact ⟨hlt, hP⟩
  · cases z
/-- the element in the generator's own frame -/
def EltG (X : Cx) (P : Addr) (scope : Scope) (x : Str) (elt : Expr) (s1 : Shared) (Pf : Nat → Value → Prop) (pb : Nat → Bool) : Prop :=
  ∀ (cenv : Env) (A' : Around) (E' : Value → Shared → Prop) (i : Nat) (v : Value) (s₂ : Shared) (m₂ : Str → Option Value), cenv.scope = scope → cenv.globals = X.env.globals → cenv.cells = cloFrom X.env.cells scope.names [] → A'.handled = none → Pf i v →
    s₂.heap.Ns cenv.locals m₂ → m₂ x = some v → (∀ b u, b ≠ P → s1.heap.get? b = some u → s₂.heap.get? b = some u) →
    wpAny (model X.prog X.w) A' (eval elt cenv) (fun y s₃ => y = .bool (pb i) ∧ Keeps s₂ s₃) E' s₂
def ReadyN (X : Cx) (pins : List (Addr × Obj)) (σ : L2.St) (H1 : Hp) (P : Addr) (n : Nat) (pb : Nat → Bool) (g : Addr) (s5 : Shared) : Prop :=
  ∃ (fp wr : List Addr) (G : Array GenState → Array GenState → Prop) (F : Nat → Value → Prop) (St : Nat → Shared → Prop),
    WalksS X.prog X.w X.A.in1 g fp wr G n F St ∧ St 0 s5 ∧ TruthOf X.prog X.w X.A.in1 F pb ∧ ∀ s', Moved wr G s5 s' → ∃ H2, Tabbed P H1 H2 ∧ Inv X pins σ H2 s'
theorem gen_go {c P : Addr} {elt iter : Expr} {x : Str} {px gpos : Pos} {scope : Scope} {te : TE} {k : Nat} {Q' : Value → Shared → Prop} {R : V → Hp → Prop}
    (hr : Room k X.A) (TB : TabB X.base X.mg c P) (hcode : X.env.code = .ref c) (S : GenSc X.env.scope scope x) (hi : PE X iter te)
    (hs : ∀ v, genFold iter X.env v = pure v) (I : Inv X pins σ H s) (h : te σ H fun v H1 => TabG H1 P ∧ R v H1)
    (hw : ∀ v xv H1 s1, TabG H1 P → R v H1 → RelV v xv → Inv X pins σ H1 s1 → ∃ n Pf pb, ItOk X P s1 xv n Pf ∧ EltG X P scope x elt s1 Pf pb ∧ ∀ g s5, ReadyN X pins σ H1 P n pb g s5 → Q' (.ref g) s5) :
    wpAny (model X.prog X.w) X.A (eval (.GeneratorExp elt [⟨.Name x px, iter, [], 0⟩] scope gpos) X.env) Q' X.xe s := by
  refine wpAny_GeneratorExp_walksQ hr.hd S.co (closure_ok fun y hy e => I.ok.has y.1 (S.free y hy e)) S.cell S.dot S.loc S.kind (by have := hr.dp; omega) ?_ hs
  refine thn (hi.run pins s σ H _ I h) fun xv s1 ⟨v, H1, I1, r1, ⟨ps, hP, ht⟩, q1⟩ => ?_
  obtain ⟨n, Pf, pb, ⟨fpx, hfpx, hIt⟩, hel, hQ⟩ := hw v xv H1 s1 ⟨ps, hP, ht⟩ q1 r1 I1
  refine hIt _ fun o St W hst => ?_
  have hPs : s1.heap.get? P = some { cls := .none, data := .fields ps } := I1.hok P _ hP
  have hPlt : P < s1.heap.objs.size := Heap.lt_size hPs
  have hP2 : (s1.heap.push o).get? P = some { cls := .none, data := .fields ps } := Heap.get?_push_of_some _ hPs
  have cd : PySem.W.CodeHd (s1.heap.push o) c P := TB.code.keeps fun b u e => Heap.get?_push_of_some _ (I1.bk b u e)
  have lim2 : (s1.heap.push o).NoLimit := I1.nolimit.push o
  have cont : ∀ (code : Value) (h3 : Heap) (tk : Nat) (ps' : Array Value), Heap.ExtBut P (s1.heap.push o) h3 → (s1.heap.push o).objs.size ≤ h3.objs.size → h3.get? P = some { cls := .none, data := .fields ps' } → (∃ more, ps' = ps ++ more) → TriplesOk ps'.toList →
      wpAny (model X.prog X.w) X.A (builtinsFor X.env.globals X.env.builtins) (fun bi s₄ =>
        ∃ Ia fp wr n₀ Pf St₀ pz F, Value.ref s1.heap.objs.size = .ref Ia ∧ (∀ A' : Around, A'.handled = none → Walks X.prog X.w A' Ia fp wr n₀ Pf St₀) ∧ St₀ 0 s₄.heap ∧ (∀ b ∈ fp, b < s₄.heap.objs.size) ∧ s₄.heap.NoLimit ∧ cStatics ∉ wr ∧
          (∀ href : Heap, (∀ b o, s₄.heap.get? b = some o → href.get? b = some o) →
            QuietGen X.prog X.w (genEnv scope (cloFrom X.env.cells scope.names []) s₄.heap.objs.size code bi X.env) x [] elt (List.range s₄.heap.objs.size) wr Pf pz F href) ∧
          (∀ a h₅ tk gs, gs.bare = true → s₄.heap.objs.size < a → h₅.objs.size = a + 1 → (∀ b o, s₄.heap.get? b = some o → h₅.get? b = some o) →
            WalksS X.prog X.w X.A.in4 a (a :: s₄.heap.objs.size :: List.range s₄.heap.objs.size) (s₄.heap.objs.size :: wr) (GenOnlyQ s₄.gens.size) (passing pz n₀ 0).length
              (fun j y => ∃ i, (passing pz n₀ 0)[j]? = some i ∧ F i y) (GenAt X.prog X.w X.A.in4 a s₄.gens.size s₄.heap.objs.size (List.range s₄.heap.objs.size) wr pz n₀ F) →
            GenAt X.prog X.w X.A.in4 a s₄.gens.size s₄.heap.objs.size (List.range s₄.heap.objs.size) wr pz n₀ F 0 { s₄ with gens := s₄.gens.push gs, toks := tk, heap := h₅ } →
            Q' (.ref a) { s₄ with gens := s₄.gens.push gs, toks := tk, heap := h₅ })) X.xe { s1 with heap := h3, toks := tk } := by
    intro code h3 tk ps' hx hsz hP3 hmore ht3
    obtain ⟨bm, ob, e1, e2, e3, e4, e5, e6, e7, e8⟩ := TB.bm
    have hcP : cStatics ≠ P := fun e => by
      obtain ⟨_, hns, _⟩ := I1.nolimit
      obtain ⟨o', es, ep, ho, hd, _⟩ := hns
      rw [e, hPs] at ho
      cases ho
      cases hd
    have hcl : cStatics < s1.heap.objs.size := let ⟨_, hns, _⟩ := I1.nolimit; hns.lt
    have sz2 : (s1.heap.push o).objs.size = s1.heap.objs.size + 1 := Heap.size_push ..
    have le3 : s1.heap.objs.size ≤ h3.objs.size := Nat.le_trans (Nat.le_succ _) (by have e := sz2; rw [e] at hsz; exact hsz)
    have keep3 : ∀ b u, b ≠ P → s1.heap.get? b = some u → h3.get? b = some u := fun b u hb e => hx b u hb (Heap.get?_push_of_some _ e)
    refine wpAny_builtinsFor (m := X.mg) (by rw [I1.ok.glob]; exact ((I1.mod.glob.keeps I1.bk).push o).extBut hx TB.gP) e1 e2 (keep3 _ _ e4 (I1.bk _ _ e5)) e6 e7 e8 ?_
    refine ⟨s1.heap.objs.size, s1.heap.objs.size :: fpx, [s1.heap.objs.size], n, Pf, St, (fun _ => true), (fun i y => y = .bool (pb i)), rfl, W, ?_, ?_, lim2.extBut hx hcP, ?_, ?_, ?_⟩
    · refine (W X.A hr.hd).frame _ _ _ hst fun b hb u e => hx b u (fun z => ?_) e
      rcases List.mem_cons.mp hb with z2 | z2
      · exact Nat.ne_of_lt hPlt (z.symm.trans z2)
      · exact (hfpx b z2).2 z
    · intro b hb
      rcases List.mem_cons.mp hb with z | z
      · rw [z]
        show s1.heap.objs.size < h3.objs.size
        omega
      · exact Nat.lt_of_lt_of_le (hfpx b z).1 le3
    · intro z
      rcases List.mem_cons.mp z with z | z
      · exact Nat.ne_of_lt hcl z
      · cases z
    · intro href hhref
      refine ⟨fun A' E' i v s₂ m₂ hA hPv hn hm hk => ?_, fun A' E' i v s₂ m₂ hA hPv hp hn hm hk => ?_⟩
      · simp only [List.forIn_nil]
        exact wpAny_pure ⟨rfl, keeps_refl _⟩
      · refine hel _ A' E' i v s₂ m₂ rfl rfl rfl hA hPv hn hm fun b u hb e => ?_
        have hlt := Heap.lt_size e
        refine hk b (List.mem_range.mpr ?_) (fun z => ?_) u (hhref b u (keep3 b u hb e))
        · exact Nat.lt_of_lt_of_le hlt le3
        · rcases List.mem_cons.mp z with z | z
          · exact Nat.ne_of_lt hlt z
          · cases z
    · intro g h5 tk5 gs hgb hag hsz5 hk5 W5 hat
      simp only [GxR.passing_true, List.length_range] at W5
      refine hQ g _ ⟨_, _, _, _, _, W5.in4_1, hat, ?_, fun s' hm => ?_⟩
      · intro j y sj Qj Ej hy hQj
        obtain ⟨i, hij, rfl⟩ := hy
        obtain ⟨hj, ej⟩ := List.getElem?_eq_some_iff.mp hij
        rw [List.getElem_range] at ej
        subst ej
        exact wpAny_truthy_bool hQj
      · obtain ⟨more, em⟩ := hmore
        have nwr : ∀ b u, s1.heap.get? b = some u → b ∉ h3.objs.size :: [s1.heap.objs.size] := fun b u e hb => by
          have hl := Heap.lt_size e
          rcases List.mem_cons.mp hb with z | z
          · rw [z] at hl
            have h9 : (h3.objs.size : Nat) < s1.heap.objs.size := hl
            omega
          · rcases List.mem_cons.mp z with z | z
            · rw [z] at hl
              exact Nat.lt_irrefl _ hl
            · cases z
        have J := inv_tab (more := more) (h' := s'.heap) (g' := s'.gens) (d' := s'.drawn) (t' := s'.toks) I1 hP (fun b u hb e => hm.heap b u (nwr b u e) (hk5 b u (keep3 b u hb e)))
          (by rw [← em]; exact hm.heap P _ (nwr P _ hPs) (hk5 P _ hP3)) (AllBare.movedS (I1.bare.push hgb) hm)
        rw [sh_eta s1 s' hm.os] at J
        refine ⟨upd H1 P (.tbl (ps ++ more)), ⟨⟨ps ++ more, upd_same, by rw [← em]; exact ht3⟩, fun b hb => upd_ne hb⟩, J⟩
  refine ⟨lim2, ?_⟩
  cases hf : codeAmong gpos ps.toList with
  | none =>
    refine wpAny_genexprCodeX hcode (cd.code hP2 ht) (cd.tab hP2) hf fun c' h' tk hx hge hlt hco' _ htab' _ => ?_
    obtain ⟨o1, vs, f1, tf, fl, tg, inF, tx, tt, op, _, _, _, _, _, _, _, _, _, htr, _⟩ := hco'
    exact cont _ h' tk _ hx (Nat.le_trans hge (Nat.le_of_lt hlt)) htab'.2 ⟨_, rfl⟩ htr
  | some cv =>
    refine wpAny_genexprCode_hit hcode (cd.code hP2 ht) hf ?_
    exact cont cv (s1.heap.push o) s1.toks ps (Heap.ExtBut.refl _ _) (Nat.le_refl _) hP2 ⟨#[], by simp⟩ ht
/-- cells of the def, seen from the generator -/
theorem clo_look {cells : List (Str × Addr)} {names : List (Str × NameKind)} {y : Str} {c : Addr} (hf : (y, NameKind.free) ∈ names) (hc : cells.lookup y = some c) : (cloFrom cells names []).lookup y = some c := by
  have h := cloFrom_has (cells := cells) (acc := []) hf
  obtain ⟨c', hc'⟩ := L2.mem_lookup h
  rw [hc']
  rcases cloFrom_mem (PySem.mem_of_lookup hc') with z | ⟨_, z⟩
  · cases z
  · rw [z, hc]; rfl
def trI (pb : Int → Bool) (l : List Int) (j : Nat) : Bool := match l[j]? with
  | some b => pb b
  | none => false
theorem trI_some {pb : Int → Bool} {l : List Int} {j : Nat} {b : Int} (h : l[j]? = some b) : trI pb l j = pb b := by
  unfold trI
  rw [h]
theorem all_trI (l : List Int) (pb : Int → Bool) : (List.range l.length).all (trI pb l) = l.all pb := by
  rw [Bool.eq_iff_iff, List.all_eq_true, List.all_eq_true]
  constructor
  · intro h b hb
    obtain ⟨j, hj, e⟩ := List.getElem_of_mem hb
    have q := h j (List.mem_range.mpr hj)
    rw [trI_some (List.getElem?_eq_getElem hj), e] at q
    exact q
  · intro h j hj
    have hj' := List.mem_range.mp hj
    rw [trI_some (List.getElem?_eq_getElem hj')]
    exact h _ (List.getElem_mem hj')
/-- x in y, y a captured text -/
theorem elt_in {P : Addr} {scope : Scope} {x y : Str} {p1 p2 p3 : Pos} {H1 : Hp} {s1 : Shared} {a z : Str} {i : Nat} (I1 : Inv X pins σ H1 s1) (hP : ∃ ps : Array Value, H1 P = some (.tbl ps))
    (hN : X.N[i]? = some y) (hv : σ[i]? = some (some (.str z))) (hk : X.env.scope.names.lookup y = some .cell) (hfr : (y, NameKind.free) ∈ scope.names) (hl : scope.names.lookup x = some .local) (hy : scope.names.lookup y = some .free) (hkd : scope.kind = .function)
    (hd : (x == ("__debug__" : Str)) = false := by decide) (hd2 : (y == ("__debug__" : Str)) = false := by decide) (hcd : (y == ("__classdict__" : Str)) = false := by decide) (hm : behindInMarks .In (.Name y p2) = false := by with_unfolding_all rfl) :
    EltG X P scope x (.Compare (.Name x p1) [.In] [.Name y p2] p3) s1 (SignAt a) (trF (fun c => decide (c ∈ z.cps.toList)) a.cps.toList) := by
  intro cenv A' E' j v s₂ m₂ e1 e2 e3 hA hPf hn hmx hkp
  obtain ⟨c, t, hc, rfl⟩ := hPf
  obtain ⟨m, hns, hloc⟩ := I1.loc
  obtain ⟨u, ru, lk⟩ := hloc i y _ hN hv (.inr (.inl hk))
  obtain ⟨t', rfl⟩ := _root_.id ru
  have hkk : X.env.kindOf y = some .cell := hk
  rcases lk with ⟨hk', _⟩ | ⟨_, cl, hcl, ⟨oc, hoc, hcd2⟩⟩
  · rw [hkk] at hk'; cases hk'
  have hcP : cl ≠ P := fun e => by
    obtain ⟨ps, hps⟩ := hP
    have q := I1.hok P _ hps
    have q' : s1.heap.get? P = some { cls := .none, data := .fields ps } := q
    rw [e, q'] at hoc
    cases hoc
    cases hcd2
  have ec : cenv.cells.lookup y = some cl := by rw [e3]; exact clo_look hfr hcl
  have hcell : s₂.heap.IsCell cl (some (.str z t')) := ⟨oc, hkp cl oc hcP hoc, hcd2⟩
  refine wpAny_Compare1 ?_ hm
  refine wpAny_Name (wpAny_loadName_local (by rw [e1]; exact hkd) (show cenv.scope.names.lookup x = some .local by rw [e1]; exact hl) hn hmx ?_) hd
  refine wpAny_Name (wpAny_loadName_free (by rw [e1]; exact hkd) (show cenv.scope.names.lookup y = some .free by rw [e1]; exact hy) ec hcell ?_ hcd) hd2
  refine PyProof.Rows.in_str ⟨?_, keeps_refl _⟩
  rw [trF_some (by rw [Array.getElem?_toList]; exact hc)]
  exact congrArg Value.bool (PySem.StrLaws.found_one z c)
/-- lo <= x <= hi and x != no, the three names of the module -/
theorem elt_rng {P : Addr} {scope : Scope} {x lo hi no : Str} {p1 p2 p3 p4 p5 p6 p7 p8 : Pos} {H1 : Hp} {s1 : Shared} {its : Array Value} {ns : List Int} {l h n : Int} {t1 t2 t3 : Tok} (I1 : Inv X pins σ H1 s1) (hP : ∃ ps : Array Value, H1 P = some (.tbl ps))
    (g1 : X.mg lo = some (.int l t1)) (g2 : X.mg hi = some (.int h t2)) (g3 : X.mg no = some (.int n t3)) (hv : Vals (ns.map V.int) its.toList)
    (hl : scope.names.lookup x = some .local) (k1 : scope.names.lookup lo = some .globalImplicit) (k2 : scope.names.lookup hi = some .globalImplicit) (k3 : scope.names.lookup no = some .globalImplicit) (hkd : scope.kind = .function)
    (d0 : (x == ("__debug__" : Str)) = false := by decide) (d1 : (lo == ("__debug__" : Str)) = false := by decide) (d2 : (hi == ("__debug__" : Str)) = false := by decide) (d3 : (no == ("__debug__" : Str)) = false := by decide) :
    EltG X P scope x (.BoolOp .And [.Compare (.Name lo p1) [.LtE, .LtE] [.Name x p2, .Name hi p3] p4, .Compare (.Name x p5) [.NotEq] [.Name no p6] p7] p8) s1 (fun i v => its[i]? = some v)
      (trI (fun c => decide (l ≤ c ∧ c ≤ h ∧ c ≠ n)) ns) := by
  intro cenv A' E' j v s₂ m₂ e1 e2 e3 hA hPf hn hmx hkp
  have hj : ∃ (c : Int) (tc : Tok), ns[j]? = some c ∧ v = .int c tc := by
    have hlen := hv.length
    obtain ⟨hjl, _⟩ := Array.getElem?_eq_some_iff.mp hPf
    have hj2 : j < ns.length := by simp only [List.length_map, Array.length_toList] at hlen; exact Nat.lt_of_lt_of_eq hjl hlen.symm
    obtain ⟨u, hu, ru⟩ := hv.get (i := j) (x := .int ns[j]) (by rw [List.getElem?_map, List.getElem?_eq_getElem hj2]; rfl)
    rw [Array.getElem?_toList, hPf] at hu
    cases hu
    obtain ⟨tc, rfl⟩ := ru
    exact ⟨_, tc, List.getElem?_eq_getElem hj2, rfl⟩
  obtain ⟨c, tc, hc, rfl⟩ := hj
  have kd : cenv.scope.kind = .function := by rw [e1]; exact hkd
  have gns : s₂.heap.Ns cenv.globals X.mg := by
    rw [e2, I1.ok.glob]
    obtain ⟨o, es, ep, ho, hd, r⟩ := I1.mod.glob.keeps I1.bk
    refine ⟨o, es, ep, hkp _ _ (fun e => ?_) ho, hd, r⟩
    obtain ⟨ps, hps⟩ := hP
    have q' : s1.heap.get? P = some { cls := .none, data := .fields ps } := I1.hok P _ hps
    rw [e, q'] at ho
    cases ho
    cases hd
  have ldx : ∀ {Q : Value → Shared → Prop} {pp : Pos}, Q (.int c tc) s₂ → wpAny (model X.prog X.w) A' (eval (.Name x pp) cenv) Q E' s₂ := fun q =>
    wpAny_Name (wpAny_loadName_local kd (show cenv.scope.names.lookup x = some .local by rw [e1]; exact hl) hn hmx q) d0
  have ldg : ∀ {y : Str} {val : Value} {Q : Value → Shared → Prop} {pp : Pos}, X.mg y = some val → scope.names.lookup y = some .globalImplicit → (y == ("__debug__" : Str)) = false → Q val s₂ → wpAny (model X.prog X.w) A' (eval (.Name y pp) cenv) Q E' s₂ := fun g k d q =>
    Calls.Name_function_global kd (show cenv.scope.names.lookup _ = some .globalImplicit by rw [e1]; exact k) (Calls.loadGlobal_global gns g q) d
  rw [trI_some hc]
  refine wpAny_And2 ?_
  refine Compare_chain (ldg g1 k1 d1 (chain_link (ldx (le_int ?_))))
  refine wpAny_truthy_bool ?_
  by_cases h1 : l ≤ c
  · rw [decide_eq_true h1]
    refine ite_tt (chain_last (ldg g2 k2 d2 (le_int ?_)))
    refine wpAny_truthy_bool ?_
    by_cases h2 : c ≤ h
    · rw [decide_eq_true h2]
      refine ite_tt (wpAny_Compare1 (ldx (ldg g3 k3 d3 (ne_int ?_))))
      refine ⟨?_, keeps_refl _⟩
      by_cases h3 : c = n
      · simp [h3]
      · simp [h1, h2, h3]
    · rw [decide_eq_false h2]
      exact ite_ff ⟨by simp [h2], keeps_refl _⟩
  · rw [decide_eq_false h1]
    refine ite_ff ?_
    refine wpAny_truthy_bool (ite_ff ⟨by simp [h1], keeps_refl _⟩)
/-- all(.. for x in e): the walked thing of the kind R, the answer b -/
theorem all_go {c P : Addr} {elt iter : Expr} {x : Str} {px p pos gpos : Pos} {scope : Scope} {te : TE} {Wf : V → Hp → L2.St → VK → Prop} {k : Nat}
    (hr : Room k X.A) (hg : Gl X "all") (hm : X.mg "all" = none) (hb : bootBuiltins "all" = some (.builtin "all")) (TB : TabB X.base X.mg c P) (hcode : X.env.code = .ref c) (S : GenSc X.env.scope scope x) (hi : PE X iter te)
    (hs : ∀ v, genFold iter X.env v = pure v)
    (he : starEach [.GeneratorExp elt [⟨.Name x px, iter, [], 0⟩] scope gpos] X.env = (false, eval (.GeneratorExp elt [⟨.Name x px, iter, [], 0⟩] scope gpos) X.env) :: starEach [] X.env)
    (hw : ∀ pins (σ : L2.St) (v : V) (xv : Value) (H1 : Hp) (s1 : Shared) (Q : VK), TabG H1 P → Wf v H1 σ Q → RelV v xv → Inv X pins σ H1 s1 → ∃ n Pf pb, ItOk X P s1 xv n Pf ∧ EltG X P scope x elt s1 Pf pb ∧ ∀ H2, Tabbed P H1 H2 → Q (.bl ((List.range n).all pb)) H2) :
    PE X (.Call (.Name "all" p) [.GeneratorExp elt [⟨.Name x px, iter, [], 0⟩] scope gpos] [] pos) (fun σ H Q => te σ H fun v H1 => TabG H1 P ∧ Wf v H1 σ Q) := by
  refine ⟨fun pins s σ H Q I h => ?_⟩
  refine wpAny_Call_Name_kw (ld_blt I hg hm hb ?_)
  refine PyProof.Rows.callWith_builtin1 ?_ he (by rfl)
  rw [he]
  show wpAny _ _ (spliced ((false, eval (.GeneratorExp elt [⟨.Name x px, iter, [], 0⟩] scope gpos) X.env) :: backTo pos (starEach [] X.env))) _ _ s
  refine Calls.spliced_cons (gen_go (R := fun v H1 => Wf v H1 σ Q) hr TB hcode S hi hs I h fun v xv H1 s1 hT q1 r1 I1 => ?_)
  obtain ⟨n, Pf, pb, h1, h2, h3⟩ := hw pins σ v xv H1 s1 Q hT q1 r1 I1
  refine ⟨n, Pf, pb, h1, h2, fun g s5 hG => ?_⟩
  obtain ⟨fp, wr, G, F, St, W, hst, htr, hI⟩ := hG
  refine Calls.spliced_nil ?_
  refine call_all_walkS (W.self 0 _ _ _ hst ⟨g, fp, wr, G, _, F, St, _, rfl, W, hst, htr, fun s' hmv => ?_⟩)
  obtain ⟨H2, hT, J⟩ := hI s' hmv
  exact ⟨.bl _, H2, J, rfl, h3 H2 hT⟩
/-- all(x in y for x in e), e and y texts; y the def's i-th name -/
def tAllC (P : Addr) (i : Nat) (te : TE) : TE := fun σ H Q => te σ H fun v H1 => TabG H1 P ∧ ∃ a z : Str, v = .str a ∧ σ[i]? = some (some (.str z)) ∧ ∀ H2, Tabbed P H1 H2 → Q (.bl (a.cps.toList.all fun c => decide (c ∈ z.cps.toList))) H2
theorem pe_allC {c P : Addr} {iter : Expr} {x y : Str} {px p pos gpos p1 p2 p3 : Pos} {scope : Scope} {te : TE} {k i : Nat}
    (hr : Room k X.A) (hg : Gl X "all") (hm : X.mg "all" = none) (hb : bootBuiltins "all" = some (.builtin "all")) (TB : TabB X.base X.mg c P) (hcode : X.env.code = .ref c) (S : GenSc X.env.scope scope x) (hi : PE X iter te)
    (hN : X.N[i]? = some y) (hk : X.env.scope.names.lookup y = some .cell) (hfr : (y, NameKind.free) ∈ scope.names) (hy : scope.names.lookup y = some .free)
    (hs : ∀ v, genFold iter X.env v = pure v)
    (he : starEach [.GeneratorExp (.Compare (.Name x p1) [.In] [.Name y p2] p3) [⟨.Name x px, iter, [], 0⟩] scope gpos] X.env = (false, eval (.GeneratorExp (.Compare (.Name x p1) [.In] [.Name y p2] p3) [⟨.Name x px, iter, [], 0⟩] scope gpos) X.env) :: starEach [] X.env := by rfl)
    (hd : (x == ("__debug__" : Str)) = false := by decide) (hd2 : (y == ("__debug__" : Str)) = false := by decide) (hcd : (y == ("__classdict__" : Str)) = false := by decide) (hmk : behindInMarks .In (Expr.Name y p2) = false := by with_unfolding_all rfl) :
    PE X (.Call (.Name "all" p) [.GeneratorExp (.Compare (.Name x p1) [.In] [.Name y p2] p3) [⟨.Name x px, iter, [], 0⟩] scope gpos] [] pos) (tAllC P i te) := by
  refine all_go (Wf := fun v H1 σ Q => ∃ a z : Str, v = .str a ∧ σ[i]? = some (some (.str z)) ∧ ∀ H2, Tabbed P H1 H2 → Q (.bl (a.cps.toList.all fun c => decide (c ∈ z.cps.toList))) H2) hr hg hm hb TB hcode S hi hs he fun pins σ v xv H1 s1 Q hT h r1 I1 => ?_
  obtain ⟨a, z, rfl, hv, hQ⟩ := h
  obtain ⟨t, rfl⟩ := _root_.id r1
  obtain ⟨ps, hP, _⟩ := hT
  refine ⟨_, _, _, itOk_str, elt_in I1 ⟨ps, hP⟩ hN hv hk hfr S.loc hy S.kind hd hd2 hcd hmk, fun H2 h2 => ?_⟩
  rw [all_signs]
  exact hQ H2 h2
/-- all(lo <= x <= hi and x != no for x in e), e a list of ints -/
def tAllR (K : PySem.W.Frag) (P : Addr) (l h n : Int) (te : TE) : TE := fun σ H Q => te σ H fun v H1 => TabG H1 P ∧ ∃ (q : Addr) (ns : List Int), v = .ref q ∧ SqL K H1 q (ns.map V.int) ∧ ∀ H2, Tabbed P H1 H2 → Q (.bl (ns.all fun c => decide (l ≤ c ∧ c ≤ h ∧ c ≠ n))) H2
theorem pe_allR {c P : Addr} {iter : Expr} {x lo hi no : Str} {px p pos gpos p1 p2 p3 p4 p5 p6 p7 p8 : Pos} {scope : Scope} {te : TE} {k : Nat} {l h n : Int}
    (hr : Room k X.A) (hg : Gl X "all") (hm : X.mg "all" = none) (hb : bootBuiltins "all" = some (.builtin "all")) (TB : TabB X.base X.mg c P) (hcode : X.env.code = .ref c) (S : GenSc X.env.scope scope x) (hi' : PE X iter te)
    (g1 : ∃ u, X.mg lo = some u ∧ RelV (.int l) u) (g2 : ∃ u, X.mg hi = some u ∧ RelV (.int h) u) (g3 : ∃ u, X.mg no = some u ∧ RelV (.int n) u)
    (k1 : scope.names.lookup lo = some .globalImplicit) (k2 : scope.names.lookup hi = some .globalImplicit) (k3 : scope.names.lookup no = some .globalImplicit)
    (hs : ∀ v, genFold iter X.env v = pure v)
    (he : starEach [.GeneratorExp (.BoolOp .And [.Compare (.Name lo p1) [.LtE, .LtE] [.Name x p2, .Name hi p3] p4, .Compare (.Name x p5) [.NotEq] [.Name no p6] p7] p8) [⟨.Name x px, iter, [], 0⟩] scope gpos] X.env = (false, eval (.GeneratorExp (.BoolOp .And [.Compare (.Name lo p1) [.LtE, .LtE] [.Name x p2, .Name hi p3] p4, .Compare (.Name x p5) [.NotEq] [.Name no p6] p7] p8) [⟨.Name x px, iter, [], 0⟩] scope gpos) X.env) :: starEach [] X.env := by rfl)
    (d0 : (x == ("__debug__" : Str)) = false := by decide) (d1 : (lo == ("__debug__" : Str)) = false := by decide) (d2 : (hi == ("__debug__" : Str)) = false := by decide) (d3 : (no == ("__debug__" : Str)) = false := by decide) :
    PE X (.Call (.Name "all" p) [.GeneratorExp (.BoolOp .And [.Compare (.Name lo p1) [.LtE, .LtE] [.Name x p2, .Name hi p3] p4, .Compare (.Name x p5) [.NotEq] [.Name no p6] p7] p8) [⟨.Name x px, iter, [], 0⟩] scope gpos] [] pos) (tAllR X.K P l h n te) := by
  obtain ⟨u1, g1, t1, rfl⟩ := g1
  obtain ⟨u2, g2, t2, rfl⟩ := g2
  obtain ⟨u3, g3, t3, rfl⟩ := g3
  refine all_go (Wf := fun v H1 σ Q => ∃ (q : Addr) (ns : List Int), v = .ref q ∧ SqL X.K H1 q (ns.map V.int) ∧ ∀ H2, Tabbed P H1 H2 → Q (.bl (ns.all fun c => decide (l ≤ c ∧ c ≤ h ∧ c ≠ n))) H2) hr hg hm hb TB hcode S hi' hs he fun pins σ v xv H1 s1 Q hT hq r1 I1 => ?_
  obtain ⟨q, ns, rfl, hq, hQ⟩ := hq
  obtain rfl : xv = Value.ref q := r1
  obtain ⟨its, rv, pl, hsz⟩ := I1.list hq
  obtain ⟨ps, hP, _⟩ := hT
  have hqP : q ≠ P := fun e => by
    have q' : s1.heap.get? P = some { cls := .none, data := .fields ps } := I1.hok P _ hP
    obtain ⟨o, nn, e1, _, _, e2⟩ := pl
    rw [e, q'] at e1
    cases e1
    cases e2
  refine ⟨_, _, _, itOk_list pl.isList hqP, elt_rng I1 ⟨ps, hP⟩ g1 g2 g3 (by simpa using rv) S.loc k1 k2 k3 S.kind d0 d1 d2 d3, fun H2 h2 => ?_⟩
  have e := rv.length
  rw [List.length_map] at e
  rw [List.size_toArray, ← e, all_trI]
  exact hQ H2 h2
end
end WP

namespace WP
open PySem PySem.Spec PyProof.Rows L2 GxR
/-- all but the tables stay, tables stay tables -/
def NT (u : HO) : Prop := ∀ ps, u ≠ .tbl ps
structure Sm (H H' : Hp) : Prop where
  k : ∀ b u, H b = some u → NT u → H' b = some u
  t : ∀ P, TabG H P → TabG H' P
theorem Sm.refl (H : Hp) : Sm H H := ⟨fun _ _ e _ => e, fun _ h => h⟩
theorem Sm.trans {H H' H2 : Hp} (a : Sm H H') (b : Sm H' H2) : Sm H H2 := ⟨fun x u e n => b.k x u (a.k x u e n) n, fun P h => b.t P (a.t P h)⟩
theorem Sm.of {H H' : Hp} (e : Same H H') : Sm H H' := ⟨fun b u h _ => e b u h, fun P ⟨ps, h, t⟩ => ⟨ps, e P _ h, t⟩⟩
theorem Sm.tab {H H' : Hp} {P : Addr} (g : TabG H P) (h : Tabbed P H H') : Sm H H' := by
  obtain ⟨ps, hP, ht⟩ := g
  refine ⟨fun b u e n => ?_, fun Q hq => ?_⟩
  · by_cases hb : b = P
    · rw [hb, hP] at e; exact absurd (Option.some.inj e).symm (n ps)
    · rw [h.2 b hb]; exact e
  · by_cases hb : Q = P
    · rw [hb]; exact h.1
    · obtain ⟨qs, h1, h2⟩ := hq
      exact ⟨qs, by rw [h.2 Q hb]; exact h1, h2⟩
theorem nt_tup {xs : List V} : NT (.tup xs) := fun _ z => by cases z
theorem nt_lst {xs : List V} : NT (.lst xs) := fun _ z => by cases z
theorem nt_frz {o : Obj} {x : HO} : NT (.frz o x) := fun _ z => by cases z
theorem Sm.tup {K : PySem.W.Frag} {H H' : Hp} {a : Addr} {xs : List V} (e : Sm H H') (h : SqT K H a xs) : SqT K H' a xs := by
  rcases h with (h | ⟨o, h⟩) | h
  · exact .inl (.inl (e.k _ _ h nt_tup))
  · exact .inl (.inr ⟨o, e.k _ _ h nt_frz⟩)
  · exact .inr h
theorem Sm.lst {K : PySem.W.Frag} {H H' : Hp} {a : Addr} {xs : List V} (e : Sm H H') (h : SqL K H a xs) : SqL K H' a xs := by
  rcases h with (h | ⟨o, h⟩) | h
  · exact .inl (.inl (e.k _ _ h nt_lst))
  · exact .inl (.inr ⟨o, e.k _ _ h nt_frz⟩)
  · exact .inr h
/-- what comes back, tables grown -/
def MetV (v : V) (H : Hp) (Q : VK) : Prop := ∀ H', Sm H H' → Q v H'
def MetT (xs : List V) (H : Hp) (Q : VK) : Prop := ∀ p H', Sm H H' → H' p = some (.tup xs) → Q (.ref p) H'
theorem MetT.new {xs : List V} {H H' : Hp} {Q : VK} (k : MetT xs H Q) (e : Sm H H') : ∀ p, H' p = none → Q (.ref p) (upd H' p (.tup xs)) := fun p hp =>
  k p _ (e.trans (.of (same_new hp))) upd_same
/-- the def x's code object and its table -/
def cod (K : PySem.W.Frag) (x : Str) : Addr := match PySem.W.tabIn K x with
  | some (c, _) => c
  | none => 0
def tbl (K : PySem.W.Frag) (x : Str) : Addr := match PySem.W.tabIn K x with
  | some (_, P) => P
  | none => 0
theorem cod_of {K : PySem.W.Frag} {x : Str} {c P : Addr} (h : PySem.W.tabIn K x = some (c, P)) : cod K x = c := by unfold cod; rw [h]
theorem tbl_of {K : PySem.W.Frag} {x : Str} {c P : Addr} (h : PySem.W.tabIn K x = some (c, P)) : tbl K x = P := by unfold tbl; rw [h]
/-- a def whose code object is c -/
structure FunC (K : PySem.W.Frag) (x qual : Str) (st : Stmt) (f : Addr) (fd : FuncData) (c : Addr) : Prop where
  ex : ∃ (oc : Value) (od : Option Addr) (kV doc pm : Value) (an : Option Addr) (ct : Value) (osl : Array (Option Value)),
    fd = PySem.W.fnOf x qual (defArgs st) (defBody st) (defScope st) .none kV doc pm an (.ref c) ct ∧ K.lookup f = some ⟨oc, od, .func fd, osl⟩ ∧ PySem.W.codeIn K (.ref c) qual = true
section
variable {P : Program} {w : World} {K : PySem.W.Frag} {mg : Str → Option Value} {base : Heap}
theorem FunC.ok {x qual : Str} {st : Stmt} {f : Addr} {fd : FuncData} {c : Addr} {N ps : List Str} {k : Nat} {sp : Sp} (F : FunC K x qual st f fd c) (S : FnScope N ps (defScope st)) (len : ∀ vs H Q E, sp vs H Q E → vs.length = ps.length)
    (hbody : ∀ (A : Around) (outer : List Env) (s : Shared) (H : Hp) (vs : List V) (Q : VK) (E : XK), Room k (A.deeper (envOfC qual (defScope st) s.heap.objs.size f (.ref c))) → sp vs H Q E →
      ∃ t, PSs (cxOf CX0 P w K mg base N qual (defScope st) f (.ref c) A outer s H E).nox (defBody st) t ∧ t { nx := fun _ H' => Q .non H', rt := Q } (start N vs) H) : FnOk P w K mg base CX0 (k + 1) f fd ps sp := by
  obtain ⟨oc, od, kV, doc, pm, an, ct, osl, rfl, lk, hcd⟩ := F.ex
  refine fn_of lk hcd S len fun A outer s H vs Q E hr hsp => ?_
  obtain ⟨t, h, q⟩ := hbody A outer s H vs Q E hr hsp
  exact ⟨t, h.nox, q⟩
theorem funC_mk {x qual : Str} {st : Stmt} {f : Addr} {c P' : Addr} {y : Str} {oc : Value} {od an : Option Addr} {osl : Array (Option Value)} {kV doc pm ct : Value} (l : K.lookup f = some ⟨oc, od, .func (PySem.W.fnOf x qual (defArgs st) (defBody st) (defScope st) .none kV doc pm an (.ref c) ct), osl⟩)
    (hc : PySem.W.codeIn K (.ref c) qual = true) (ht : PySem.W.tabIn K y = some (c, P')) : FunC K x qual st f (PySem.W.fnOf x qual (defArgs st) (defBody st) (defScope st) .none kV doc pm an (.ref c) ct) (cod K y) := by
  rw [cod_of ht]
  exact ⟨oc, od, kV, doc, pm, an, ct, osl, rfl, l, hc⟩
end
theorem FunC.toF {K : PySem.W.Frag} {x qual : Str} {st : Stmt} {f : Addr} {fd : FuncData} {c : Addr} (F : FunC K x qual st f fd c) (k : PySem.W.keepIn K (.ref f) = true) : Fun K x qual st f fd := by
  obtain ⟨oc, od, kV, doc, pm, an, ct, osl, e, lk, hcd⟩ := F.ex
  exact ⟨⟨oc, od, kV, doc, pm, an, _, ct, osl, e, lk, hcd⟩, k⟩
theorem tabB_of {base : Heap} {mg : Str → Option Value} {K : PySem.W.Frag} {x : Str} {c P : Addr} (h : LamX.TabB base mg c P) (ht : PySem.W.tabIn K x = some (c, P)) : GxR.TabB base mg (cod K x) (tbl K x) := by
  rw [cod_of ht, tbl_of ht]
  exact ⟨h.code, h.bm, h.gP⟩
/-- the end of a row whose defs hold generator expressions -/
theorem walk_ofG {l : PySem.W.OpenLaw} {n k : Nat} {q : Program} {loose : List Str} {XP : (Str → Option Value) → Heap → Prop} {YP : World → Heap → Prop} {d : DefRec} {K : Params → PySem.W.Frag} {CX : World → CXT} {x : Str}
    (hn : l.most = some n) (hn2 : n ≤ sizeLine) (hdf : d.params.defaults = []) (hr : Room k callerA) (hY : ∀ (w : World) (h : Heap), YP w h → (K w.params).In h)
    (F : ∀ (w : World) (mg : Str → Option Value) (fa : Addr) (h : Heap), YP w h → (K w.params).In h → h.Ns mainGlobals mg → mg d.name = some (.ref fa) →
      (∀ (x : Str) (c P : Addr), ((recsOf q).any fun e => e.name == x) = true → PySem.W.tabIn (K w.params) x = some (c, P) → PySem.W.CodeHd h c P ∧ h.get? P = some { cls := .none, data := .fields #[] }) → LamX.LawAtS l w (K w.params) (CX w) k n x mg fa h)
    (hCX : ∀ (w : World) (H : Hp) (s : Shared) (e : Value) (s' : Shared), CX w [] H s (fun _ _ _ => False) e s' → False) :
    PySem.W.WalkO q loose XP YP l.row.toRowW d [] (fun f vs => PySem.call f vs) := by
  refine Att.attach_callB hn hdf fun w s₀ s₁ mg mb fa o pm cd doc a vs ns G Y ho hd hcd hmg hobj hints hlen hbits hg => ?_
  have KX := hY w _ Y
  obtain ⟨fd, cs, sp, hT, nT, C, hb, hsp, hF⟩ := F w mg fa _ Y KX G.T.g hmg fun x c P hrec ht => by
    obtain ⟨dL, hf⟩ : ∃ dL, (recsOf q).find? (fun e => e.name == x) = some dL := by
      cases e : (recsOf q).find? (fun e => e.name == x) with
      | some dL => exact ⟨dL, rfl⟩
      | none =>
        rw [List.find?_eq_none] at e
        obtain ⟨z, hz, h2⟩ := List.any_eq_true.mp hrec
        exact absurd h2 (e z hz)
    exact PySem.W.tab_of G.T KX hf ht
  exact LamX.law_callTs KX G.T.g G.T.b G.T.builtins G.T.nolimit hg hT nT C G.T.bmain hobj hints (Nat.le_trans hlen hn2) hr hF hb (fun H hH hS => hsp H a ns hlen hbits hH hS) fun H e s' => hCX w H s₁ e s'
end WP

namespace MW
open PySem PySem.Spec PyProof.Rows L2
open SX (S)
def FIG : List Nat := [48, 49, 50, 51, 52, 53, 54, 55, 56, 57]
def LET : List Nat := [97, 98, 99, 100, 101, 102, 103, 104, 105, 106, 107, 108, 109, 110, 111, 112, 113, 114, 115, 116, 117, 118, 119, 120, 121, 122]
/-- the printable signs -/
def PRN : List Nat := [32, 33, 34, 35, 36, 38, 39, 40, 41, 42, 43, 44, 45, 46, 47, 48, 49, 50, 51, 52, 53, 54, 55, 56, 57, 58, 59, 60, 61, 62, 63, 64, 65, 66, 67, 68, 69, 70, 71, 72, 73, 74, 75, 76, 77, 78, 79, 80, 81, 82, 83, 84, 85, 86, 87, 88, 89, 90, 91, 92, 93, 94, 95, 96, 97, 98, 99, 100, 101, 102, 103, 104, 105, 106, 107, 108, 109, 110, 111, 112, 113, 114, 115, 116, 117, 118, 119, 120, 121, 122, 123, 124, 125, 126]
def allIn (l cs : List Nat) : Bool := l.all fun c => decide (c ∈ cs)
def figs (l : List Nat) : Bool := !decide (l = []) && allIn l FIG
def prn (l : List Nat) : Bool := l.all fun c => decide (32 ≤ c ∧ c ≤ 126 ∧ c ≠ 37)
theorem allIn_nil (cs : List Nat) : allIn [] cs = true := rfl
theorem figs_all {l : List Nat} (h : figs l = true) : l ≠ [] ∧ l.all (fun c => decide (48 ≤ c) && decide (c ≤ 57)) = true := by
  unfold figs at h
  rw [Bool.and_eq_true, Bool.not_eq_true', decide_eq_false_iff_not] at h
  refine ⟨h.1, List.all_eq_true.mpr fun c hc => ?_⟩
  have := List.all_eq_true.mp h.2 c hc
  have m : c ∈ FIG := of_decide_eq_true this
  have : c = 48 ∨ c = 49 ∨ c = 50 ∨ c = 51 ∨ c = 52 ∨ c = 53 ∨ c = 54 ∨ c = 55 ∨ c = 56 ∨ c = 57 := by simpa [FIG] using m
  rw [Bool.and_eq_true, decide_eq_true_eq, decide_eq_true_eq]
  omega
/-- some value of the law: a text, or something else -/
inductive Wd (K : PySem.W.Frag) (H : Hp) : V → Prop
  | str {l : List Nat} (hl : l.length ≤ 1000) (ok : ∀ c ∈ l, c < 128) : Wd K H (.str (S l))
  | non : Wd K H .non
  | int (i : Int) : Wd K H (.int i)
  | bl (b : Bool) : Wd K H (.bl b)
  | tup {p : Addr} {xs : List V} (h : SqT K H p xs) : Wd K H (.ref p)
  | lst {p : Addr} {xs : List V} (h : SqL K H p xs) : Wd K H (.ref p)
theorem Wd.sm {K : PySem.W.Frag} {H H' : Hp} {v : V} (e : WP.Sm H H') (h : Wd K H v) : Wd K H' v := by
  cases h with
  | str hl ok => exact .str hl ok
  | non => exact .non
  | int i => exact .int i
  | bl b => exact .bl b
  | tup h => exact .tup (e.tup h)
  | lst h => exact .lst (e.lst h)
def isS : V → Bool
  | .str _ => true
  | _ => false
theorem tyL {K : PySem.W.Frag} {H : Hp} {p : Addr} {xs : List V} (h : SqL K H p xs) : TyX K H (.ref p) (.type "list") := by
  rcases h with (h | ⟨o, h⟩) | h
  · exact .base (.lst h)
  · exact .base (.frz h)
  · obtain ⟨o, its, n, h1, h2, h3⟩ := h
    exact .kList h1 h2
/-- isinstance(v, str) -/
theorem Wd.isStr {K : PySem.W.Frag} {H : Hp} {v : V} {Q : VK} (h : Wd K H v) (q : Q (.bl (isS v)) H) : rIsi K [v, .ty "str"] H Q := by
  cases h with
  | str hl ok => exact WP.isY (.base (.str _)) q
  | non => exact WP.isN (.base .non) q
  | int i => exact WP.isN (.base (.int i)) q
  | bl b => exact WP.isN (.base (.bl b)) q
  | tup h => exact WP.isN (WP.tyT h) q
  | lst h => exact WP.isN (tyL h) q
/-- what is asked of a text, False of another value -/
def onS (f : List Nat → Bool) : V → Bool
  | .str z => f z.cps.toList
  | _ => false
theorem onS_S {f : List Nat → Bool} {l : List Nat} : onS f (.str (S l)) = f l := rfl
theorem Wd.cases {K : PySem.W.Frag} {H : Hp} {v : V} (h : Wd K H v) : (∃ l, v = .str (S l) ∧ l.length ≤ 1000 ∧ ∀ c ∈ l, c < 128) ∨ (isS v = false ∧ ∀ f, onS f v = false) := by
  cases h with
  | str hl ok => exact .inl ⟨_, rfl, hl, ok⟩
  | _ => exact .inr ⟨rfl, fun _ => rfl⟩
/-- the reserved words -/
def RES : List (List Nat) := [[112, 114, 111, 103, 114, 97, 109], [100, 97, 116, 97], [102, 105, 108, 101, 115], [112, 114, 111, 99, 101, 100, 117, 114, 101], [112, 105, 99, 116, 117, 114, 101], [111, 99, 99, 117, 114, 115], [118, 97, 108, 117, 101], [105, 110, 112, 117, 116], [111, 117, 116, 112, 117, 116], [114, 101, 99, 111, 114, 100], [109, 111, 118, 101], [116, 111], [115, 101, 116], [114, 111, 117, 110, 100, 101, 100], [101, 108, 115, 101], [101, 110, 100], [100, 105, 118, 105, 100, 101], [98, 121], [103, 105, 118, 105, 110, 103], [114, 101, 109, 97, 105, 110, 100, 101, 114], [105, 102], [116, 104, 101, 110], [112, 101, 114, 102, 111, 114, 109], [116, 104, 114, 117], [116, 105, 109, 101, 115], [117, 110, 116, 105, 108], [118, 97, 114, 121, 105, 110, 103], [102, 114, 111, 109], [114, 101, 97, 100], [97, 116], [98, 97, 100], [119, 114, 105, 116, 101], [115, 104, 111, 119], [115, 111, 114, 116], [100, 101, 115, 99, 101, 110, 100, 105, 110, 103], [99, 108, 101, 97, 114], [115, 116, 111, 112], [110, 111, 116], [97, 110, 100], [111, 114], [100, 105, 103, 105, 116, 115], [116, 101, 120, 116]]
def nameB (l : List Nat) : Bool :=
  decide (1 ≤ l.length ∧ l.length ≤ 20) && (!decide (l ∈ RES) && (decide (l.headD 0 ∈ LET) && (!decide ((l.getLast?).getD 0 = 45) && allIn l (LET ++ FIG ++ [45]))))
theorem ends {l : List Nat} (h : 1 ≤ l.length) : atI l (0 : Int) = some (l.headD 0) ∧ atI l (-1 : Int) = some ((l.getLast?).getD 0) := by
  cases l with
  | nil => exact absurd h (by decide)
  | cons c r =>
    refine ⟨WP.at0, ?_⟩
    have e : ixN (c :: r).length (-1) = some r.length := by
      unfold ixN
      rw [if_neg (by decide)]
      rw [List.length_cons]
      first | (rw [if_pos (by omega)]; congr 1; omega) | (simp; omega)
    unfold atI
    rw [e]
    show (c :: r)[r.length]? = _
    have e2 : (c :: r).getLast? = (c :: r)[(c :: r).length - 1]? := List.getLast?_eq_getElem?
    rw [show (c :: r).length - 1 = r.length from rfl] at e2
    rw [← e2]
    simp [List.getLast?_cons]
theorem cps_S (l : List Nat) : (S l).cps.toList = l := rfl
theorem prn_codes (l : List Nat) : ((l.map fun c => ((c : Nat) : Int)).all fun c => decide ((32 : Int) ≤ c ∧ c ≤ 126 ∧ c ≠ 37)) = prn l := by
  unfold prn
  rw [List.all_map]
  congr 1
  funext c
  show decide _ = decide _
  congr 1
  exact propext ⟨fun (h : (32 : Int) ≤ (c : Int) ∧ (c : Int) ≤ 126 ∧ (c : Int) ≠ 37) => by omega, fun h => show (32 : Int) ≤ (c : Int) ∧ (c : Int) ≤ 126 ∧ (c : Int) ≠ 37 by omega⟩
theorem prn_in (l : List Nat) : allIn l PRN = prn l := by
  unfold allIn prn
  congr 1
  funext c
  congr 1
  refine propext ⟨fun h => ?_, fun ⟨h1, h2, h3⟩ => ?_⟩
  · have : ∀ c ∈ PRN, 32 ≤ c ∧ c ≤ 126 ∧ c ≠ 37 := by decide
    exact this c h
  · have : ∀ c < 127, 32 ≤ c → c ≠ 37 → c ∈ PRN := by decide
    exact this c (by omega) h1 h3
/-- the reserved words as data -/
def resD : List PyData := RES.map fun a => PyData.str (S a)
theorem dpAll_S {K : PySem.W.Frag} {H : Hp} : ∀ ls : List (List Nat), DpAll K H (ls.map fun a => V.str (S a)) (ls.map fun a => PyData.str (S a))
  | [] => .nil
  | _ :: r => .cons (.str _) (dpAll_S r)
theorem dpRes {K : PySem.W.Frag} (H : Hp) : DpAll K H (RES.map fun a => V.str (S a)) resD := dpAll_S RES
theorem resSh : SeqAt.shaped (.list resD) = true := by decide +kernel
theorem resLay : (PyData.list resD).canLay0 = true := by decide +kernel
end MW

namespace D
open PySem PySem.Spec PyProof.Rows L2
local macro_rules | `(tactic| k_memK) => `(tactic| first
  | (with_reducible refine WP.eqTS ?_) | (with_reducible refine WP.neTS ?_) | (with_reducible refine WP.bm ?_) | (with_reducible refine WP.tyS ?_) | (with_reducible refine WP.gsub ?_) | (with_reducible refine WP.rng3 ?_) | (with_reducible refine WP.wstr ?_) | (with_reducible refine WP.bm0 ?_) | (with_reducible refine WP.lc ?_)
  | (with_reducible refine WP.seq ?_) | (with_reducible refine WP.asg ?_) | (with_reducible refine WP.name ?_)
  | ((with_reducible show tVar _ _ _ _); refine WP.var rfl ?_) | (with_reducible refine WP.con ?_) | (with_reducible refine WP.op ?_) | (with_reducible refine WP.i0 ?_)
  | (with_reducible refine WP.un ?_) | (with_reducible refine WP.rU_ ?_)
  | (with_reducible refine WP.ifS ?_) | (with_reducible refine WP.ifE ?_) | (with_reducible refine WP.test ?_) | (with_reducible refine WP.bt ?_) | (with_reducible refine WP.isbV ?_)
  | (with_reducible refine WP.ret ?_) | (with_reducible refine WP.retN ?_) | (with_reducible refine WP.drop ?_) | (with_reducible refine WP.next ?_) | (with_reducible refine WP.brk ?_) | (with_reducible refine WP.cont ?_)
  | (with_reducible refine WP.cb ?_) | (with_reducible refine WP.call ?_) | (with_reducible refine WP.cons ?_) | (with_reducible refine WP.nil ?_) | (with_reducible refine WP.tup ?_) | (with_reducible refine WP.lst ?_)
  | (with_reducible refine WP.eqI ?_) | (with_reducible refine WP.neI ?_) | (with_reducible refine WP.eqT ?_) | (with_reducible refine WP.neT ?_) | (with_reducible refine WP.eqB ?_) | (with_reducible refine WP.neB ?_)
  | (with_reducible refine WP.notT ?_) | (with_reducible refine WP.andT ?_) | (with_reducible refine WP.orT ?_) | (with_reducible refine WP.andV ?_) | (with_reducible refine WP.orV ?_) | (with_reducible refine WP.notV ?_)
  | (with_reducible refine WP.sl ?_) | (with_reducible refine WP.noPart ?_) | (with_reducible refine WP.part ?_) | (with_reducible refine WP.isi ?_) | (with_reducible refine WP.isbV ?_) | (with_reducible refine WP.gsCons ?_) | (with_reducible refine WP.gsNil ?_) | (with_reducible refine WP.forl ?_) | (with_reducible refine WP.rng1 ?_) | (with_reducible refine WP.rng2 ?_) | (with_reducible refine WP.walkL ?_) | (with_reducible refine WP.walkT ?_))
local macro_rules | `(tactic| k_updF) => `(tactic| repeat k_memK)

def top (i : Nat) : Stmt := PySem.Challenge.pw_cardwright_k01_words.main.body.getD i (.Pass ⟨0, 0, 0, 0⟩)
structure Blt (w : World) (K : PySem.W.Frag) (mg : Str → Option Value) : Prop where
  b_all : mg "all" = none
  b_bool : mg "bool" = none
  b_int : mg "int" = none
  b_isinstance : mg "isinstance" = none
  b_len : mg "len" = none
  b_list : mg "list" = none
  b_max : mg "max" = none
  b_min : mg "min" = none
  b_ord : mg "ord" = none
  b_range : mg "range" = none
  b_str : mg "str" = none
  b_tuple : mg "tuple" = none
  c_FIGURES : ∃ u, mg "FIGURES" = some u ∧ RelV (.str (SX.S [48, 49, 50, 51, 52, 53, 54, 55, 56, 57])) u
  c_FIRST_PRINTABLE : ∃ u, mg "FIRST_PRINTABLE" = some u ∧ RelV (.int 32) u
  c_LAST_PRINTABLE : ∃ u, mg "LAST_PRINTABLE" = some u ∧ RelV (.int 126) u
  c_LETTERS : ∃ u, mg "LETTERS" = some u ∧ RelV (.str (SX.S [97, 98, 99, 100, 101, 102, 103, 104, 105, 106, 107, 108, 109, 110, 111, 112, 113, 114, 115, 116, 117, 118, 119, 120, 121, 122])) u
  c_MOST_NAME : ∃ u, mg "MOST_NAME" = some u ∧ RelV (.int 20) u
  c_NOT_PRINTABLE : ∃ u, mg "NOT_PRINTABLE" = some u ∧ RelV (.int 37) u
  c_RESERVED : WP.KTp K mg "RESERVED" [.str (SX.S [112, 114, 111, 103, 114, 97, 109]), .str (SX.S [100, 97, 116, 97]), .str (SX.S [102, 105, 108, 101, 115]), .str (SX.S [112, 114, 111, 99, 101, 100, 117, 114, 101]), .str (SX.S [112, 105, 99, 116, 117, 114, 101]), .str (SX.S [111, 99, 99, 117, 114, 115]), .str (SX.S [118, 97, 108, 117, 101]), .str (SX.S [105, 110, 112, 117, 116]), .str (SX.S [111, 117, 116, 112, 117, 116]), .str (SX.S [114, 101, 99, 111, 114, 100]), .str (SX.S [109, 111, 118, 101]), .str (SX.S [116, 111]), .str (SX.S [115, 101, 116]), .str (SX.S [114, 111, 117, 110, 100, 101, 100]), .str (SX.S [101, 108, 115, 101]), .str (SX.S [101, 110, 100]), .str (SX.S [100, 105, 118, 105, 100, 101]), .str (SX.S [98, 121]), .str (SX.S [103, 105, 118, 105, 110, 103]), .str (SX.S [114, 101, 109, 97, 105, 110, 100, 101, 114]), .str (SX.S [105, 102]), .str (SX.S [116, 104, 101, 110]), .str (SX.S [112, 101, 114, 102, 111, 114, 109]), .str (SX.S [116, 104, 114, 117]), .str (SX.S [116, 105, 109, 101, 115]), .str (SX.S [117, 110, 116, 105, 108]), .str (SX.S [118, 97, 114, 121, 105, 110, 103]), .str (SX.S [102, 114, 111, 109]), .str (SX.S [114, 101, 97, 100]), .str (SX.S [97, 116]), .str (SX.S [98, 97, 100]), .str (SX.S [119, 114, 105, 116, 101]), .str (SX.S [115, 104, 111, 119]), .str (SX.S [115, 111, 114, 116]), .str (SX.S [100, 101, 115, 99, 101, 110, 100, 105, 110, 103]), .str (SX.S [99, 108, 101, 97, 114]), .str (SX.S [115, 116, 111, 112]), .str (SX.S [110, 111, 116]), .str (SX.S [97, 110, 100]), .str (SX.S [111, 114]), .str (SX.S [100, 105, 103, 105, 116, 115]), .str (SX.S [116, 101, 120, 116])]
abbrev s__law_rich : Stmt := top 15
abbrev N__law_rich : List Str := ["cell", "k", "mixed"]
theorem sc__law_rich : FnScope N__law_rich ["cell", "k"] (defScope s__law_rich) := ⟨rfl, rfl, rfl, by decide +kernel, rfl, by decide +kernel, by decide +kernel⟩
def sp__law_rich (K : PySem.W.Frag) (mg : WP.MG) : Sp := fun vs H Q _ => ∃ c k : Int, vs = [.int c, .int k] ∧ ∀ r : Int, 0 ≤ r → Q (.int r) H
section
variable {P : Program} {w : World} {K : PySem.W.Frag} {mg : Str → Option Value} {base : Heap}
theorem ok__law_rich {f : Addr} {fd : FuncData} (F : Fun K "_law_rich" "_law_rich" s__law_rich f fd) (B : Blt w K mg)  : FnOk P w K mg base CX0 1 f fd ["cell", "k"] (sp__law_rich K mg) := by
  refine F.ok sc__law_rich (fun vs H Q E h => ?_) (fun cdv A outer s H vs Q E hr h => ?_)
  · first | (obtain ⟨_, rfl, _⟩ := h; rfl) | (obtain ⟨_, _, rfl, _⟩ := h; rfl) | (obtain ⟨_, _, _, rfl, _⟩ := h; rfl) | (obtain ⟨_, _, _, _, rfl, _⟩ := h; rfl) | (obtain ⟨_, _, _, _, _, rfl, _⟩ := h; rfl) | (obtain ⟨_, _, _, _, _, _, rfl, _⟩ := h; rfl) | (obtain ⟨_, _, _, _, _, _, _, rfl, _⟩ := h; rfl) | (obtain ⟨_, _, _, _, _, _, _, _, rfl, _⟩ := h; rfl) | (obtain ⟨rfl, _⟩ := h; rfl)
  · obtain ⟨c, i, rfl, k⟩ := h
    refine ⟨_, (pss_cons (ps_if (pt_cmpR op_ge (pv 0) (pe_op op_pow pe_int pe_int) (nomark _)) (pss_one (ps_ret (pe_callTy WP.c_int1 (by rfl) B.b_int (by decide +kernel) (pa_cons (pv 0) pa_nil)))) pss_nil)
      (pss_cons (ps_set (i := 2) sc__law_rich.nd rfl (Or.inl rfl) (pe_op op_mod (pe_callTy WP.c_int1 (by rfl) B.b_int (by decide +kernel) (pa_cons (pe_op op_add (pe_op op_add (pe_op op_mul (pv 0) pe_int) (pe_op op_mul (pv 1) pe_int)) pe_int) pa_nil)) pe_int))
      (pss_one (ps_ret (pe_op op_add (pe_op op_mul (pv 2) pe_int) (pe_op op_mod (pe_callTy WP.c_int1 (by rfl) B.b_int (by decide +kernel) (pa_cons (pe_op op_add (pe_op op_mul (pv 2) pe_int) (pv 0)) pa_nil)) pe_int)))))), ?_⟩
    k_updF
    refine WP.iC ⟨by decide, by decide, by decide⟩ ?_
    k_updF
    refine WP.br (fun g => ?_) (fun g => ?_)
    · k_updF
      refine WP.intI (k _ ?_)
      have : (0 : Int) ≤ 10 ^ (18 : Int).toNat := by decide
      omega
    · k_updF
      refine WP.iC (.inr (by decide)) ?_
      k_updF
      refine WP.iC (.inr (by decide)) ?_
      k_updF
      refine WP.intI ?_
      k_updF
      refine WP.iC (by decide) ?_
      k_updF
      refine WP.iC (.inr (by decide)) ?_
      k_updF
      refine WP.iC (.inr (by decide)) ?_
      k_updF
      refine WP.intI ?_
      k_updF
      refine WP.iC (by decide) ?_
      k_updF
      refine k _ ?_
      have h1 := Int.emod_nonneg (c * 48271 + i * 69621 + 11) (show (2147483647 : Int) ≠ 0 by decide)
      have h2 := Int.emod_nonneg ((c * 48271 + i * 69621 + 11) % 2147483647 * 16807 + c) (show (2147483629 : Int) ≠ 0 by decide)
      omega
end
abbrev s__law_word : Stmt := top 16
abbrev N__law_word : List Str := ["size", "chars", "seed", "word", "rest", "k"]
theorem sc__law_word : FnScope N__law_word ["size", "chars", "seed"] (defScope s__law_word) := ⟨rfl, rfl, rfl, by decide +kernel, rfl, by decide +kernel, by decide +kernel⟩
def sp__law_word (K : PySem.W.Frag) (mg : WP.MG) : Sp := fun vs H Q _ => ∃ (n : Int) (cs : List Nat) (s : Int), vs = [.int n, .str (SX.S cs), .int s] ∧ 0 ≤ n ∧ n ≤ 23 ∧ cs ≠ [] ∧ cs.length ≤ 100 ∧ (∀ c ∈ cs, c < 128) ∧ ∀ l : List Nat, l.length ≤ 23 → (∀ c ∈ l, c < 128) → Q (.str (SX.S l)) H
section
variable {P : Program} {w : World} {K : PySem.W.Frag} {mg : Str → Option Value} {base : Heap}
theorem ok__law_word {f : Addr} {fd : FuncData} (F : Fun K "_law_word" "_law_word" s__law_word f fd) (B : Blt w K mg)  : FnOk P w K mg base CX0 1 f fd ["size", "chars", "seed"] (sp__law_word K mg) := by
  refine F.ok sc__law_word (fun vs H Q E h => ?_) (fun cdv A outer s H vs Q E hr h => ?_)
  · first | (obtain ⟨_, rfl, _⟩ := h; rfl) | (obtain ⟨_, _, rfl, _⟩ := h; rfl) | (obtain ⟨_, _, _, rfl, _⟩ := h; rfl) | (obtain ⟨_, _, _, _, rfl, _⟩ := h; rfl) | (obtain ⟨_, _, _, _, _, rfl, _⟩ := h; rfl) | (obtain ⟨_, _, _, _, _, _, rfl, _⟩ := h; rfl) | (obtain ⟨_, _, _, _, _, _, _, rfl, _⟩ := h; rfl) | (obtain ⟨_, _, _, _, _, _, _, _, rfl, _⟩ := h; rfl) | (obtain ⟨rfl, _⟩ := h; rfl)
  · obtain ⟨n, cs, s0, rfl, hn0, hn, hne, hcl, hcs, k⟩ := h
    refine ⟨_, (pss_cons (ps_set (i := 3) sc__law_word.nd rfl (Or.inl rfl) (WP.pe_strL [] (by decide +kernel)))
      (pss_cons (ps_set (i := 4) sc__law_word.nd rfl (Or.inl rfl) (pe_callTy WP.c_int1 (by rfl) B.b_int (by decide +kernel) (pa_cons (pv 2) pa_nil)))
      (pss_cons (ps_for PassesOwn.never rfl (pi_range1 rfl B.b_range (pa_cons (pv 0) pa_nil)) (pg_name (i := 5) sc__law_word.nd rfl (Or.inl rfl)) (pss_cons (ps_set (i := 3) sc__law_word.nd rfl (Or.inl rfl) (pe_op WP.op_addS (pv 3) (pe_ix ix_str (pv 1) (pe_op op_mod (pe_callTy WP.c_int1 (by rfl) B.b_int (by decide +kernel) (pa_cons (pv 4) pa_nil)) (pe_callB WP.c_len (by rfl) B.b_len (by decide +kernel) (pa_cons (pv 1) pa_nil))) (fun _ _ => rfl))))
      (pss_one (ps_set (i := 4) sc__law_word.nd rfl (Or.inl rfl) (pe_op op_fdivW (pv 4) (pe_callB WP.c_len (by rfl) B.b_len (by decide +kernel) (pa_cons (pv 1) pa_nil)))))))
      (pss_one (ps_ret (pv 3)))))), ?_⟩
    have hz : cs.length ≤ sizeLine := by rw [sizeLine_eq]; omega
    have hp : 0 < cs.length := List.length_pos_iff.mpr hne
    k_updF
    refine WP.intI ?_
    k_updF
    refine ⟨n, rfl, by omega, by omega, for_range (lo := 0) (n := n.toNat) (fun i σ' H' => H' = H ∧ ∃ (l : List Nat) (r : Int) (z : Option V), σ' = [some (.int n), some (.str (SX.S cs)), some (.int s0), some (.str (SX.S l)), some (.int r), z] ∧ l.length = i ∧ ∀ c ∈ l, c < 128) ⟨rfl, [], s0, none, rfl, rfl, by simp⟩ ?_ ?_⟩
    · rintro i σ' H' hi ⟨rfl, l, r, z, rfl, hll, hok⟩
      k_updF
      refine WP.intI ?_
      k_updF
      refine WP.lenS' hz ?_
      refine WP.iC (by omega) ?_
      have h0 := Int.emod_nonneg r (show (cs.length : Int) ≠ 0 by omega)
      have h1 := Int.emod_lt_of_pos r (show (0 : Int) < (cs.length : Int) by omega)
      obtain ⟨j, hj⟩ : ∃ j : Nat, r % (cs.length : Int) = (j : Int) := ⟨(r % (cs.length : Int)).toNat, by omega⟩
      rw [hj] at h0 h1 ⊢
      have hj2 : j < cs.length := by omega
      refine WP.ixS1 (atI_nat (List.getElem?_eq_getElem hj2)) hz ?_
      refine WP.catS ?_ (by rw [sizeLine_eq, hll]; show _ + 1 ≤ _; omega)
      k_updF
      refine WP.lenS' hz ?_
      refine WP.iC (WP.Bt.d' (b := 8) (by omega) (show (cs.length : Int).natAbs < 2 ^ 8 by omega)) ?_
      k_updF
      refine ⟨rfl, _, _, _, rfl, by rw [List.length_append, hll]; rfl, fun c hc => ?_⟩
      rcases List.mem_append.mp hc with e | e
      · exact hok c e
      · rw [List.mem_singleton.mp e]; exact hcs _ (List.getElem_mem hj2)
    · rintro σ' H' ⟨rfl, l, r, z, rfl, hll, hok⟩
      k_updF
      exact k l (by omega) hok
end
abbrev s__law_reserved : Stmt := top 19
abbrev N__law_reserved : List Str := ["text"]
theorem sc__law_reserved : FnScope N__law_reserved [] (defScope s__law_reserved) := ⟨rfl, rfl, rfl, by decide +kernel, rfl, by decide +kernel, by decide +kernel⟩
def sp__law_reserved (K : PySem.W.Frag) (mg : WP.MG) : Sp := fun vs H Q _ => vs = [] ∧ WP.RetL (MW.RES.map fun a => V.str (SX.S a)) H Q
section
variable {P : Program} {w : World} {K : PySem.W.Frag} {mg : Str → Option Value} {base : Heap}
theorem ok__law_reserved {f : Addr} {fd : FuncData} (F : Fun K "_law_reserved" "_law_reserved" s__law_reserved f fd) (B : Blt w K mg)  : FnOk P w K mg base CX0 1 f fd [] (sp__law_reserved K mg) := by
  refine F.ok sc__law_reserved (fun vs H Q E h => ?_) (fun cdv A outer s H vs Q E hr h => ?_)
  · first | (obtain ⟨_, rfl, _⟩ := h; rfl) | (obtain ⟨_, _, rfl, _⟩ := h; rfl) | (obtain ⟨_, _, _, rfl, _⟩ := h; rfl) | (obtain ⟨_, _, _, _, rfl, _⟩ := h; rfl) | (obtain ⟨_, _, _, _, _, rfl, _⟩ := h; rfl) | (obtain ⟨_, _, _, _, _, _, rfl, _⟩ := h; rfl) | (obtain ⟨_, _, _, _, _, _, _, rfl, _⟩ := h; rfl) | (obtain ⟨_, _, _, _, _, _, _, _, rfl, _⟩ := h; rfl) | (obtain ⟨rfl, _⟩ := h; rfl)
  · obtain ⟨rfl, k⟩ := h
    refine ⟨_, (pss_cons (ps_set (i := 0) sc__law_reserved.nd rfl (Or.inl rfl) (WP.pe_strL [112, 114, 111, 103, 114, 97, 109, 32, 100, 97, 116, 97, 32, 102, 105, 108, 101, 115, 32, 112, 114, 111, 99, 101, 100, 117, 114, 101, 32, 112, 105, 99, 116, 117, 114, 101, 32, 111, 99, 99, 117, 114, 115, 32, 118, 97, 108, 117, 101, 32, 105, 110, 112, 117, 116, 32, 111, 117, 116, 112, 117, 116, 32, 114, 101, 99, 111, 114, 100, 32, 109, 111, 118, 101, 32, 116, 111, 32, 115, 101, 116, 32, 114, 111, 117, 110, 100, 101, 100, 32, 101, 108, 115, 101, 32, 101, 110, 100, 32, 100, 105, 118, 105, 100, 101, 32, 98, 121] (by decide +kernel)))
      (pss_cons (ps_set (i := 0) sc__law_reserved.nd rfl (Or.inl rfl) (pe_op WP.op_addS (pv 0) (WP.pe_strL [32, 103, 105, 118, 105, 110, 103, 32, 114, 101, 109, 97, 105, 110, 100, 101, 114, 32, 105, 102, 32, 116, 104, 101, 110, 32, 112, 101, 114, 102, 111, 114, 109, 32, 116, 104, 114, 117, 32, 116, 105, 109, 101, 115, 32, 117, 110, 116, 105, 108, 32, 118, 97, 114, 121, 105, 110, 103, 32, 102, 114, 111, 109, 32, 114, 101, 97, 100, 32, 97, 116, 32, 98, 97, 100, 32, 119, 114, 105, 116, 101, 32, 115, 104, 111, 119, 32, 115, 111, 114, 116, 32, 100, 101, 115, 99, 101, 110, 100, 105, 110, 103] (by decide +kernel))))
      (pss_one (ps_ret (pe_bm PySem.F.plainAttrs_str PySem.F.slot_str_split PySem.F.type_str_split mt_split (pe_op WP.op_addS (pv 0) (WP.pe_strL [32, 99, 108, 101, 97, 114, 32, 115, 116, 111, 112, 32, 110, 111, 116, 32, 97, 110, 100, 32, 111, 114, 32, 100, 105, 103, 105, 116, 115, 32, 116, 101, 120, 116] (by decide +kernel))) (pa_cons (WP.pe_strL [32] (by decide +kernel)) pa_nil)))))), ?_⟩
    k_updF
    refine WP.catS ?_ (by rw [sizeLine_eq]; decide)
    k_updF
    refine WP.catS ?_ (by rw [sizeLine_eq]; decide)
    k_updF
    refine ⟨_, _, rfl, rfl, rfl, by rw [SX.S_len, sizeLine_eq]; decide, fun p hp => ?_⟩
    rw [SX.split_S (by decide) (by decide), show TL.spl [32] 0 [] _ = MW.RES by decide +kernel, List.map_map]
    exact k.new (Same.refl _) p hp
end
abbrev s__law_printable : Stmt := top 17
abbrev N__law_printable : List Str := ["chars"]
theorem sc__law_printable : FnScope N__law_printable [] (defScope s__law_printable) := ⟨rfl, rfl, rfl, by decide +kernel, rfl, by decide +kernel, by decide +kernel⟩
def sp__law_printable (K : PySem.W.Frag) (mg : WP.MG) : Sp := fun vs H Q _ => vs = [] ∧ Q (.str (SX.S (MW.PRN))) H
section
variable {P : Program} {w : World} {K : PySem.W.Frag} {mg : Str → Option Value} {base : Heap}
theorem ok__law_printable {f : Addr} {fd : FuncData} (F : Fun K "_law_printable" "_law_printable" s__law_printable f fd) (B : Blt w K mg)  : FnOk P w K mg base CX0 1 f fd [] (sp__law_printable K mg) := by
  refine F.ok sc__law_printable (fun vs H Q E h => ?_) (fun cdv A outer s H vs Q E hr h => ?_)
  · first | (obtain ⟨_, rfl, _⟩ := h; rfl) | (obtain ⟨_, _, rfl, _⟩ := h; rfl) | (obtain ⟨_, _, _, rfl, _⟩ := h; rfl) | (obtain ⟨_, _, _, _, rfl, _⟩ := h; rfl) | (obtain ⟨_, _, _, _, _, rfl, _⟩ := h; rfl) | (obtain ⟨_, _, _, _, _, _, rfl, _⟩ := h; rfl) | (obtain ⟨_, _, _, _, _, _, _, rfl, _⟩ := h; rfl) | (obtain ⟨_, _, _, _, _, _, _, _, rfl, _⟩ := h; rfl) | (obtain ⟨rfl, _⟩ := h; rfl)
  · obtain ⟨rfl, k⟩ := h
    refine ⟨_, (pss_cons (ps_set (i := 0) sc__law_printable.nd rfl (Or.inl rfl) (WP.pe_strL [32, 33, 34, 35, 36, 38, 39, 40, 41, 42, 43, 44, 45, 46, 47, 48, 49, 50, 51, 52, 53, 54, 55, 56, 57, 58, 59, 60, 61, 62, 63, 64, 65, 66, 67, 68, 69, 70, 71, 72, 73, 74, 75, 76, 77, 78, 79, 80, 81, 82, 83, 84, 85, 86, 87, 88, 89, 90, 91, 92, 93, 94, 95, 96] (by decide +kernel)))
      (pss_one (ps_ret (pe_op WP.op_addS (pv 0) (WP.pe_strL [97, 98, 99, 100, 101, 102, 103, 104, 105, 106, 107, 108, 109, 110, 111, 112, 113, 114, 115, 116, 117, 118, 119, 120, 121, 122, 123, 124, 125, 126] (by decide +kernel)))))), ?_⟩
    k_updF
    refine WP.catS ?_ (by rw [sizeLine_eq]; decide)
    exact k
end
abbrev s__law_built : Stmt := top 20
abbrev N__law_built : List Str := ["rich", "choice", "rest", "word", "sets", "odd", "at"]
theorem sc__law_built : FnScope N__law_built ["rich"] (defScope s__law_built) := ⟨rfl, rfl, rfl, by decide +kernel, rfl, by decide +kernel, by decide +kernel⟩
def sp__law_built (K : PySem.W.Frag) (mg : WP.MG) : Sp := fun vs H Q _ => ∃ r : Int, vs = [.int r] ∧ ∀ (v : V) (H' : Hp), Same H H' → MW.Wd K H' v → Q v H'
section
variable {P : Program} {w : World} {K : PySem.W.Frag} {mg : Str → Option Value} {base : Heap}
theorem ok__law_built {f : Addr} {fd : FuncData} (F : Fun K "_law_built" "_law_built" s__law_built f fd) (B : Blt w K mg) (c__law_word : WP.Callee P w K mg base CX0 1 "_law_word" ["size", "chars", "seed"] (sp__law_word K mg)) (c__law_reserved : WP.Callee P w K mg base CX0 1 "_law_reserved" [] (sp__law_reserved K mg)) (c__law_printable : WP.Callee P w K mg base CX0 1 "_law_printable" [] (sp__law_printable K mg)) : FnOk P w K mg base CX0 2 f fd ["rich"] (sp__law_built K mg) := by
  refine F.ok sc__law_built (fun vs H Q E h => ?_) (fun cdv A outer s H vs Q E hr h => ?_)
  · first | (obtain ⟨_, rfl, _⟩ := h; rfl) | (obtain ⟨_, _, rfl, _⟩ := h; rfl) | (obtain ⟨_, _, _, rfl, _⟩ := h; rfl) | (obtain ⟨_, _, _, _, rfl, _⟩ := h; rfl) | (obtain ⟨_, _, _, _, _, rfl, _⟩ := h; rfl) | (obtain ⟨_, _, _, _, _, _, rfl, _⟩ := h; rfl) | (obtain ⟨_, _, _, _, _, _, _, rfl, _⟩ := h; rfl) | (obtain ⟨_, _, _, _, _, _, _, _, rfl, _⟩ := h; rfl) | (obtain ⟨rfl, _⟩ := h; rfl)
  · obtain ⟨r, rfl, k⟩ := h
    refine ⟨_, (pss_cons (ps_set (i := 1) sc__law_built.nd rfl (Or.inl rfl) (pe_op op_mod (pv 0) pe_int))
      (pss_cons (ps_set (i := 2) sc__law_built.nd rfl (Or.inl rfl) (pe_op op_fdiv (pv 0) pe_int))
      (pss_cons (ps_if (pt_cmpR op_eq (pv 1) pe_int (nomark _)) (pss_one (ps_ret (pe_ix ix_list (pe_lst (pa_cons pe_non (pa_cons pe_int (pa_cons pe_int (pa_cons pe_bl (pa_cons (pe_tup (pa_cons (WP.pe_strL [97] (by decide +kernel)) pa_nil)) (pa_cons (pe_lst pa_nil) pa_nil))))))) (pe_op op_mod (pv 2) pe_int) (fun _ _ => rfl)))) pss_nil)
      (pss_cons (ps_if (pt_cmpR op_eq (pv 1) pe_int (nomark _)) (pss_cons (ps_set (i := 3) sc__law_built.nd rfl (Or.inl rfl) (pe_ix ix_list (WP.pe_callC0 c__law_reserved hr rfl pass0) (pe_op op_mod (pv 2) pe_int) (fun _ _ => rfl)))
      (pss_one (ps_ret (pe_op WP.op_addS (pv 3) (pe_ix ix_list (pe_lst (pa_cons (WP.pe_strL [] (by decide +kernel)) (pa_cons (WP.pe_strL [] (by decide +kernel)) (pa_cons (WP.pe_strL [115] (by decide +kernel)) (pa_cons (WP.pe_strL [45, 97] (by decide +kernel)) pa_nil))))) (pe_op op_mod (pe_op op_fdiv (pv 2) pe_int) pe_int) (fun _ _ => rfl)))))) pss_nil)
      (pss_cons (ps_set (i := 4) sc__law_built.nd rfl (Or.inl rfl) (pe_lst (pa_cons (WP.pe_strL [97, 98, 99, 122] (by decide +kernel)) (pa_cons (WP.pe_strL [48, 49, 50, 51, 52, 53, 54, 55, 56, 57] (by decide +kernel)) (pa_cons (WP.pe_strL [97, 98, 48, 57, 45] (by decide +kernel)) (pa_cons (WP.pe_strL [97, 98, 99, 100, 101, 102, 103, 104, 105, 106, 107, 108, 109, 110, 111, 112, 113, 114, 115, 116, 117, 118, 119, 120, 121, 122, 48, 49, 50, 51, 52, 53, 54, 55, 56, 57, 45] (by decide +kernel)) pa_nil))))))
      (pss_cons (ps_set (i := 3) sc__law_built.nd rfl (Or.inl rfl) (WP.pe_callC c__law_word hr rfl pass0 (pa_cons (pe_op op_mod (pv 2) pe_int) (pa_cons (pe_ix ix_list (pv 4) (pe_op op_mod (pe_op op_fdiv (pv 2) pe_int) pe_int) (fun _ _ => rfl)) (pa_cons (pe_op op_fdiv (pv 2) pe_int) pa_nil)))))
      (Evl.pss_cut (ps_if (PW.pt (pw_and (pt_cmpR op_lt (pv 1) pe_int (nomark _)) (pw_and1 (pt_cmpR op_gt (pe_callB WP.c_len (by rfl) B.b_len (by decide +kernel) (pa_cons (pv 3) pa_nil)) pe_int (nomark _))))) (pss_cons (ps_set (i := 5) sc__law_built.nd rfl (Or.inl rfl) (pe_op WP.op_addS (WP.pe_callC0 c__law_printable hr rfl pass0) (WP.pe_strL [10, 9] (by decide +kernel))))
      (pss_cons (ps_set (i := 6) sc__law_built.nd rfl (Or.inl rfl) (pe_op op_mod (pe_op op_fdiv (pv 2) pe_int) (pe_callB WP.c_len (by rfl) B.b_len (by decide +kernel) (pa_cons (pv 3) pa_nil))))
      (pss_one (ps_set (i := 3) sc__law_built.nd rfl (Or.inl rfl) (pe_op WP.op_addS (pe_op WP.op_addS (pe_slice sl_str (pv 3) po_none (po_some (pv 6))) (pe_ix ix_str (pv 5) (pe_op op_mod (pe_op op_fdiv (pv 2) pe_int) (pe_callB WP.c_len (by rfl) B.b_len (by decide +kernel) (pa_cons (pv 5) pa_nil))) (fun _ _ => rfl))) (pe_slice sl_str (pv 3) (po_some (pe_op op_add (pv 6) pe_int)) po_none)))))) pss_nil)
      (pss_one (ps_ret (pv 3)))))))))), ?_⟩
    k_updF
    refine WP.iC (by decide) ?_
    k_updF
    refine WP.iC ⟨by decide, by decide⟩ ?_
    k_updF
    generalize r / 10 = rest
    refine WP.br (fun c => ?_) (fun c => ?_)
    · k_updF
      refine ⟨WP.sz (show 1 ≤ 1000000 by decide), fun T hT => ?_⟩
      k_updF
      refine ⟨WP.sz (show 0 ≤ 1000000 by decide), fun L hL => ?_⟩
      k_updF
      refine ⟨WP.sz (show 6 ≤ 1000000 by decide), fun M hM => ?_⟩
      k_updF
      refine WP.iC (by decide) ?_
      have h0 := Int.emod_nonneg rest (show (6 : Int) ≠ 0 by decide)
      have h1 := Int.emod_lt_of_pos rest (show (0 : Int) < 6 by decide)
      obtain ⟨j, hj⟩ : ∃ j : Nat, rest % 6 = (j : Int) := ⟨(rest % 6).toNat, by omega⟩
      rw [hj] at h0 h1 ⊢
      have e1 : Same H (upd H T (.tup [.str (SX.S [97])])) := WP.same_new hT
      have tp : SqT K (upd H T (.tup [.str (SX.S [97])])) T [.str (SX.S [97])] := SqT.of upd_same
      generalize upd H T (.tup [.str (SX.S [97])]) = H1 at *
      have e2 : Same H1 (upd H1 L (.lst [])) := WP.same_new hL
      have tl : SqL K (upd H1 L (.lst [])) L [] := SqL.of upd_same
      have tp := WP.sqt e2 tp
      generalize upd H1 L (.lst []) = H2 at *
      have e3 : Same H2 (upd H2 M (.lst [.non, .int 0, .int 12, .bl true, .ref T, .ref L])) := WP.same_new hM
      have tm : SqL K (upd H2 M (.lst [.non, .int 0, .int 12, .bl true, .ref T, .ref L])) M [.non, .int 0, .int 12, .bl true, .ref T, .ref L] := SqL.of upd_same
      have tp := WP.sqt e3 tp
      have tl := WP.sql e3 tl
      generalize upd H2 M (.lst [.non, .int 0, .int 12, .bl true, .ref T, .ref L]) = H3 at *
      have e := e1.trans (e2.trans e3)
      have hj6 : j < 6 := by omega
      have key : ∀ v : V, ([.non, .int 0, .int 12, .bl true, .ref T, .ref L] : List V)[j]? = some v → MW.Wd K H3 v := fun v hv => by
        match j, hj6, hv with
        | 0, _, hv => cases hv; exact .non
        | 1, _, hv => cases hv; exact .int _
        | 2, _, hv => cases hv; exact .int _
        | 3, _, hv => cases hv; exact .bl _
        | 4, _, hv => cases hv; exact .tup tp
        | 5, _, hv => cases hv; exact .lst tl
      have hg : ([.non, .int 0, .int 12, .bl true, .ref T, .ref L] : List V)[j]? = some (([.non, .int 0, .int 12, .bl true, .ref T, .ref L] : List V)[j]'hj6) := List.getElem?_eq_getElem hj6
      exact WP.ixL tm (atI_nat hg) (k _ _ e (key _ hg))
    k_updF
    refine WP.br (fun c1 => ?_) (fun c1 => ?_)
    · k_updF
      refine ⟨rfl, fun p H1 hp e1 hL => ?_⟩
      k_updF
      refine WP.iC (by decide) ?_
      obtain ⟨a, ha, ea⟩ := WP.at_S (ls := MW.RES) (Int.emod_nonneg rest (show (42 : Int) ≠ 0 by decide)) (Int.emod_lt_of_pos rest (show (0 : Int) < 42 by decide))
      refine WP.ixL (SqL.of hL) ea ?_
      have hw := (show ∀ a ∈ MW.RES, a.length ≤ 20 ∧ ∀ c ∈ a, c < 128 by decide) a ha
      clear ea ha
      k_updF
      refine ⟨WP.sz (show 4 ≤ 1000000 by decide), fun L hL2 => ?_⟩
      k_updF
      refine WP.iC ⟨by decide, by decide⟩ ?_
      k_updF
      refine WP.iC (by decide) ?_
      obtain ⟨b, hb, eb⟩ := WP.at_S (ls := [[], [], [115], [45, 97]]) (Int.emod_nonneg (rest / 42) (show (4 : Int) ≠ 0 by decide)) (Int.emod_lt_of_pos (rest / 42) (show (0 : Int) < 4 by decide))
      refine WP.ixL (SqL.of upd_same) eb ?_
      have hv := (show ∀ a ∈ [[], [], [115], [45, 97]], a.length ≤ 20 ∧ ∀ c ∈ a, c < 128 by decide) b hb
      refine WP.catS ?_ (by rw [sizeLine_eq]; omega)
      refine k _ _ (e1.trans (WP.same_new hL2)) (.str (by rw [List.length_append]; omega) fun c hc => ?_)
      rcases List.mem_append.mp hc with z | z
      · exact hw.2 c z
      · exact hv.2 c z
    k_updF
    refine ⟨WP.sz (show 4 ≤ 1000000 by decide), fun L hL => ?_⟩
    k_updF
    refine WP.iC (by decide) ?_
    k_updF
    refine WP.iC ⟨by decide, by decide⟩ ?_
    k_updF
    refine WP.iC (by decide) ?_
    obtain ⟨a, ha, ea⟩ := WP.at_S (ls := [[97, 98, 99, 122], [48, 49, 50, 51, 52, 53, 54, 55, 56, 57], [97, 98, 48, 57, 45], [97, 98, 99, 100, 101, 102, 103, 104, 105, 106, 107, 108, 109, 110, 111, 112, 113, 114, 115, 116, 117, 118, 119, 120, 121, 122, 48, 49, 50, 51, 52, 53, 54, 55, 56, 57, 45]]) (Int.emod_nonneg (rest / 24) (show (4 : Int) ≠ 0 by decide)) (Int.emod_lt_of_pos (rest / 24) (show (0 : Int) < 4 by decide))
    refine WP.ixL (SqL.of upd_same) ea ?_
    have hw := (show ∀ a ∈ [[97, 98, 99, 122], [48, 49, 50, 51, 52, 53, 54, 55, 56, 57], [97, 98, 48, 57, 45], [97, 98, 99, 100, 101, 102, 103, 104, 105, 106, 107, 108, 109, 110, 111, 112, 113, 114, 115, 116, 117, 118, 119, 120, 121, 122, 48, 49, 50, 51, 52, 53, 54, 55, 56, 57, 45]], a ≠ [] ∧ a.length ≤ 100 ∧ ∀ c ∈ a, c < 128 by decide) a ha
    clear ea ha
    generalize hH : upd H L _ = H1
    have e1 : Same H H1 := by rw [← hH]; exact WP.same_new hL
    clear hH
    k_updF
    refine WP.iC ⟨by decide, by decide⟩ ?_
    k_updF
    refine ⟨_, a, _, rfl, Int.emod_nonneg rest (show (24 : Int) ≠ 0 by decide), by have := Int.emod_lt_of_pos rest (show (0 : Int) < 24 by decide); omega, hw.1, hw.2.1, hw.2.2, fun l hl hok => ?_⟩
    k_updF
    have hz : l.length ≤ sizeLine := by rw [sizeLine_eq]; omega
    refine WP.cut (fun σ' H' => H' = H1 ∧ ∃ (l : List Nat) (z1 z2 z3 z4 z5 z6 : Option V), σ' = [some (.int r), z1, z2, some (.str (SX.S l)), z3, z4, z5] ∧ l.length ≤ 100 ∧ ∀ c ∈ l, c < 128) ?_ ?_
    rotate_left
    · rintro σ' H' ⟨rfl, l, z1, z2, z3, z4, z5, z6, rfl, hl, hok⟩
      k_updF
      exact k _ _ e1 (.str (by omega) hok)
    k_updF
    refine WP.br (fun c2 => ?_) (fun c2 => ?_)
    rotate_left
    · refine WP.brF rfl ?_
      k_updF
      exact ⟨rfl, l, _, _, _, _, _, none, rfl, by omega, hok⟩
    k_updF
    refine WP.lenS' hz ?_
    k_updF
    refine WP.br (fun c3 => ?_) (fun c3 => ?_)
    rotate_left
    · k_updF
      exact ⟨rfl, l, _, _, _, _, _, none, rfl, by omega, hok⟩
    k_updF
    refine ⟨rfl, ?_⟩
    k_updF
    refine WP.catS (a := MW.PRN) (b := [10, 9]) ?_ (by rw [sizeLine_eq]; decide)
    k_updF
    refine WP.iC ⟨by decide, by decide⟩ ?_
    k_updF
    refine WP.lenS' hz ?_
    refine WP.iC (by omega) ?_
    have h0 := Int.emod_nonneg (rest / 24) (show (l.length : Int) ≠ 0 by omega)
    have h1 := Int.emod_lt_of_pos (rest / 24) (show (0 : Int) < (l.length : Int) by omega)
    obtain ⟨at0, hat⟩ : ∃ j : Nat, rest / 24 % (l.length : Int) = (j : Int) := ⟨(rest / 24 % (l.length : Int)).toNat, by omega⟩
    rw [hat] at h0 h1 ⊢
    have hO : (MW.PRN ++ [10, 9]).length = 96 := by decide
    have hOc : ∀ c ∈ MW.PRN ++ [10, 9], c < 128 := by decide
    generalize MW.PRN ++ [10, 9] = od at hO hOc ⊢
    k_updF
    refine WP.slTo (by omega) hz ?_
    k_updF
    refine WP.iC ⟨by decide, by decide⟩ ?_
    k_updF
    refine WP.lenS' (by rw [sizeLine_eq]; omega) ?_
    refine WP.iC (by omega) ?_
    have o0 := Int.emod_nonneg (rest / 500) (show (od.length : Int) ≠ 0 by omega)
    have o1 := Int.emod_lt_of_pos (rest / 500) (show (0 : Int) < (od.length : Int) by omega)
    obtain ⟨j, hj⟩ : ∃ j : Nat, rest / 500 % (od.length : Int) = (j : Int) := ⟨(rest / 500 % (od.length : Int)).toNat, by omega⟩
    rw [hj] at o0 o1 ⊢
    have hj2 : j < od.length := by omega
    refine WP.ixS1 (atI_nat (List.getElem?_eq_getElem hj2)) (by rw [sizeLine_eq]; omega) ?_
    have hcj := hOc _ (List.getElem_mem hj2)
    generalize od[j] = cj at hcj ⊢
    refine WP.catS ?_ (by rw [sizeLine_eq, List.length_take]; show _ + 1 ≤ _; omega)
    k_updF
    refine WP.slFrom (by omega) hz ?_
    refine WP.catS ?_ (by rw [sizeLine_eq, List.length_append, List.length_take, List.length_drop]; show _ + 1 + _ ≤ _; omega)
    k_updF
    refine ⟨rfl, _, _, _, _, _, _, none, rfl, by rw [List.length_append, List.length_append, List.length_take, List.length_drop]; show _ + 1 + _ ≤ _; omega, fun c hc => ?_⟩
    rcases List.mem_append.mp hc with e | e
    · rcases List.mem_append.mp e with e | e
      · exact hok c (List.mem_of_mem_take e)
      · rw [List.mem_singleton.mp e]; exact hcj
    · exact hok c (List.mem_of_mem_drop e)
end
abbrev s__law_cell : Stmt := top 14
abbrev N__law_cell : List Str := ["script", "k"]
theorem sc__law_cell : FnScope N__law_cell ["script", "k"] (defScope s__law_cell) := ⟨rfl, rfl, rfl, by decide +kernel, rfl, by decide +kernel, by decide +kernel⟩
def sp__law_cell (K : PySem.W.Frag) (mg : WP.MG) : Sp := fun vs H Q _ => ∃ (a : Addr) (ns : List Int) (k : Int), vs = [.ref a, .int k] ∧ SqL K H a (ns.map V.int) ∧ 0 ≤ k ∧ ∀ c : Int, Q (.int c) H
section
variable {P : Program} {w : World} {K : PySem.W.Frag} {mg : Str → Option Value} {base : Heap}
theorem ok__law_cell {f : Addr} {fd : FuncData} (F : Fun K "_law_cell" "_law_cell" s__law_cell f fd) (B : Blt w K mg)  : FnOk P w K mg base CX0 1 f fd ["script", "k"] (sp__law_cell K mg) := by
  refine F.ok sc__law_cell (fun vs H Q E h => ?_) (fun cdv A outer s H vs Q E hr h => ?_)
  · first | (obtain ⟨_, rfl, _⟩ := h; rfl) | (obtain ⟨_, _, rfl, _⟩ := h; rfl) | (obtain ⟨_, _, _, rfl, _⟩ := h; rfl) | (obtain ⟨_, _, _, _, rfl, _⟩ := h; rfl) | (obtain ⟨_, _, _, _, _, rfl, _⟩ := h; rfl) | (obtain ⟨_, _, _, _, _, _, rfl, _⟩ := h; rfl) | (obtain ⟨_, _, _, _, _, _, _, rfl, _⟩ := h; rfl) | (obtain ⟨_, _, _, _, _, _, _, _, rfl, _⟩ := h; rfl) | (obtain ⟨rfl, _⟩ := h; rfl)
  · obtain ⟨a, ns, i, rfl, ha, hi, k⟩ := h
    refine ⟨_, (pss_cons (ps_if (pt_cmpR op_lt (pv 1) (pe_callB WP.c_len (by rfl) B.b_len (by decide +kernel) (pa_cons (pv 0) pa_nil)) (nomark _)) (pss_one (ps_ret (pe_callTy WP.c_int1 (by rfl) B.b_int (by decide +kernel) (pa_cons (pe_ix ix_list (pv 0) (pv 1) (fun _ _ => rfl)) pa_nil)))) pss_nil)
      (pss_one (ps_ret pe_int))), ?_⟩
    k_updF
    refine WP.lenL ha ?_
    k_updF
    refine WP.br (fun c => ?_) (fun c => ?_)
    · k_updF
      rw [List.length_map] at c
      refine WP.ixL ha (WP.at_ints hi c) ?_
      k_updF
      exact WP.intI (k _)
    · k_updF
      exact k 0
end
abbrev s__law_same : Stmt := top 22
abbrev N__law_same : List Str := ["actual", "due"]
theorem sc__law_same : FnScope N__law_same ["actual", "due"] (defScope s__law_same) := ⟨rfl, rfl, rfl, by decide +kernel, rfl, by decide +kernel, by decide +kernel⟩
def sp__law_same (K : PySem.W.Frag) (mg : WP.MG) : Sp := fun vs H Q _ => ∃ a b : Bool, vs = [.bl a, .bl b] ∧ Q (.bl (a == b)) H
section
variable {P : Program} {w : World} {K : PySem.W.Frag} {mg : Str → Option Value} {base : Heap}
theorem ok__law_same {f : Addr} {fd : FuncData} (F : Fun K "_law_same" "_law_same" s__law_same f fd) (B : Blt w K mg)  : FnOk P w K mg base CX0 1 f fd ["actual", "due"] (sp__law_same K mg) := by
  refine F.ok sc__law_same (fun vs H Q E h => ?_) (fun cdv A outer s H vs Q E hr h => ?_)
  · first | (obtain ⟨_, rfl, _⟩ := h; rfl) | (obtain ⟨_, _, rfl, _⟩ := h; rfl) | (obtain ⟨_, _, _, rfl, _⟩ := h; rfl) | (obtain ⟨_, _, _, _, rfl, _⟩ := h; rfl) | (obtain ⟨_, _, _, _, _, rfl, _⟩ := h; rfl) | (obtain ⟨_, _, _, _, _, _, rfl, _⟩ := h; rfl) | (obtain ⟨_, _, _, _, _, _, _, rfl, _⟩ := h; rfl) | (obtain ⟨_, _, _, _, _, _, _, _, rfl, _⟩ := h; rfl) | (obtain ⟨rfl, _⟩ := h; rfl)
  · obtain ⟨a, b, rfl, k⟩ := h
    refine ⟨_, (pss_one (ps_ret (pe_and (pe_callB call_isi (by rfl) B.b_isinstance (by decide +kernel) (pa_cons (pv 0) (pa_cons (pe_bltn (v := .ty "bool") rfl B.b_bool (by decide +kernel) rfl) pa_nil))) (pe_one (pe_cmpR op_eq (pv 0) (pv 1) (nomark _)))))), ?_⟩
    k_updF
    refine WP.isY (.base (.bl a)) ?_
    k_updF
    refine WP.brT rfl ?_
    k_updF
    have e : (a == b) = decide (a = b) := by cases a <;> cases b <;> rfl
    rw [e] at k
    exact k
end
abbrev s__has_only : Stmt := top 12
abbrev N__has_only : List Str := ["text", "characters"]
theorem sc__has_only : FnScope N__has_only ["text", "characters"] (defScope s__has_only) := ⟨rfl, rfl, rfl, by decide +kernel, rfl, by decide +kernel, by decide +kernel⟩
def sp__has_only (K : PySem.W.Frag) (mg : WP.MG) : Sp := fun vs H Q _ => ∃ l cs : List Nat, vs = [.str (SX.S l), .str (SX.S cs)] ∧ GxR.TabG H (WP.tbl K "_has_only") ∧ WP.MetV (.bl (MW.allIn l cs)) H Q
section
variable {P : Program} {w : World} {K : PySem.W.Frag} {mg : Str → Option Value} {base : Heap}
theorem ok__has_only {f : Addr} {fd : FuncData} (F : WP.FunC K "_has_only" "_has_only" s__has_only f fd (WP.cod K "_has_only")) (T : GxR.TabB base mg (WP.cod K "_has_only") (WP.tbl K "_has_only")) (B : Blt w K mg)  : FnOk P w K mg base CX0 1 f fd ["text", "characters"] (sp__has_only K mg) := by
  refine F.ok sc__has_only (fun vs H Q E h => ?_) (fun A outer s H vs Q E hr h => ?_)
  · first | (obtain ⟨_, rfl, _⟩ := h; rfl) | (obtain ⟨_, _, rfl, _⟩ := h; rfl) | (obtain ⟨_, _, _, rfl, _⟩ := h; rfl) | (obtain ⟨_, _, _, _, rfl, _⟩ := h; rfl) | (obtain ⟨_, _, _, _, _, rfl, _⟩ := h; rfl) | (obtain ⟨_, _, _, _, _, _, rfl, _⟩ := h; rfl) | (obtain ⟨_, _, _, _, _, _, _, rfl, _⟩ := h; rfl) | (obtain ⟨_, _, _, _, _, _, _, _, rfl, _⟩ := h; rfl) | (obtain ⟨rfl, _⟩ := h; rfl)
  · obtain ⟨l, cs, rfl, hT, k⟩ := h
    refine ⟨_, (pss_one (ps_ret (WP.pe_allC (i := 1) hr rfl B.b_all rfl T rfl (WP.gsc_by (sc := defScope s__has_only) (by decide +kernel)) (pv 0) rfl rfl (by decide) rfl (fun _ => rfl)))), ?_⟩
    k_updF
    refine WP.var rfl ⟨hT, SX.S l, SX.S cs, rfl, rfl, fun H2 h2 => ?_⟩
    exact k _ (.tab hT h2)
end
abbrev s_is_name : Stmt := top 11
abbrev N_is_name : List Str := ["value"]
theorem sc_is_name : FnScope N_is_name ["value"] (defScope s_is_name) := ⟨rfl, rfl, rfl, by decide +kernel, rfl, by decide +kernel, by decide +kernel⟩
def sp_is_name (K : PySem.W.Frag) (mg : WP.MG) : Sp := fun vs H Q _ => ∃ v : V, vs = [v] ∧ MW.Wd K H v ∧ GxR.TabG H (WP.tbl K "_has_only") ∧ WP.MetV (.bl (MW.onS MW.nameB v)) H Q
section
variable {P : Program} {w : World} {K : PySem.W.Frag} {mg : Str → Option Value} {base : Heap}
theorem ok_is_name {f : Addr} {fd : FuncData} (F : Fun K "is_name" "is_name" s_is_name f fd) (B : Blt w K mg) (c__has_only : WP.Callee P w K mg base CX0 1 "_has_only" ["text", "characters"] (sp__has_only K mg)) : FnOk P w K mg base CX0 2 f fd ["value"] (sp_is_name K mg) := by
  refine F.ok sc_is_name (fun vs H Q E h => ?_) (fun cdv A outer s H vs Q E hr h => ?_)
  · first | (obtain ⟨_, rfl, _⟩ := h; rfl) | (obtain ⟨_, _, rfl, _⟩ := h; rfl) | (obtain ⟨_, _, _, rfl, _⟩ := h; rfl) | (obtain ⟨_, _, _, _, rfl, _⟩ := h; rfl) | (obtain ⟨_, _, _, _, _, rfl, _⟩ := h; rfl) | (obtain ⟨_, _, _, _, _, _, rfl, _⟩ := h; rfl) | (obtain ⟨_, _, _, _, _, _, _, rfl, _⟩ := h; rfl) | (obtain ⟨_, _, _, _, _, _, _, _, rfl, _⟩ := h; rfl) | (obtain ⟨rfl, _⟩ := h; rfl)
  · obtain ⟨v, rfl, hw, hT, k⟩ := h
    refine ⟨_, (pss_cons (ps_if (PW.pt (pw_or (pt_not (pt_val (pe_callB call_isi (by rfl) B.b_isinstance (by decide +kernel) (pa_cons (pv 0) (pa_cons (pe_bltn (v := .ty "str") rfl B.b_str (by decide +kernel) rfl) pa_nil))))) (pw_or1 (pt_not (pt_chain op_le op_le pe_int (pe_callB WP.c_len (by rfl) B.b_len (by decide +kernel) (pa_cons (pv 0) pa_nil)) (WP.pe_const rfl B.c_MOST_NAME)))))) (pss_one (ps_ret pe_bl)) pss_nil)
      (pss_cons (ps_if (PW.pt (pw_or (pt_cmpR WP.op_notInSign (pe_ix ix_str (pv 0) pe_int (fun _ _ => rfl)) (WP.pe_const rfl B.c_LETTERS) rfl) (pw_or (pt_cmpR op_eq (pe_ix ix_str (pv 0) (pe_un un_neg pe_int) (fun _ _ => rfl)) (WP.pe_strL [45] (by decide +kernel)) (nomark _)) (pw_or1 (pt_cmpR op_in_seq (pv 0) (WP.pe_ktup rfl B.c_RESERVED) rfl))))) (pss_one (ps_ret pe_bl)) pss_nil)
      (pss_one (ps_ret (WP.pe_callC c__has_only hr rfl pass0 (pa_cons (pv 0) (pa_cons (pe_op WP.op_addS (pe_op WP.op_addS (WP.pe_const rfl B.c_LETTERS) (WP.pe_const rfl B.c_FIGURES)) (WP.pe_strL [45] (by decide +kernel))) pa_nil))))))), ?_⟩
    k_updF
    refine hw.isStr ?_
    k_updF
    rcases hw.cases with ⟨l, rfl, hl, ok⟩ | ⟨e1, e2⟩
    · refine WP.brF rfl ?_
      rw [MW.onS_S] at k
      have hz : l.length ≤ sizeLine := by rw [sizeLine_eq]; omega
      refine WP.chain ?_
      k_updF
      refine WP.lenS' hz ?_
      k_updF
      have hout : ¬ (1 ≤ l.length ∧ l.length ≤ 20) → Q (.bl false) H := fun c => by
        have e : MW.nameB l = false := by unfold MW.nameB; rw [decide_eq_false c]; rfl
        rw [e] at k
        exact k _ (.refl _)
      refine WP.br (fun c1 => ?_) (fun c1 => ?_)
      · k_updF
        cases c2 : decide ((l.length : Int) ≤ 20) with
        | false =>
          refine WP.brT rfl ?_
          k_updF
          have := of_decide_eq_false c2
          exact hout (fun z => by omega)
        | true =>
          refine WP.brF rfl ?_
          have c2 := of_decide_eq_true c2
          obtain ⟨a0, a1⟩ := MW.ends (l := l) (by omega)
          have e : MW.nameB l = (!decide (l ∈ MW.RES) && (decide (l.headD 0 ∈ MW.LET) && (!decide ((l.getLast?).getD 0 = 45) && MW.allIn l (MW.LET ++ MW.FIG ++ [45])))) := by unfold MW.nameB; rw [decide_eq_true ⟨by omega, by omega⟩]; rfl
          rw [e] at k
          generalize l.headD 0 = c0 at a0 k
          generalize (l.getLast?).getD 0 = c1 at a1 k
          k_updF
          refine WP.ixS1 a0 hz ?_
          k_updF
          refine WP.notInSign ?_
          k_updF
          refine WP.brN (fun d => ?_) (fun d => ?_)
          · refine WP.brT rfl ?_
            k_updF
            rw [show decide (c0 ∈ MW.LET) = false from decide_eq_false d, Bool.false_and, Bool.and_false] at k
            exact k _ (.refl _)
          · rw [show decide (c0 ∈ MW.LET) = true from decide_eq_true d, Bool.true_and] at k
            k_updF
            refine WP.ixS1 a1 hz ?_
            k_updF
            rw [show decide ([c1] = [45]) = decide (c1 = 45) by congr 1; exact propext ⟨fun z => by simpa using z, fun z => by rw [z]⟩]
            refine WP.br (fun d => ?_) (fun d => ?_)
            · refine WP.brT rfl ?_
              k_updF
              rw [show decide (c1 = 45) = true from decide_eq_true d, Bool.not_true, Bool.false_and, Bool.and_false] at k
              exact k _ (.refl _)
            · rw [show decide (c1 = 45) = false from decide_eq_false d, Bool.not_false, Bool.true_and] at k
              k_updF
              refine WP.inT MW.RES (B.c_RESERVED.s _) rfl ?_
              k_updF
              refine WP.br (fun d => ?_) (fun d => ?_)
              · k_updF
                rw [show decide (l ∈ MW.RES) = true from decide_eq_true d, Bool.not_true, Bool.false_and] at k
                exact k _ (.refl _)
              · rw [show decide (l ∈ MW.RES) = false from decide_eq_false d, Bool.not_false, Bool.true_and] at k
                k_updF
                refine WP.catS ?_ (by rw [sizeLine_eq]; decide)
                k_updF
                refine WP.catS ?_ (by rw [sizeLine_eq]; decide)
                k_updF
                exact ⟨l, _, rfl, hT, k⟩
      · k_updF
        refine WP.brT rfl ?_
        k_updF
        exact hout (fun z => by omega)
    · rw [e1]
      rw [e2] at k
      refine WP.brT rfl ?_
      k_updF
      exact k _ (.refl _)
end
abbrev s__law_all_in : Stmt := top 18
abbrev N__law_all_in : List Str := ["word", "chars", "char"]
theorem sc__law_all_in : FnScope N__law_all_in ["word", "chars"] (defScope s__law_all_in) := ⟨rfl, rfl, rfl, by decide +kernel, rfl, by decide +kernel, by decide +kernel⟩
def sp__law_all_in (K : PySem.W.Frag) (mg : WP.MG) : Sp := fun vs H Q _ => ∃ l cs : List Nat, vs = [.str (SX.S l), .str (SX.S cs)] ∧ Q (.bl (MW.allIn l cs)) H
section
variable {P : Program} {w : World} {K : PySem.W.Frag} {mg : Str → Option Value} {base : Heap}
theorem ok__law_all_in {f : Addr} {fd : FuncData} (F : Fun K "_law_all_in" "_law_all_in" s__law_all_in f fd) (B : Blt w K mg)  : FnOk P w K mg base CX0 1 f fd ["word", "chars"] (sp__law_all_in K mg) := by
  refine F.ok sc__law_all_in (fun vs H Q E h => ?_) (fun cdv A outer s H vs Q E hr h => ?_)
  · first | (obtain ⟨_, rfl, _⟩ := h; rfl) | (obtain ⟨_, _, rfl, _⟩ := h; rfl) | (obtain ⟨_, _, _, rfl, _⟩ := h; rfl) | (obtain ⟨_, _, _, _, rfl, _⟩ := h; rfl) | (obtain ⟨_, _, _, _, _, rfl, _⟩ := h; rfl) | (obtain ⟨_, _, _, _, _, _, rfl, _⟩ := h; rfl) | (obtain ⟨_, _, _, _, _, _, _, rfl, _⟩ := h; rfl) | (obtain ⟨_, _, _, _, _, _, _, _, rfl, _⟩ := h; rfl) | (obtain ⟨rfl, _⟩ := h; rfl)
  · obtain ⟨l, cs, rfl, k⟩ := h
    refine ⟨_, (pss_cons (ps_for PassesOwn.never rfl (pi_str (pv 0)) (pg_name (i := 2) sc__law_all_in.nd rfl (Or.inl rfl)) (pss_one (ps_if (pt_cmpR WP.op_notInSign (pv 2) (pv 1) rfl) (pss_one (ps_ret pe_bl)) pss_nil)))
      (pss_one (ps_ret pe_bl))), ?_⟩
    k_updF
    refine ⟨_, rfl, WP.for_txt (fun i σ' H' => H' = H ∧ ∃ z, σ' = [some (.str (SX.S l)), some (.str (SX.S cs)), z] ∧ MW.allIn l cs = MW.allIn (l.drop i) cs) ⟨rfl, none, rfl, rfl⟩ ?_ ?_⟩
    · rintro i c σ' H' hc ⟨rfl, z, rfl, e⟩
      have ed : l.drop i = c :: l.drop (i + 1) := by
        obtain ⟨hi, e⟩ := List.getElem?_eq_some_iff.mp hc
        rw [List.drop_eq_getElem_cons hi, e]
      rw [ed] at e
      have e2 : MW.allIn (c :: l.drop (i + 1)) cs = (decide (c ∈ cs) && MW.allIn (l.drop (i + 1)) cs) := rfl
      rw [e2] at e
      k_updF
      refine WP.notInSign ?_
      k_updF
      refine WP.brN (fun d => ?_) (fun d => ?_)
      · k_updF
        rw [e, decide_eq_false d] at k
        exact k
      · k_updF
        exact ⟨rfl, _, rfl, by rw [e, decide_eq_true d]; rfl⟩
    · rintro σ' H' ⟨rfl, z, rfl, e⟩
      k_updF
      rw [e, List.drop_length] at k
      exact k
end
abbrev s__law_is_name : Stmt := top 21
abbrev N__law_is_name : List Str := ["word", "letters"]
theorem sc__law_is_name : FnScope N__law_is_name ["word"] (defScope s__law_is_name) := ⟨rfl, rfl, rfl, by decide +kernel, rfl, by decide +kernel, by decide +kernel⟩
def sp__law_is_name (K : PySem.W.Frag) (mg : WP.MG) : Sp := fun vs H Q _ => ∃ v : V, vs = [v] ∧ MW.Wd K H v ∧ WP.RetV (.bl (MW.onS MW.nameB v)) H Q
section
variable {P : Program} {w : World} {K : PySem.W.Frag} {mg : Str → Option Value} {base : Heap}
theorem ok__law_is_name {f : Addr} {fd : FuncData} (F : Fun K "_law_is_name" "_law_is_name" s__law_is_name f fd) (B : Blt w K mg) (c__law_all_in : WP.Callee P w K mg base CX0 1 "_law_all_in" ["word", "chars"] (sp__law_all_in K mg)) (c__law_reserved : WP.Callee P w K mg base CX0 1 "_law_reserved" [] (sp__law_reserved K mg)) : FnOk P w K mg base CX0 2 f fd ["word"] (sp__law_is_name K mg) := by
  refine F.ok sc__law_is_name (fun vs H Q E h => ?_) (fun cdv A outer s H vs Q E hr h => ?_)
  · first | (obtain ⟨_, rfl, _⟩ := h; rfl) | (obtain ⟨_, _, rfl, _⟩ := h; rfl) | (obtain ⟨_, _, _, rfl, _⟩ := h; rfl) | (obtain ⟨_, _, _, _, rfl, _⟩ := h; rfl) | (obtain ⟨_, _, _, _, _, rfl, _⟩ := h; rfl) | (obtain ⟨_, _, _, _, _, _, rfl, _⟩ := h; rfl) | (obtain ⟨_, _, _, _, _, _, _, rfl, _⟩ := h; rfl) | (obtain ⟨_, _, _, _, _, _, _, _, rfl, _⟩ := h; rfl) | (obtain ⟨rfl, _⟩ := h; rfl)
  · obtain ⟨v, rfl, hw, k⟩ := h
    refine ⟨_, (pss_cons (ps_if (PW.pt (pw_or (pt_not (pt_val (pe_callB call_isi (by rfl) B.b_isinstance (by decide +kernel) (pa_cons (pv 0) (pa_cons (pe_bltn (v := .ty "str") rfl B.b_str (by decide +kernel) rfl) pa_nil))))) (pw_or (pt_cmpR op_lt (pe_callB WP.c_len (by rfl) B.b_len (by decide +kernel) (pa_cons (pv 0) pa_nil)) pe_int (nomark _)) (pw_or (pt_cmpR op_gt (pe_callB WP.c_len (by rfl) B.b_len (by decide +kernel) (pa_cons (pv 0) pa_nil)) pe_int (nomark _)) (pw_or1 (pt_cmpR op_in_seq (pv 0) (WP.pe_callC0 c__law_reserved hr rfl pass0) rfl)))))) (pss_one (ps_ret pe_bl)) pss_nil)
      (pss_cons (ps_set (i := 1) sc__law_is_name.nd rfl (Or.inl rfl) (WP.pe_strL [97, 98, 99, 100, 101, 102, 103, 104, 105, 106, 107, 108, 109, 110, 111, 112, 113, 114, 115, 116, 117, 118, 119, 120, 121, 122] (by decide +kernel)))
      (pss_one (ps_ret (pe_and (pe_cmpR WP.op_inSign (pe_ix ix_str (pv 0) pe_int (fun _ _ => rfl)) (pv 1) rfl) (pe_and (pe_cmpR op_ne (pe_ix ix_str (pv 0) (pe_un un_neg pe_int) (fun _ _ => rfl)) (WP.pe_strL [45] (by decide +kernel)) (nomark _)) (pe_one (WP.pe_callC c__law_all_in hr rfl pass0 (pa_cons (pv 0) (pa_cons (pe_op WP.op_addS (pv 1) (WP.pe_strL [48, 49, 50, 51, 52, 53, 54, 55, 56, 57, 45] (by decide +kernel))) pa_nil)))))))))), ?_⟩
    k_updF
    refine hw.isStr ?_
    k_updF
    rcases hw.cases with ⟨l, rfl, hl, ok⟩ | ⟨e1, e2⟩
    rotate_left
    · rw [e1]
      rw [e2] at k
      refine WP.brT rfl ?_
      refine WP.brT rfl ?_
      k_updF
      exact k _ (.refl _)
    refine WP.brF rfl ?_
    rw [MW.onS_S] at k
    have hz : l.length ≤ sizeLine := by rw [sizeLine_eq]; omega
    have hout : ¬ (1 ≤ l.length ∧ l.length ≤ 20) → Q (.bl false) H := fun c => by
      have e : MW.nameB l = false := by unfold MW.nameB; rw [decide_eq_false c]; rfl
      rw [e] at k
      exact k _ (.refl _)
    k_updF
    refine WP.lenS' hz ?_
    k_updF
    refine WP.br (fun c1 => ?_) (fun c1 => ?_)
    · refine WP.brT rfl ?_
      k_updF
      exact hout (fun z => by omega)
    k_updF
    refine WP.lenS' hz ?_
    k_updF
    refine WP.br (fun c2 => ?_) (fun c2 => ?_)
    · refine WP.brT rfl ?_
      k_updF
      exact hout (fun z => by omega)
    k_updF
    refine ⟨rfl, fun p H1 hp e1 hL => ?_⟩
    refine WP.inL MW.RES (SqL.of hL) rfl ?_
    k_updF
    obtain ⟨a0, a1⟩ := MW.ends (l := l) (by omega)
    have e : MW.nameB l = (!decide (l ∈ MW.RES) && (decide (l.headD 0 ∈ MW.LET) && (!decide ((l.getLast?).getD 0 = 45) && MW.allIn l (MW.LET ++ MW.FIG ++ [45])))) := by unfold MW.nameB; rw [decide_eq_true ⟨by omega, by omega⟩]; rfl
    rw [e] at k
    generalize l.headD 0 = c0 at a0 k
    generalize (l.getLast?).getD 0 = cl at a1 k
    refine WP.br (fun d => ?_) (fun d => ?_)
    · k_updF
      rw [show decide (l ∈ MW.RES) = true from decide_eq_true d, Bool.not_true, Bool.false_and] at k
      exact k _ e1
    rw [show decide (l ∈ MW.RES) = false from decide_eq_false d, Bool.not_false, Bool.true_and] at k
    k_updF
    refine WP.ixS1 a0 hz ?_
    k_updF
    refine WP.inSign ?_
    refine ⟨_, rfl, ?_⟩
    refine WP.br (fun d => ?_) (fun d => ?_)
    · rw [show decide (c0 ∈ MW.LET) = true from decide_eq_true d, Bool.true_and] at k
      k_updF
      refine WP.ixS1 a1 hz ?_
      k_updF
      rw [show decide ([cl] = [45]) = decide (cl = 45) by congr 1; exact propext ⟨fun z => by simpa using z, fun z => by rw [z]⟩]
      refine WP.brN (fun d => ?_) (fun d => ?_)
      · rw [show decide (cl = 45) = false from decide_eq_false d, Bool.not_false, Bool.true_and] at k
        k_updF
        refine WP.catS ?_ (by rw [sizeLine_eq]; decide)
        k_updF
        exact ⟨l, _, rfl, k _ e1⟩
      · rw [show decide (cl = 45) = true from decide_eq_true d, Bool.not_true, Bool.false_and] at k
        exact k _ e1
    · rw [show decide (c0 ∈ MW.LET) = false from decide_eq_false d, Bool.false_and] at k
      exact k _ e1
end
abbrev s_are_figures : Stmt := top 10
abbrev N_are_figures : List Str := ["value"]
theorem sc_are_figures : FnScope N_are_figures ["value"] (defScope s_are_figures) := ⟨rfl, rfl, rfl, by decide +kernel, rfl, by decide +kernel, by decide +kernel⟩
def sp_are_figures (K : PySem.W.Frag) (mg : WP.MG) : Sp := fun vs H Q _ => ∃ v : V, vs = [v] ∧ MW.Wd K H v ∧ GxR.TabG H (WP.tbl K "_has_only") ∧ WP.MetV (.bl (MW.onS MW.figs v)) H Q
section
variable {P : Program} {w : World} {K : PySem.W.Frag} {mg : Str → Option Value} {base : Heap}
theorem ok_are_figures {f : Addr} {fd : FuncData} (F : Fun K "are_figures" "are_figures" s_are_figures f fd) (B : Blt w K mg) (c__has_only : WP.Callee P w K mg base CX0 1 "_has_only" ["text", "characters"] (sp__has_only K mg)) : FnOk P w K mg base CX0 2 f fd ["value"] (sp_are_figures K mg) := by
  refine F.ok sc_are_figures (fun vs H Q E h => ?_) (fun cdv A outer s H vs Q E hr h => ?_)
  · first | (obtain ⟨_, rfl, _⟩ := h; rfl) | (obtain ⟨_, _, rfl, _⟩ := h; rfl) | (obtain ⟨_, _, _, rfl, _⟩ := h; rfl) | (obtain ⟨_, _, _, _, rfl, _⟩ := h; rfl) | (obtain ⟨_, _, _, _, _, rfl, _⟩ := h; rfl) | (obtain ⟨_, _, _, _, _, _, rfl, _⟩ := h; rfl) | (obtain ⟨_, _, _, _, _, _, _, rfl, _⟩ := h; rfl) | (obtain ⟨_, _, _, _, _, _, _, _, rfl, _⟩ := h; rfl) | (obtain ⟨rfl, _⟩ := h; rfl)
  · obtain ⟨v, rfl, hw, hT, k⟩ := h
    refine ⟨_, (pss_one (ps_ret (pe_and (pe_callB call_isi (by rfl) B.b_isinstance (by decide +kernel) (pa_cons (pv 0) (pa_cons (pe_bltn (v := .ty "str") rfl B.b_str (by decide +kernel) rfl) pa_nil))) (pe_and (pe_cmpR op_ne (pv 0) (WP.pe_strL [] (by decide +kernel)) (nomark _)) (pe_one (WP.pe_callC c__has_only hr rfl pass0 (pa_cons (pv 0) (pa_cons (WP.pe_const rfl B.c_FIGURES) pa_nil)))))))), ?_⟩
    k_updF
    refine hw.isStr ?_
    refine ⟨_, rfl, ?_⟩
    rcases hw.cases with ⟨l, rfl, hl, ok⟩ | ⟨e1, e2⟩
    · refine WP.brT rfl ?_
      k_updF
      rw [MW.onS_S] at k
      refine WP.brN (fun c => ?_) (fun c => ?_)
      · k_updF
        refine ⟨l, MW.FIG, rfl, hT, ?_⟩
        have e : MW.figs l = MW.allIn l MW.FIG := by unfold MW.figs; rw [decide_eq_false c]; rfl
        rw [e] at k
        exact k
      · have e : MW.figs l = false := by unfold MW.figs; rw [decide_eq_true c]; rfl
        rw [e] at k
        exact k _ (.refl _)
    · rw [e1]
      rw [e2] at k
      refine WP.brF rfl ?_
      exact k _ (.refl _)
end
abbrev s_is_printable : Stmt := top 9
abbrev N_is_printable : List Str := ["value", "codes", "character"]
theorem sc_is_printable : FnScope N_is_printable ["value"] (defScope s_is_printable) := ⟨rfl, rfl, rfl, by decide +kernel, rfl, by decide +kernel, by decide +kernel⟩
def sp_is_printable (K : PySem.W.Frag) (mg : WP.MG) : Sp := fun vs H Q _ => ∃ v : V, vs = [v] ∧ MW.Wd K H v ∧ GxR.TabG H (WP.tbl K "is_printable") ∧ WP.MetV (.bl (MW.onS MW.prn v)) H Q
section
variable {P : Program} {w : World} {K : PySem.W.Frag} {mg : Str → Option Value} {base : Heap}
theorem ok_is_printable {f : Addr} {fd : FuncData} (F : WP.FunC K "is_printable" "is_printable" s_is_printable f fd (WP.cod K "is_printable")) (T : GxR.TabB base mg (WP.cod K "is_printable") (WP.tbl K "is_printable")) (B : Blt w K mg)  : FnOk P w K mg base CX0 1 f fd ["value"] (sp_is_printable K mg) := by
  refine F.ok sc_is_printable (fun vs H Q E h => ?_) (fun A outer s H vs Q E hr h => ?_)
  · first | (obtain ⟨_, rfl, _⟩ := h; rfl) | (obtain ⟨_, _, rfl, _⟩ := h; rfl) | (obtain ⟨_, _, _, rfl, _⟩ := h; rfl) | (obtain ⟨_, _, _, _, rfl, _⟩ := h; rfl) | (obtain ⟨_, _, _, _, _, rfl, _⟩ := h; rfl) | (obtain ⟨_, _, _, _, _, _, rfl, _⟩ := h; rfl) | (obtain ⟨_, _, _, _, _, _, _, rfl, _⟩ := h; rfl) | (obtain ⟨_, _, _, _, _, _, _, _, rfl, _⟩ := h; rfl) | (obtain ⟨rfl, _⟩ := h; rfl)
  · obtain ⟨v, rfl, hw, hT, k⟩ := h
    refine ⟨_, (pss_cons (ps_if (pt_not (pt_val (pe_callB call_isi (by rfl) B.b_isinstance (by decide +kernel) (pa_cons (pv 0) (pa_cons (pe_bltn (v := .ty "str") rfl B.b_str (by decide +kernel) rfl) pa_nil))))) (pss_one (ps_ret pe_bl)) pss_nil)
      (pss_cons (ps_setLc (i := 1) (own := [("character", 2)]) (g := gName 2) (tt := tYes) rfl sc_is_printable.nd rfl rfl (sw_true rfl rfl rfl (by decide +kernel)) (pi_str (pv 0)) (blkOk_by (own := [("character", 2)]) (N := N_is_printable) (sc := defScope s_is_printable) (by decide +kernel)) (fun _ _ _ _ _ => pg_name (i := 2) sc_is_printable.nd rfl (Or.inl rfl)) (fun _ _ _ _ _ => pts_nil) (fun _ _ _ _ _ => (pe_callB WP.c_ord (by rfl) B.b_ord (by decide +kernel) (pa_cons (pv 2) pa_nil))))
      (pss_one (ps_ret (WP.pe_allR hr rfl B.b_all rfl T rfl (WP.gsc_by (sc := defScope s_is_printable) (by decide +kernel)) (pv 1) B.c_FIRST_PRINTABLE B.c_LAST_PRINTABLE B.c_NOT_PRINTABLE rfl rfl rfl (fun _ => rfl)))))), ?_⟩
    k_updF
    refine hw.isStr ?_
    k_updF
    rcases hw.cases with ⟨l, rfl, hl, ok⟩ | ⟨e1, e2⟩
    · refine WP.brF rfl ?_
      k_updF
      rw [MW.onS_S] at k
      refine ⟨_, rfl, fun D hD => WP.lc_txt (fun i Hx => Hx = upd H D (.lst ((l.take i).map fun c => V.int ((c : Nat) : Int)))) rfl ?_ ?_⟩
      · rintro i c Hx hc rfl
        have et : l.take (i + 1) = l.take i ++ [c] := by rw [List.take_succ, hc]; rfl
        k_updF
        refine ⟨rfl, ?_⟩
        refine WP.yes ?_
        k_updF
        refine WP.ordS rfl ?_
        refine ⟨_, upd_same, ?_, ?_⟩
        · rw [List.length_map, List.length_take, sizeLine_eq]; omega
        · rw [et, List.map_append, upd_upd]
          rfl
      rintro Hx rfl
      k_updF
      rw [List.take_length]
      have e1 : Same H (upd H D (.lst (l.map fun c => V.int ((c : Nat) : Int)))) := WP.same_new hD
      have hT' := (WP.Sm.of e1).t _ hT
      refine WP.var rfl ⟨hT', D, l.map fun c => ((c : Nat) : Int), rfl, SqL.of (by rw [upd_same, List.map_map]; rfl), fun H2 h2 => ?_⟩
      rw [MW.prn_codes]
      exact k _ ((WP.Sm.of e1).trans (.tab hT' h2))
    · rw [e1]
      rw [e2] at k
      refine WP.brT rfl ?_
      k_updF
      exact k _ (.refl _)
end
abbrev s_is_integer : Stmt := top 8
abbrev N_is_integer : List Str := ["value", "least", "greatest"]
theorem sc_is_integer : FnScope N_is_integer ["value", "least", "greatest"] (defScope s_is_integer) := ⟨rfl, rfl, rfl, by decide +kernel, rfl, by decide +kernel, by decide +kernel⟩
def intB (lo hi : Int) : V → Bool
  | .int i => decide (lo ≤ i ∧ i ≤ hi)
  | _ => false
def sp_is_integer (K : PySem.W.Frag) (mg : WP.MG) : Sp := fun vs H Q _ => ∃ (v : V) (lo hi : Int), vs = [v, .int lo, .int hi] ∧ MW.Wd K H v ∧ Q (.bl (intB lo hi v)) H
section
variable {P : Program} {w : World} {K : PySem.W.Frag} {mg : Str → Option Value} {base : Heap}
theorem ok_is_integer {f : Addr} {fd : FuncData} (F : Fun K "is_integer" "is_integer" s_is_integer f fd) (B : Blt w K mg)  : FnOk P w K mg base CX0 1 f fd ["value", "least", "greatest"] (sp_is_integer K mg) := by
  refine F.ok sc_is_integer (fun vs H Q E h => ?_) (fun cdv A outer s H vs Q E hr h => ?_)
  · first | (obtain ⟨_, rfl, _⟩ := h; rfl) | (obtain ⟨_, _, rfl, _⟩ := h; rfl) | (obtain ⟨_, _, _, rfl, _⟩ := h; rfl) | (obtain ⟨_, _, _, _, rfl, _⟩ := h; rfl) | (obtain ⟨_, _, _, _, _, rfl, _⟩ := h; rfl) | (obtain ⟨_, _, _, _, _, _, rfl, _⟩ := h; rfl) | (obtain ⟨_, _, _, _, _, _, _, rfl, _⟩ := h; rfl) | (obtain ⟨_, _, _, _, _, _, _, _, rfl, _⟩ := h; rfl) | (obtain ⟨rfl, _⟩ := h; rfl)
  · obtain ⟨v, lo, hi, rfl, hw, k⟩ := h
    refine ⟨_, (pss_cons (ps_if (PW.pt (pw_or (pt_not (pt_val (pe_callB call_isi (by rfl) B.b_isinstance (by decide +kernel) (pa_cons (pv 0) (pa_cons (pe_bltn (v := .ty "int") rfl B.b_int (by decide +kernel) rfl) pa_nil))))) (pw_or1 (pt_val (pe_callB call_isi (by rfl) B.b_isinstance (by decide +kernel) (pa_cons (pv 0) (pa_cons (pe_bltn (v := .ty "bool") rfl B.b_bool (by decide +kernel) rfl) pa_nil))))))) (pss_one (ps_ret pe_bl)) pss_nil)
      (pss_one (ps_ret (pe_chain op_le op_le (pv 1) (pv 0) (pv 2))))), ?_⟩
    k_updF
    cases hw with
    | int i =>
      refine WP.isY (.base (.int i)) ?_
      k_updF
      refine WP.brF rfl ?_
      k_updF
      refine WP.isN (.base (.int i)) ?_
      k_updF
      refine WP.brF rfl ?_
      k_updF
      refine WP.chain ?_
      k_updF
      have k : Q (.bl (decide (lo ≤ i ∧ i ≤ hi))) H := k
      refine WP.br (fun c => ?_) (fun c => ?_)
      · k_updF
        rw [show decide (lo ≤ i ∧ i ≤ hi) = decide (i ≤ hi) by congr 1; exact propext ⟨fun z => z.2, fun z => ⟨c, z⟩⟩] at k
        exact k
      · rw [show decide (lo ≤ i ∧ i ≤ hi) = false from decide_eq_false fun z => c z.1] at k
        exact k
    | bl b =>
      refine WP.isY (.base (.bl b)) ?_
      k_updF
      refine WP.brF rfl ?_
      k_updF
      refine WP.isY (.base (.bl b)) ?_
      k_updF
      refine WP.brT rfl ?_
      k_updF
      exact k
    | str hl ok =>
      refine WP.isN (.base (.str _)) ?_
      k_updF
      refine WP.brT rfl ?_
      refine WP.brT rfl ?_
      k_updF
      exact k
    | non =>
      refine WP.isN (.base .non) ?_
      k_updF
      refine WP.brT rfl ?_
      refine WP.brT rfl ?_
      k_updF
      exact k
    | tup h =>
      refine WP.isN (WP.tyT h) ?_
      k_updF
      refine WP.brT rfl ?_
      refine WP.brT rfl ?_
      k_updF
      exact k
    | lst h =>
      refine WP.isN (MW.tyL h) ?_
      k_updF
      refine WP.brT rfl ?_
      refine WP.brT rfl ?_
      k_updF
      exact k
end
abbrev s_law : Stmt := top 23
abbrev N_law : List Str := ["script", "k", "rich", "word", "text", "number", "least", "plain"]
theorem sc_law : FnScope N_law ["script"] (defScope s_law) := ⟨rfl, rfl, rfl, by decide +kernel, rfl, by decide +kernel, by decide +kernel⟩
def sp_law (K : PySem.W.Frag) : Sp := fun vs H Q _ => ∃ (a : Addr) (ns : List Int), vs = [.ref a] ∧ SqL K H a (ns.map V.int) ∧ ns.length ≤ 63 ∧ GxR.TabG H (WP.tbl K "_has_only") ∧ GxR.TabG H (WP.tbl K "is_printable") ∧ ∀ H', Q (.bl true) H'
section
variable {P : Program} {w : World} {K : PySem.W.Frag} {mg : Str → Option Value} {base : Heap}
theorem ok_law {f : Addr} {fd : FuncData} (F : Fun K "law" "law" s_law f fd) (B : Blt w K mg) (c__law_rich : WP.Callee P w K mg base CX0 1 "_law_rich" ["cell", "k"] (sp__law_rich K mg)) (c__law_built : WP.Callee P w K mg base CX0 2 "_law_built" ["rich"] (sp__law_built K mg)) (c__law_cell : WP.Callee P w K mg base CX0 1 "_law_cell" ["script", "k"] (sp__law_cell K mg)) (c__law_same : WP.Callee P w K mg base CX0 1 "_law_same" ["actual", "due"] (sp__law_same K mg)) (c__law_reserved : WP.Callee P w K mg base CX0 1 "_law_reserved" [] (sp__law_reserved K mg)) (c_is_name : WP.Callee P w K mg base CX0 2 "is_name" ["value"] (sp_is_name K mg)) (c__law_is_name : WP.Callee P w K mg base CX0 2 "_law_is_name" ["word"] (sp__law_is_name K mg)) (c_are_figures : WP.Callee P w K mg base CX0 2 "are_figures" ["value"] (sp_are_figures K mg)) (c_is_printable : WP.Callee P w K mg base CX0 1 "is_printable" ["value"] (sp_is_printable K mg)) (c_is_integer : WP.Callee P w K mg base CX0 1 "is_integer" ["value", "least", "greatest"] (sp_is_integer K mg)) (c__law_all_in : WP.Callee P w K mg base CX0 1 "_law_all_in" ["word", "chars"] (sp__law_all_in K mg)) (c__law_printable : WP.Callee P w K mg base CX0 1 "_law_printable" [] (sp__law_printable K mg)) : FnOk P w K mg base CX0 3 f fd ["script"] (sp_law K) := by
  refine F.ok sc_law (fun vs H Q E h => ?_) (fun cdv A outer s H vs Q E hr h => ?_)
  · first | (obtain ⟨_, rfl, _⟩ := h; rfl) | (obtain ⟨_, _, rfl, _⟩ := h; rfl) | (obtain ⟨_, _, _, rfl, _⟩ := h; rfl) | (obtain ⟨_, _, _, _, rfl, _⟩ := h; rfl) | (obtain ⟨_, _, _, _, _, rfl, _⟩ := h; rfl) | (obtain ⟨_, _, _, _, _, _, rfl, _⟩ := h; rfl) | (obtain ⟨_, _, _, _, _, _, _, rfl, _⟩ := h; rfl) | (obtain ⟨_, _, _, _, _, _, _, _, rfl, _⟩ := h; rfl) | (obtain ⟨rfl, _⟩ := h; rfl)
  · obtain ⟨a, ns, rfl, ha, hl, hT1, hT2, k⟩ := h
    refine ⟨_, (pss_cons (ps_for PassesOwn.never rfl (pi_range1 rfl B.b_range (pa_cons (pe_callB (WP.c_max2 rfl) (by rfl) B.b_max (by decide +kernel) (pa_cons pe_int (pa_cons (pe_callB (WP.c_min2 rfl) (by rfl) B.b_min (by decide +kernel) (pa_cons pe_int (pa_cons (pe_callB WP.c_len (by rfl) B.b_len (by decide +kernel) (pa_cons (pv 0) pa_nil)) pa_nil))) pa_nil))) pa_nil)) (pg_name (i := 1) sc_law.nd rfl (Or.inl rfl)) (pss_cons (ps_set (i := 2) sc_law.nd rfl (Or.inl rfl) (WP.pe_callC c__law_rich hr rfl pass0 (pa_cons (WP.pe_callC c__law_cell hr rfl pass0 (pa_cons (pv 0) (pa_cons (pv 1) pa_nil))) (pa_cons (pv 1) pa_nil))))
      (pss_cons (ps_set (i := 3) sc_law.nd rfl (Or.inl rfl) (WP.pe_callC c__law_built hr rfl pass0 (pa_cons (pv 2) pa_nil)))
      (pss_cons (ps_set (i := 4) sc_law.nd rfl (Or.inl rfl) (pe_callB call_isi (by rfl) B.b_isinstance (by decide +kernel) (pa_cons (pv 3) (pa_cons (pe_bltn (v := .ty "str") rfl B.b_str (by decide +kernel) rfl) pa_nil))))
      (Evl.pss_cut (ps_if (pt_not (pt_val (WP.pe_callC c__law_same hr rfl pass0 (pa_cons (WP.pe_callC c_is_name hr rfl pass0 (pa_cons (pv 3) pa_nil)) (pa_cons (WP.pe_callC c__law_is_name hr rfl pass0 (pa_cons (pv 3) pa_nil)) pa_nil))))) (pss_one (ps_ret pe_bl)) pss_nil)
      (Evl.pss_cut (ps_if (pt_not (pt_val (WP.pe_callC c__law_same hr rfl pass0 (pa_cons (WP.pe_callC c_are_figures hr rfl pass0 (pa_cons (pv 3) pa_nil)) (pa_cons (pe_and (pv 4) (pe_and (pe_cmpR op_ne (pv 3) (WP.pe_strL [] (by decide +kernel)) (nomark _)) (pe_one (WP.pe_callC c__law_all_in hr rfl pass0 (pa_cons (pv 3) (pa_cons (WP.pe_strL [48, 49, 50, 51, 52, 53, 54, 55, 56, 57] (by decide +kernel)) pa_nil)))))) pa_nil))))) (pss_one (ps_ret pe_bl)) pss_nil)
      (Evl.pss_cut (ps_if (pt_not (pt_val (WP.pe_callC c__law_same hr rfl pass0 (pa_cons (WP.pe_callC c_is_printable hr rfl pass0 (pa_cons (pv 3) pa_nil)) (pa_cons (pe_and (pv 4) (pe_one (WP.pe_callC c__law_all_in hr rfl pass0 (pa_cons (pv 3) (pa_cons (WP.pe_callC0 c__law_printable hr rfl pass0) pa_nil))))) pa_nil))))) (pss_one (ps_ret pe_bl)) pss_nil)
      (pss_cons (ps_set (i := 5) sc_law.nd rfl (Or.inl rfl) (pe_ix ix_list (pe_lst (pa_cons (pe_op op_sub (pe_op op_mod (pv 2) pe_int) pe_int) (pa_cons pe_bl (pa_cons pe_non (pa_cons (WP.pe_strL [49] (by decide +kernel)) (pa_cons (pe_op op_pow pe_int pe_int) (pa_cons pe_bl pa_nil))))))) (pe_op op_mod (pe_op op_fdiv (pv 2) pe_int) pe_int) (fun _ _ => rfl)))
      (pss_cons (ps_set (i := 6) sc_law.nd rfl (Or.inl rfl) (pe_op op_sub (pe_op op_mod (pe_op op_fdiv (pv 2) pe_int) pe_int) pe_int))
      (pss_cons (ps_set (i := 7) sc_law.nd rfl (Or.inl rfl) (pe_and (pe_callB call_isi (by rfl) B.b_isinstance (by decide +kernel) (pa_cons (pv 5) (pa_cons (pe_bltn (v := .ty "int") rfl B.b_int (by decide +kernel) rfl) pa_nil))) (pe_one (pe_not (pe_callB call_isi (by rfl) B.b_isinstance (by decide +kernel) (pa_cons (pv 5) (pa_cons (pe_bltn (v := .ty "bool") rfl B.b_bool (by decide +kernel) rfl) pa_nil)))))))
      (pss_one (ps_if (pt_not (pt_val (WP.pe_callC c__law_same hr rfl pass0 (pa_cons (WP.pe_callC c_is_integer hr rfl pass0 (pa_cons (pv 5) (pa_cons (pv 6) (pa_cons (pe_op op_add (pv 6) pe_int) pa_nil)))) (pa_cons (pe_and (pv 7) (pe_and (pe_cmpR op_le (pv 6) (pv 5) (nomark _)) (pe_one (pe_cmpR op_le (pv 5) (pe_op op_add (pv 6) pe_int) (nomark _))))) pa_nil))))) (pss_one (ps_ret pe_bl)) pss_nil))))))))))))
      (pss_one (ps_ret (pe_and (pe_callB call_isi (by rfl) B.b_isinstance (by decide +kernel) (pa_cons (WP.pe_ktup rfl B.c_RESERVED) (pa_cons (pe_bltn (v := .ty "tuple") rfl B.b_tuple (by decide +kernel) rfl) pa_nil))) (pe_one (pe_cmpR (op_eqD hr.units) (pe_callTy WP.c_listOf (by rfl) B.b_list (by decide +kernel) (pa_cons (WP.pe_ktup rfl B.c_RESERVED) pa_nil)) (WP.pe_callC0 c__law_reserved hr rfl pass0) (nomark _))))))), ?_⟩
    k_updF
    refine WP.lenL ha ?_
    k_updF
    refine WP.minI ?_
    k_updF
    refine WP.maxI ?_
    k_updF
    rw [List.length_map]
    refine ⟨_, rfl, by omega, by omega, for_range (lo := 0) (n := _) (fun i σ' H' => (∃ z1 z2 z3 z4 z5 z6 z7, σ' = [some (.ref a), z1, z2, z3, z4, z5, z6, z7]) ∧ WP.Sm H H') ⟨⟨_, _, _, _, _, _, _, rfl⟩, .refl _⟩ ?_ ?_⟩
    rotate_left
    · rintro σ' H1 ⟨⟨z1, z2, z3, z4, z5, z6, z7, rfl⟩, e1⟩
      k_updF
      refine WP.isY (WP.tyT (B.c_RESERVED.s _)) ?_
      k_updF
      refine WP.brT rfl ?_
      k_updF
      refine WP.listT (B.c_RESERVED.s _) (fun L hL => ?_)
      k_updF
      refine ⟨rfl, fun p H2 hp e2 hp2 => ?_⟩
      have hL2 : H2 L = some (.lst (MW.RES.map fun a => V.str (SX.S a))) := e2 _ _ upd_same
      refine WP.eqD (.lst (SqL.of hL2) (MW.dpRes _)) (.lst (SqL.of hp2) (MW.dpRes _)) ?_ MW.resSh MW.resSh
      rw [SeqAt.eqv_refl _ MW.resLay]
      exact k _
    rintro i σ' H1 hi ⟨⟨z1, z2, z3, z4, z5, z6, z7, rfl⟩, e1⟩
    k_updF
    refine ⟨a, ns, _, rfl, e1.lst ha, by omega, fun c => ?_⟩
    k_updF
    refine ⟨c, _, rfl, fun rich hr0 => ?_⟩
    k_updF
    refine ⟨rich, rfl, fun v H2 e2 hw => ?_⟩
    have e2 := e1.trans (.of e2)
    k_updF
    refine hw.isStr ?_
    k_updF
    refine WP.cut (fun σ' H' => WP.Sm H H' ∧ MW.Wd K H' v ∧ σ' = [some (.ref a), some (.int (0 + (i : Int))), some (.int rich), some v, some (.bl (MW.isS v)), z5, z6, z7]) ?_ ?_
    · k_updF
      refine ⟨v, rfl, hw, e2.t _ hT1, fun H3 e3 => ?_⟩
      have hw := hw.sm e3
      k_updF
      refine ⟨v, rfl, hw, fun H4 e4 => ?_⟩
      k_updF
      refine ⟨_, _, rfl, ?_⟩
      k_updF
      refine WP.brF (by simp) ?_
      k_updF
      exact ⟨e2.trans (e3.trans (.of e4)), hw.sm (.of e4), rfl⟩
    rintro σ' H3 ⟨e3, hw, rfl⟩
    refine WP.cut (fun σ' H' => WP.Sm H H' ∧ MW.Wd K H' v ∧ σ' = [some (.ref a), some (.int (0 + (i : Int))), some (.int rich), some v, some (.bl (MW.isS v)), z5, z6, z7]) ?_ ?_
    · k_updF
      refine ⟨v, rfl, hw, e3.t _ hT1, fun H4 e4 => ?_⟩
      have e4' := e3.trans e4
      have hw := hw.sm e4
      k_updF
      rcases hw.cases with ⟨l, rfl, hl, ok⟩ | ⟨q1, q2⟩
      · refine WP.brT rfl ?_
        k_updF
        have e : MW.onS MW.figs (.str (SX.S l)) = MW.figs l := rfl
        refine WP.brN (fun d => ?_) (fun d => ?_)
        · k_updF
          refine ⟨l, MW.FIG, rfl, ?_⟩
          k_updF
          refine ⟨_, _, rfl, ?_⟩
          k_updF
          have q : MW.figs l = MW.allIn l MW.FIG := by unfold MW.figs; rw [decide_eq_false d]; rfl
          refine WP.brF (by rw [e, q]; simp) ?_
          k_updF
          exact ⟨e4', hw, rfl⟩
        · k_updF
          refine ⟨_, _, rfl, ?_⟩
          k_updF
          have q : MW.figs l = false := by unfold MW.figs; rw [decide_eq_true d]; rfl
          refine WP.brF (by rw [e, q]; rfl) ?_
          k_updF
          exact ⟨e4', hw, rfl⟩
      · rw [q1, q2]
        refine WP.brF rfl ?_
        k_updF
        refine ⟨_, _, rfl, ?_⟩
        k_updF
        refine WP.brF rfl ?_
        k_updF
        exact ⟨e4', hw, rfl⟩
    clear e3 hw
    rintro σ' H3 ⟨e3, hw, rfl⟩
    refine WP.cut (fun σ' H' => WP.Sm H H' ∧ σ' = [some (.ref a), some (.int (0 + (i : Int))), some (.int rich), some v, some (.bl (MW.isS v)), z5, z6, z7]) ?_ ?_
    · k_updF
      refine ⟨v, rfl, hw, e3.t _ hT2, fun H4 e4 => ?_⟩
      have e4' := e3.trans e4
      have hw := hw.sm e4
      k_updF
      rcases hw.cases with ⟨l, rfl, hl, ok⟩ | ⟨q1, q2⟩
      · refine WP.brT rfl ?_
        k_updF
        have e : MW.onS MW.prn (.str (SX.S l)) = MW.prn l := rfl
        refine ⟨rfl, ?_⟩
        k_updF
        refine ⟨l, MW.PRN, rfl, ?_⟩
        k_updF
        refine ⟨_, _, rfl, ?_⟩
        k_updF
        refine WP.brF (by rw [e, MW.prn_in]; simp) ?_
        k_updF
        exact ⟨e4', rfl⟩
      · rw [q1, q2]
        refine WP.brF rfl ?_
        k_updF
        refine ⟨_, _, rfl, ?_⟩
        k_updF
        refine WP.brF rfl ?_
        k_updF
        exact ⟨e4', rfl⟩
    clear e3 hw
    rintro σ' H3 ⟨e3, rfl⟩
    k_updF
    refine WP.iC (by decide) ?_
    k_updF
    refine WP.iC ⟨by decide, by decide, by decide⟩ ?_
    k_updF
    refine ⟨WP.sz (show 6 ≤ 1000000 by decide), fun M hM => ?_⟩
    k_updF
    refine WP.iC ⟨by decide, by decide⟩ ?_
    k_updF
    refine WP.iC (by decide) ?_
    have h0 := Int.emod_nonneg (rich / 9) (show (6 : Int) ≠ 0 by decide)
    have h1 := Int.emod_lt_of_pos (rich / 9) (show (0 : Int) < 6 by decide)
    obtain ⟨j, hj⟩ : ∃ j : Nat, rich / 9 % 6 = (j : Int) := ⟨(rich / 9 % 6).toNat, by omega⟩
    rw [hj] at h0 h1 ⊢
    have hj6 : j < 6 := by omega
    generalize (10 : Int) ^ (20 : Int).toNat = big
    have e4 : Same H3 (upd H3 M (.lst [.int (rich % 9 - 4), .bl true, .non, .str (SX.S [49]), .int big, .bl false])) := WP.same_new hM
    have tm : SqL K (upd H3 M (.lst [.int (rich % 9 - 4), .bl true, .non, .str (SX.S [49]), .int big, .bl false])) M [.int (rich % 9 - 4), .bl true, .non, .str (SX.S [49]), .int big, .bl false] := SqL.of upd_same
    generalize upd H3 M (.lst [.int (rich % 9 - 4), .bl true, .non, .str (SX.S [49]), .int big, .bl false]) = H4 at *
    have key : ∀ v : V, ([.int (rich % 9 - 4), .bl true, .non, .str (SX.S [49]), .int big, .bl false] : List V)[j]? = some v → MW.Wd K H4 v := fun v hv => by
      match j, hj6, hv with
      | 0, _, hv => cases hv; exact .int _
      | 1, _, hv => cases hv; exact .bl _
      | 2, _, hv => cases hv; exact .non
      | 3, _, hv => cases hv; exact .str (by decide) (by decide)
      | 4, _, hv => cases hv; exact .int _
      | 5, _, hv => cases hv; exact .bl _
    have hg : ([.int (rich % 9 - 4), .bl true, .non, .str (SX.S [49]), .int big, .bl false] : List V)[j]? = some (([.int (rich % 9 - 4), .bl true, .non, .str (SX.S [49]), .int big, .bl false] : List V)[j]'hj6) := List.getElem?_eq_getElem hj6
    have hwn := key _ hg
    refine WP.ixL tm (atI_nat hg) ?_
    generalize ([.int (rich % 9 - 4), .bl true, .non, .str (SX.S [49]), .int big, .bl false] : List V)[j]'hj6 = num at hwn ⊢
    have e5 := e3.trans (.of e4)
    k_updF
    refine WP.iC ⟨by decide, by decide⟩ ?_
    k_updF
    refine WP.iC (by decide) ?_
    k_updF
    generalize rich / 54 % 5 - 2 = lo
    cases hwn with
    | int n =>
      refine WP.isY (.base (.int n)) ?_
      k_updF
      refine WP.brT rfl ?_
      k_updF
      refine WP.isN (.base (.int n)) ?_
      k_updF
      refine ⟨_, _, _, rfl, .int n, ?_⟩
      k_updF
      refine WP.brT rfl ?_
      k_updF
      have q : D.intB lo (lo + 3) (.int n) = (decide (lo ≤ n) && decide (n ≤ lo + 3)) := by
        show decide (lo ≤ n ∧ n ≤ lo + 3) = _
        rw [Bool.decide_and]
      refine WP.br (fun d => ?_) (fun d => ?_)
      · k_updF
        refine ⟨_, _, rfl, ?_⟩
        k_updF
        refine WP.brF (by rw [q, decide_eq_true d]; simp) ?_
        k_updF
        exact ⟨⟨_, _, _, _, _, _, _, rfl⟩, e5⟩
      · k_updF
        refine ⟨_, _, rfl, ?_⟩
        k_updF
        refine WP.brF (by rw [q, decide_eq_false d]; rfl) ?_
        k_updF
        exact ⟨⟨_, _, _, _, _, _, _, rfl⟩, e5⟩
    | bl b =>
      refine WP.isY (.base (.bl b)) ?_
      k_updF
      refine WP.brT rfl ?_
      k_updF
      refine WP.isY (.base (.bl b)) ?_
      k_updF
      refine ⟨_, _, _, rfl, .bl b, ?_⟩
      k_updF
      refine WP.brF rfl ?_
      k_updF
      refine ⟨_, _, rfl, ?_⟩
      k_updF
      refine WP.brF rfl ?_
      k_updF
      exact ⟨⟨_, _, _, _, _, _, _, rfl⟩, e5⟩
    | str hl ok =>
      refine WP.isN (.base (.str _)) ?_
      k_updF
      refine WP.brF rfl ?_
      k_updF
      refine ⟨_, _, _, rfl, .str hl ok, ?_⟩
      k_updF
      refine WP.brF rfl ?_
      k_updF
      refine ⟨_, _, rfl, ?_⟩
      k_updF
      refine WP.brF rfl ?_
      k_updF
      exact ⟨⟨_, _, _, _, _, _, _, rfl⟩, e5⟩
    | non =>
      refine WP.isN (.base .non) ?_
      k_updF
      refine WP.brF rfl ?_
      k_updF
      refine ⟨_, _, _, rfl, .non, ?_⟩
      k_updF
      refine WP.brF rfl ?_
      k_updF
      refine ⟨_, _, rfl, ?_⟩
      k_updF
      refine WP.brF rfl ?_
      k_updF
      exact ⟨⟨_, _, _, _, _, _, _, rfl⟩, e5⟩
    | tup h =>
      refine WP.isN (WP.tyT h) ?_
      k_updF
      refine WP.brF rfl ?_
      k_updF
      refine ⟨_, _, _, rfl, .tup h, ?_⟩
      k_updF
      refine WP.brF rfl ?_
      k_updF
      refine ⟨_, _, rfl, ?_⟩
      k_updF
      refine WP.brF rfl ?_
      k_updF
      exact ⟨⟨_, _, _, _, _, _, _, rfl⟩, e5⟩
    | lst h =>
      refine WP.isN (MW.tyL h) ?_
      k_updF
      refine WP.brF rfl ?_
      k_updF
      refine ⟨_, _, _, rfl, .lst h, ?_⟩
      k_updF
      refine WP.brF rfl ?_
      k_updF
      refine ⟨_, _, rfl, ?_⟩
      k_updF
      refine WP.brF rfl ?_
      k_updF
      exact ⟨⟨_, _, _, _, _, _, _, rfl⟩, e5⟩
end
theorem all_mk {l : PySem.W.OpenLaw} {w : World} {K : PySem.W.Frag} {h : Heap} {mg : Str → Option Value} {fa : Addr} (X : K.In h) (G : h.Ns mainGlobals mg) (hfa : mg "law" = some (.ref fa))
    {fx0 : Addr} {odx0 anx0 : Option Addr} {slx0 : Array (Option Value)} {ocx0 kVx0 dcx0 pmx0 cdx0 ctx0 : Value}
    (ax0 : PySem.W.nsIn K mainGlobals "_law_rich" = some (some (.ref fx0))) (lx0 : K.lookup fx0 = some ⟨ocx0, odx0, .func (PySem.W.fnOf "_law_rich" "_law_rich" (defArgs s__law_rich) (defBody s__law_rich) (defScope s__law_rich) .none kVx0 dcx0 pmx0 anx0 cdx0 ctx0), slx0⟩) (cx0 : PySem.W.codeIn K cdx0 "_law_rich" = true) (kx0 : PySem.W.keepIn K (.ref fx0) = true)
    {fx1 : Addr} {odx1 anx1 : Option Addr} {slx1 : Array (Option Value)} {ocx1 kVx1 dcx1 pmx1 cdx1 ctx1 : Value}
    (ax1 : PySem.W.nsIn K mainGlobals "_law_word" = some (some (.ref fx1))) (lx1 : K.lookup fx1 = some ⟨ocx1, odx1, .func (PySem.W.fnOf "_law_word" "_law_word" (defArgs s__law_word) (defBody s__law_word) (defScope s__law_word) .none kVx1 dcx1 pmx1 anx1 cdx1 ctx1), slx1⟩) (cx1 : PySem.W.codeIn K cdx1 "_law_word" = true) (kx1 : PySem.W.keepIn K (.ref fx1) = true)
    {fx2 : Addr} {odx2 anx2 : Option Addr} {slx2 : Array (Option Value)} {ocx2 kVx2 dcx2 pmx2 cdx2 ctx2 : Value}
    (ax2 : PySem.W.nsIn K mainGlobals "_law_reserved" = some (some (.ref fx2))) (lx2 : K.lookup fx2 = some ⟨ocx2, odx2, .func (PySem.W.fnOf "_law_reserved" "_law_reserved" (defArgs s__law_reserved) (defBody s__law_reserved) (defScope s__law_reserved) .none kVx2 dcx2 pmx2 anx2 cdx2 ctx2), slx2⟩) (cx2 : PySem.W.codeIn K cdx2 "_law_reserved" = true) (kx2 : PySem.W.keepIn K (.ref fx2) = true)
    {fx3 : Addr} {odx3 anx3 : Option Addr} {slx3 : Array (Option Value)} {ocx3 kVx3 dcx3 pmx3 cdx3 ctx3 : Value}
    (ax3 : PySem.W.nsIn K mainGlobals "_law_printable" = some (some (.ref fx3))) (lx3 : K.lookup fx3 = some ⟨ocx3, odx3, .func (PySem.W.fnOf "_law_printable" "_law_printable" (defArgs s__law_printable) (defBody s__law_printable) (defScope s__law_printable) .none kVx3 dcx3 pmx3 anx3 cdx3 ctx3), slx3⟩) (cx3 : PySem.W.codeIn K cdx3 "_law_printable" = true) (kx3 : PySem.W.keepIn K (.ref fx3) = true)
    {fx4 : Addr} {odx4 anx4 : Option Addr} {slx4 : Array (Option Value)} {ocx4 kVx4 dcx4 pmx4 cdx4 ctx4 : Value}
    (ax4 : PySem.W.nsIn K mainGlobals "_law_built" = some (some (.ref fx4))) (lx4 : K.lookup fx4 = some ⟨ocx4, odx4, .func (PySem.W.fnOf "_law_built" "_law_built" (defArgs s__law_built) (defBody s__law_built) (defScope s__law_built) .none kVx4 dcx4 pmx4 anx4 cdx4 ctx4), slx4⟩) (cx4 : PySem.W.codeIn K cdx4 "_law_built" = true) (kx4 : PySem.W.keepIn K (.ref fx4) = true)
    {fx5 : Addr} {odx5 anx5 : Option Addr} {slx5 : Array (Option Value)} {ocx5 kVx5 dcx5 pmx5 cdx5 ctx5 : Value}
    (ax5 : PySem.W.nsIn K mainGlobals "_law_cell" = some (some (.ref fx5))) (lx5 : K.lookup fx5 = some ⟨ocx5, odx5, .func (PySem.W.fnOf "_law_cell" "_law_cell" (defArgs s__law_cell) (defBody s__law_cell) (defScope s__law_cell) .none kVx5 dcx5 pmx5 anx5 cdx5 ctx5), slx5⟩) (cx5 : PySem.W.codeIn K cdx5 "_law_cell" = true) (kx5 : PySem.W.keepIn K (.ref fx5) = true)
    {fx6 : Addr} {odx6 anx6 : Option Addr} {slx6 : Array (Option Value)} {ocx6 kVx6 dcx6 pmx6 cdx6 ctx6 : Value}
    (ax6 : PySem.W.nsIn K mainGlobals "_law_same" = some (some (.ref fx6))) (lx6 : K.lookup fx6 = some ⟨ocx6, odx6, .func (PySem.W.fnOf "_law_same" "_law_same" (defArgs s__law_same) (defBody s__law_same) (defScope s__law_same) .none kVx6 dcx6 pmx6 anx6 cdx6 ctx6), slx6⟩) (cx6 : PySem.W.codeIn K cdx6 "_law_same" = true) (kx6 : PySem.W.keepIn K (.ref fx6) = true)
    {fx7 Kcx7 Ktx7 : Addr} {odx7 anx7 : Option Addr} {slx7 : Array (Option Value)} {ocx7 kVx7 dcx7 pmx7 ctx7 : Value}
    (ax7 : PySem.W.nsIn K mainGlobals "_has_only" = some (some (.ref fx7))) (tbx7 : PySem.W.tabIn K "_has_only" = some (Kcx7, Ktx7)) (lx7 : K.lookup fx7 = some ⟨ocx7, odx7, .func (PySem.W.fnOf "_has_only" "_has_only" (defArgs s__has_only) (defBody s__has_only) (defScope s__has_only) .none kVx7 dcx7 pmx7 anx7 (.ref Kcx7) ctx7), slx7⟩) (cx7 : PySem.W.codeIn K (.ref Kcx7) "_has_only" = true) (kx7 : PySem.W.keepIn K (.ref fx7) = true)
    (hdx7 : PySem.W.CodeHd h Kcx7 Ktx7 ∧ h.get? Ktx7 = some { cls := .none, data := .fields #[] }) (nkx7 : K.lookup Ktx7 = none)
    {fx8 : Addr} {odx8 anx8 : Option Addr} {slx8 : Array (Option Value)} {ocx8 kVx8 dcx8 pmx8 cdx8 ctx8 : Value}
    (ax8 : PySem.W.nsIn K mainGlobals "is_name" = some (some (.ref fx8))) (lx8 : K.lookup fx8 = some ⟨ocx8, odx8, .func (PySem.W.fnOf "is_name" "is_name" (defArgs s_is_name) (defBody s_is_name) (defScope s_is_name) .none kVx8 dcx8 pmx8 anx8 cdx8 ctx8), slx8⟩) (cx8 : PySem.W.codeIn K cdx8 "is_name" = true) (kx8 : PySem.W.keepIn K (.ref fx8) = true)
    {fx9 : Addr} {odx9 anx9 : Option Addr} {slx9 : Array (Option Value)} {ocx9 kVx9 dcx9 pmx9 cdx9 ctx9 : Value}
    (ax9 : PySem.W.nsIn K mainGlobals "_law_all_in" = some (some (.ref fx9))) (lx9 : K.lookup fx9 = some ⟨ocx9, odx9, .func (PySem.W.fnOf "_law_all_in" "_law_all_in" (defArgs s__law_all_in) (defBody s__law_all_in) (defScope s__law_all_in) .none kVx9 dcx9 pmx9 anx9 cdx9 ctx9), slx9⟩) (cx9 : PySem.W.codeIn K cdx9 "_law_all_in" = true) (kx9 : PySem.W.keepIn K (.ref fx9) = true)
    {fx10 : Addr} {odx10 anx10 : Option Addr} {slx10 : Array (Option Value)} {ocx10 kVx10 dcx10 pmx10 cdx10 ctx10 : Value}
    (ax10 : PySem.W.nsIn K mainGlobals "_law_is_name" = some (some (.ref fx10))) (lx10 : K.lookup fx10 = some ⟨ocx10, odx10, .func (PySem.W.fnOf "_law_is_name" "_law_is_name" (defArgs s__law_is_name) (defBody s__law_is_name) (defScope s__law_is_name) .none kVx10 dcx10 pmx10 anx10 cdx10 ctx10), slx10⟩) (cx10 : PySem.W.codeIn K cdx10 "_law_is_name" = true) (kx10 : PySem.W.keepIn K (.ref fx10) = true)
    {fx11 : Addr} {odx11 anx11 : Option Addr} {slx11 : Array (Option Value)} {ocx11 kVx11 dcx11 pmx11 cdx11 ctx11 : Value}
    (ax11 : PySem.W.nsIn K mainGlobals "are_figures" = some (some (.ref fx11))) (lx11 : K.lookup fx11 = some ⟨ocx11, odx11, .func (PySem.W.fnOf "are_figures" "are_figures" (defArgs s_are_figures) (defBody s_are_figures) (defScope s_are_figures) .none kVx11 dcx11 pmx11 anx11 cdx11 ctx11), slx11⟩) (cx11 : PySem.W.codeIn K cdx11 "are_figures" = true) (kx11 : PySem.W.keepIn K (.ref fx11) = true)
    {fx12 Kcx12 Ktx12 : Addr} {odx12 anx12 : Option Addr} {slx12 : Array (Option Value)} {ocx12 kVx12 dcx12 pmx12 ctx12 : Value}
    (ax12 : PySem.W.nsIn K mainGlobals "is_printable" = some (some (.ref fx12))) (tbx12 : PySem.W.tabIn K "is_printable" = some (Kcx12, Ktx12)) (lx12 : K.lookup fx12 = some ⟨ocx12, odx12, .func (PySem.W.fnOf "is_printable" "is_printable" (defArgs s_is_printable) (defBody s_is_printable) (defScope s_is_printable) .none kVx12 dcx12 pmx12 anx12 (.ref Kcx12) ctx12), slx12⟩) (cx12 : PySem.W.codeIn K (.ref Kcx12) "is_printable" = true) (kx12 : PySem.W.keepIn K (.ref fx12) = true)
    (hdx12 : PySem.W.CodeHd h Kcx12 Ktx12 ∧ h.get? Ktx12 = some { cls := .none, data := .fields #[] }) (nkx12 : K.lookup Ktx12 = none)
    {fx13 : Addr} {odx13 anx13 : Option Addr} {slx13 : Array (Option Value)} {ocx13 kVx13 dcx13 pmx13 cdx13 ctx13 : Value}
    (ax13 : PySem.W.nsIn K mainGlobals "is_integer" = some (some (.ref fx13))) (lx13 : K.lookup fx13 = some ⟨ocx13, odx13, .func (PySem.W.fnOf "is_integer" "is_integer" (defArgs s_is_integer) (defBody s_is_integer) (defScope s_is_integer) .none kVx13 dcx13 pmx13 anx13 cdx13 ctx13), slx13⟩) (cx13 : PySem.W.codeIn K cdx13 "is_integer" = true) (kx13 : PySem.W.keepIn K (.ref fx13) = true)
    {fx14 : Addr} {odx14 anx14 : Option Addr} {slx14 : Array (Option Value)} {ocx14 kVx14 dcx14 pmx14 cdx14 ctx14 : Value}
    (ax14 : PySem.W.nsIn K mainGlobals "law" = some (some (.ref fx14))) (lx14 : K.lookup fx14 = some ⟨ocx14, odx14, .func (PySem.W.fnOf "law" "law" (defArgs s_law) (defBody s_law) (defScope s_law) .none kVx14 dcx14 pmx14 anx14 cdx14 ctx14), slx14⟩) (cx14 : PySem.W.codeIn K cdx14 "law" = true) (kx14 : PySem.W.keepIn K (.ref fx14) = true)
    (z_all : PySem.W.nsIn K mainGlobals "all" = some none)
    (z_bool : PySem.W.nsIn K mainGlobals "bool" = some none)
    (z_int : PySem.W.nsIn K mainGlobals "int" = some none)
    (z_isinstance : PySem.W.nsIn K mainGlobals "isinstance" = some none)
    (z_len : PySem.W.nsIn K mainGlobals "len" = some none)
    (z_list : PySem.W.nsIn K mainGlobals "list" = some none)
    (z_max : PySem.W.nsIn K mainGlobals "max" = some none)
    (z_min : PySem.W.nsIn K mainGlobals "min" = some none)
    (z_ord : PySem.W.nsIn K mainGlobals "ord" = some none)
    (z_range : PySem.W.nsIn K mainGlobals "range" = some none)
    (z_str : PySem.W.nsIn K mainGlobals "str" = some none)
    (z_tuple : PySem.W.nsIn K mainGlobals "tuple" = some none)
    {t_FIGURES : Tok} (g_FIGURES : PySem.W.nsIn K mainGlobals "FIGURES" = some (some (.str "0123456789" t_FIGURES)))
    {t_FIRST_PRINTABLE : Tok} (g_FIRST_PRINTABLE : PySem.W.nsIn K mainGlobals "FIRST_PRINTABLE" = some (some (.int 32 t_FIRST_PRINTABLE)))
    {t_LAST_PRINTABLE : Tok} (g_LAST_PRINTABLE : PySem.W.nsIn K mainGlobals "LAST_PRINTABLE" = some (some (.int 126 t_LAST_PRINTABLE)))
    {t_LETTERS : Tok} (g_LETTERS : PySem.W.nsIn K mainGlobals "LETTERS" = some (some (.str "abcdefghijklmnopqrstuvwxyz" t_LETTERS)))
    {t_MOST_NAME : Tok} (g_MOST_NAME : PySem.W.nsIn K mainGlobals "MOST_NAME" = some (some (.int 20 t_MOST_NAME)))
    {t_NOT_PRINTABLE : Tok} (g_NOT_PRINTABLE : PySem.W.nsIn K mainGlobals "NOT_PRINTABLE" = some (some (.int 37 t_NOT_PRINTABLE)))
    {a_RESERVED : Addr} {d_RESERVED : Option Addr} {n_RESERVED : Nat} {s_RESERVED : Array (Option Value)} {TRESERVED_0 TRESERVED_1 TRESERVED_2 TRESERVED_3 TRESERVED_4 TRESERVED_5 TRESERVED_6 TRESERVED_7 TRESERVED_8 TRESERVED_9 TRESERVED_10 TRESERVED_11 TRESERVED_12 TRESERVED_13 TRESERVED_14 TRESERVED_15 TRESERVED_16 TRESERVED_17 TRESERVED_18 TRESERVED_19 TRESERVED_20 TRESERVED_21 TRESERVED_22 TRESERVED_23 TRESERVED_24 TRESERVED_25 TRESERVED_26 TRESERVED_27 TRESERVED_28 TRESERVED_29 TRESERVED_30 TRESERVED_31 TRESERVED_32 TRESERVED_33 TRESERVED_34 TRESERVED_35 TRESERVED_36 TRESERVED_37 TRESERVED_38 TRESERVED_39 TRESERVED_40 TRESERVED_41 : Tok} (g_RESERVED : PySem.W.nsIn K mainGlobals "RESERVED" = some (some (.ref a_RESERVED))) (h_RESERVED : K.lookup a_RESERVED = some ⟨.type "tuple", d_RESERVED, .seq #[.str ("program" : Str) TRESERVED_0, .str ("data" : Str) TRESERVED_1, .str ("files" : Str) TRESERVED_2, .str ("procedure" : Str) TRESERVED_3, .str ("picture" : Str) TRESERVED_4, .str ("occurs" : Str) TRESERVED_5, .str ("value" : Str) TRESERVED_6, .str ("input" : Str) TRESERVED_7, .str ("output" : Str) TRESERVED_8, .str ("record" : Str) TRESERVED_9, .str ("move" : Str) TRESERVED_10, .str ("to" : Str) TRESERVED_11, .str ("set" : Str) TRESERVED_12, .str ("rounded" : Str) TRESERVED_13, .str ("else" : Str) TRESERVED_14, .str ("end" : Str) TRESERVED_15, .str ("divide" : Str) TRESERVED_16, .str ("by" : Str) TRESERVED_17, .str ("giving" : Str) TRESERVED_18, .str ("remainder" : Str) TRESERVED_19, .str ("if" : Str) TRESERVED_20, .str ("then" : Str) TRESERVED_21, .str ("perform" : Str) TRESERVED_22, .str ("thru" : Str) TRESERVED_23, .str ("times" : Str) TRESERVED_24, .str ("until" : Str) TRESERVED_25, .str ("varying" : Str) TRESERVED_26, .str ("from" : Str) TRESERVED_27, .str ("read" : Str) TRESERVED_28, .str ("at" : Str) TRESERVED_29, .str ("bad" : Str) TRESERVED_30, .str ("write" : Str) TRESERVED_31, .str ("show" : Str) TRESERVED_32, .str ("sort" : Str) TRESERVED_33, .str ("descending" : Str) TRESERVED_34, .str ("clear" : Str) TRESERVED_35, .str ("stop" : Str) TRESERVED_36, .str ("not" : Str) TRESERVED_37, .str ("and" : Str) TRESERVED_38, .str ("or" : Str) TRESERVED_39, .str ("digits" : Str) TRESERVED_40, .str ("text" : Str) TRESERVED_41] n_RESERVED, s_RESERVED⟩)
    : LamX.LawAtS l w K CX0 3 63 "script" mg fa h := by
  have e := hfa.symm.trans (PySem.W.mg_of X G ax14)
  cases e
  have B : Blt w K mg := ⟨PySem.W.mg_none_of X G z_all, PySem.W.mg_none_of X G z_bool, PySem.W.mg_none_of X G z_int, PySem.W.mg_none_of X G z_isinstance, PySem.W.mg_none_of X G z_len, PySem.W.mg_none_of X G z_list, PySem.W.mg_none_of X G z_max, PySem.W.mg_none_of X G z_min, PySem.W.mg_none_of X G z_ord, PySem.W.mg_none_of X G z_range, PySem.W.mg_none_of X G z_str, PySem.W.mg_none_of X G z_tuple, ⟨_, PySem.W.mg_of X G g_FIGURES, _, congrArg (Value.str · _) (by decide +kernel)⟩, ⟨_, PySem.W.mg_of X G g_FIRST_PRINTABLE, _, rfl⟩, ⟨_, PySem.W.mg_of X G g_LAST_PRINTABLE, _, rfl⟩, ⟨_, PySem.W.mg_of X G g_LETTERS, _, congrArg (Value.str · _) (by decide +kernel)⟩, ⟨_, PySem.W.mg_of X G g_MOST_NAME, _, rfl⟩, ⟨_, PySem.W.mg_of X G g_NOT_PRINTABLE, _, rfl⟩, WP.KTp.mk' (PySem.W.mg_of X G g_RESERVED) (fun _ => .inr ⟨_, _, _, h_RESERVED, rfl, rfl, WP.sz (show 42 ≤ 1000000 by decide), (.cons ⟨_, congrArg (Value.str · _) (by decide +kernel)⟩ (.cons ⟨_, congrArg (Value.str · _) (by decide +kernel)⟩ (.cons ⟨_, congrArg (Value.str · _) (by decide +kernel)⟩ (.cons ⟨_, congrArg (Value.str · _) (by decide +kernel)⟩ (.cons ⟨_, congrArg (Value.str · _) (by decide +kernel)⟩ (.cons ⟨_, congrArg (Value.str · _) (by decide +kernel)⟩ (.cons ⟨_, congrArg (Value.str · _) (by decide +kernel)⟩ (.cons ⟨_, congrArg (Value.str · _) (by decide +kernel)⟩ (.cons ⟨_, congrArg (Value.str · _) (by decide +kernel)⟩ (.cons ⟨_, congrArg (Value.str · _) (by decide +kernel)⟩ (.cons ⟨_, congrArg (Value.str · _) (by decide +kernel)⟩ (.cons ⟨_, congrArg (Value.str · _) (by decide +kernel)⟩ (.cons ⟨_, congrArg (Value.str · _) (by decide +kernel)⟩ (.cons ⟨_, congrArg (Value.str · _) (by decide +kernel)⟩ (.cons ⟨_, congrArg (Value.str · _) (by decide +kernel)⟩ (.cons ⟨_, congrArg (Value.str · _) (by decide +kernel)⟩ (.cons ⟨_, congrArg (Value.str · _) (by decide +kernel)⟩ (.cons ⟨_, congrArg (Value.str · _) (by decide +kernel)⟩ (.cons ⟨_, congrArg (Value.str · _) (by decide +kernel)⟩ (.cons ⟨_, congrArg (Value.str · _) (by decide +kernel)⟩ (.cons ⟨_, congrArg (Value.str · _) (by decide +kernel)⟩ (.cons ⟨_, congrArg (Value.str · _) (by decide +kernel)⟩ (.cons ⟨_, congrArg (Value.str · _) (by decide +kernel)⟩ (.cons ⟨_, congrArg (Value.str · _) (by decide +kernel)⟩ (.cons ⟨_, congrArg (Value.str · _) (by decide +kernel)⟩ (.cons ⟨_, congrArg (Value.str · _) (by decide +kernel)⟩ (.cons ⟨_, congrArg (Value.str · _) (by decide +kernel)⟩ (.cons ⟨_, congrArg (Value.str · _) (by decide +kernel)⟩ (.cons ⟨_, congrArg (Value.str · _) (by decide +kernel)⟩ (.cons ⟨_, congrArg (Value.str · _) (by decide +kernel)⟩ (.cons ⟨_, congrArg (Value.str · _) (by decide +kernel)⟩ (.cons ⟨_, congrArg (Value.str · _) (by decide +kernel)⟩ (.cons ⟨_, congrArg (Value.str · _) (by decide +kernel)⟩ (.cons ⟨_, congrArg (Value.str · _) (by decide +kernel)⟩ (.cons ⟨_, congrArg (Value.str · _) (by decide +kernel)⟩ (.cons ⟨_, congrArg (Value.str · _) (by decide +kernel)⟩ (.cons ⟨_, congrArg (Value.str · _) (by decide +kernel)⟩ (.cons ⟨_, congrArg (Value.str · _) (by decide +kernel)⟩ (.cons ⟨_, congrArg (Value.str · _) (by decide +kernel)⟩ (.cons ⟨_, congrArg (Value.str · _) (by decide +kernel)⟩ (.cons ⟨_, congrArg (Value.str · _) (by decide +kernel)⟩ (.cons ⟨_, congrArg (Value.str · _) (by decide +kernel)⟩ .nil))))))))))))))))))))))))))))))))))))))))))⟩)⟩
  have Fx0 := fun_mk (st := s__law_rich) lx0 cx0 kx0
  have bx0 := Fx0.binds (ps := ["cell", "k"]) fun _ _ _ _ _ _ us hl => match us, hl with | [_, _], _ => rfl
  have Cx0 : ∀ base : Heap, K.In base → base.Ns mainGlobals mg → (∀ p ∈ ([(Kcx7, Ktx7), (Kcx12, Ktx12)] : List (Addr × Addr)), LamX.TabB base mg p.1 p.2) → WP.Callee l.prog w K mg base CX0 1 "_law_rich" ["cell", "k"] (sp__law_rich K mg) := fun base p1 p2 p3 => WP.Callee.mk' (ok__law_rich Fx0 B ) (PySem.W.mg_of X G ax0) kx0 bx0
  have Fx1 := fun_mk (st := s__law_word) lx1 cx1 kx1
  have bx1 := Fx1.binds (ps := ["size", "chars", "seed"]) fun _ _ _ _ _ _ us hl => match us, hl with | [_, _, _], _ => rfl
  have Cx1 : ∀ base : Heap, K.In base → base.Ns mainGlobals mg → (∀ p ∈ ([(Kcx7, Ktx7), (Kcx12, Ktx12)] : List (Addr × Addr)), LamX.TabB base mg p.1 p.2) → WP.Callee l.prog w K mg base CX0 1 "_law_word" ["size", "chars", "seed"] (sp__law_word K mg) := fun base p1 p2 p3 => WP.Callee.mk' (ok__law_word Fx1 B ) (PySem.W.mg_of X G ax1) kx1 bx1
  have Fx2 := fun_mk (st := s__law_reserved) lx2 cx2 kx2
  have bx2 := Fx2.binds (ps := []) fun _ _ _ _ _ _ us hl => match us, hl with | [], _ => rfl
  have Cx2 : ∀ base : Heap, K.In base → base.Ns mainGlobals mg → (∀ p ∈ ([(Kcx7, Ktx7), (Kcx12, Ktx12)] : List (Addr × Addr)), LamX.TabB base mg p.1 p.2) → WP.Callee l.prog w K mg base CX0 1 "_law_reserved" [] (sp__law_reserved K mg) := fun base p1 p2 p3 => WP.Callee.mk' (ok__law_reserved Fx2 B ) (PySem.W.mg_of X G ax2) kx2 bx2
  have Fx3 := fun_mk (st := s__law_printable) lx3 cx3 kx3
  have bx3 := Fx3.binds (ps := []) fun _ _ _ _ _ _ us hl => match us, hl with | [], _ => rfl
  have Cx3 : ∀ base : Heap, K.In base → base.Ns mainGlobals mg → (∀ p ∈ ([(Kcx7, Ktx7), (Kcx12, Ktx12)] : List (Addr × Addr)), LamX.TabB base mg p.1 p.2) → WP.Callee l.prog w K mg base CX0 1 "_law_printable" [] (sp__law_printable K mg) := fun base p1 p2 p3 => WP.Callee.mk' (ok__law_printable Fx3 B ) (PySem.W.mg_of X G ax3) kx3 bx3
  have Fx4 := fun_mk (st := s__law_built) lx4 cx4 kx4
  have bx4 := Fx4.binds (ps := ["rich"]) fun _ _ _ _ _ _ us hl => match us, hl with | [_], _ => rfl
  have Cx4 : ∀ base : Heap, K.In base → base.Ns mainGlobals mg → (∀ p ∈ ([(Kcx7, Ktx7), (Kcx12, Ktx12)] : List (Addr × Addr)), LamX.TabB base mg p.1 p.2) → WP.Callee l.prog w K mg base CX0 2 "_law_built" ["rich"] (sp__law_built K mg) := fun base p1 p2 p3 => WP.Callee.mk' (ok__law_built Fx4 B (Cx1 base p1 p2 p3) (Cx2 base p1 p2 p3) (Cx3 base p1 p2 p3)) (PySem.W.mg_of X G ax4) kx4 bx4
  have Fx5 := fun_mk (st := s__law_cell) lx5 cx5 kx5
  have bx5 := Fx5.binds (ps := ["script", "k"]) fun _ _ _ _ _ _ us hl => match us, hl with | [_, _], _ => rfl
  have Cx5 : ∀ base : Heap, K.In base → base.Ns mainGlobals mg → (∀ p ∈ ([(Kcx7, Ktx7), (Kcx12, Ktx12)] : List (Addr × Addr)), LamX.TabB base mg p.1 p.2) → WP.Callee l.prog w K mg base CX0 1 "_law_cell" ["script", "k"] (sp__law_cell K mg) := fun base p1 p2 p3 => WP.Callee.mk' (ok__law_cell Fx5 B ) (PySem.W.mg_of X G ax5) kx5 bx5
  have Fx6 := fun_mk (st := s__law_same) lx6 cx6 kx6
  have bx6 := Fx6.binds (ps := ["actual", "due"]) fun _ _ _ _ _ _ us hl => match us, hl with | [_, _], _ => rfl
  have Cx6 : ∀ base : Heap, K.In base → base.Ns mainGlobals mg → (∀ p ∈ ([(Kcx7, Ktx7), (Kcx12, Ktx12)] : List (Addr × Addr)), LamX.TabB base mg p.1 p.2) → WP.Callee l.prog w K mg base CX0 1 "_law_same" ["actual", "due"] (sp__law_same K mg) := fun base p1 p2 p3 => WP.Callee.mk' (ok__law_same Fx6 B ) (PySem.W.mg_of X G ax6) kx6 bx6
  have Fx7 := fun_mk (st := s__has_only) lx7 cx7 kx7
  have FCx7 := WP.funC_mk (st := s__has_only) (y := "_has_only") lx7 cx7 tbx7
  have bx7 := Fx7.binds (ps := ["text", "characters"]) fun _ _ _ _ _ _ us hl => match us, hl with | [_, _], _ => rfl
  have Cx7 : ∀ base : Heap, K.In base → base.Ns mainGlobals mg → (∀ p ∈ ([(Kcx7, Ktx7), (Kcx12, Ktx12)] : List (Addr × Addr)), LamX.TabB base mg p.1 p.2) → WP.Callee l.prog w K mg base CX0 1 "_has_only" ["text", "characters"] (sp__has_only K mg) := fun base p1 p2 p3 => WP.Callee.mk' (ok__has_only FCx7 (WP.tabB_of (p3 (Kcx7, Ktx7) (.head _)) tbx7) B ) (PySem.W.mg_of X G ax7) kx7 bx7
  have Fx8 := fun_mk (st := s_is_name) lx8 cx8 kx8
  have bx8 := Fx8.binds (ps := ["value"]) fun _ _ _ _ _ _ us hl => match us, hl with | [_], _ => rfl
  have Cx8 : ∀ base : Heap, K.In base → base.Ns mainGlobals mg → (∀ p ∈ ([(Kcx7, Ktx7), (Kcx12, Ktx12)] : List (Addr × Addr)), LamX.TabB base mg p.1 p.2) → WP.Callee l.prog w K mg base CX0 2 "is_name" ["value"] (sp_is_name K mg) := fun base p1 p2 p3 => WP.Callee.mk' (ok_is_name Fx8 B (Cx7 base p1 p2 p3)) (PySem.W.mg_of X G ax8) kx8 bx8
  have Fx9 := fun_mk (st := s__law_all_in) lx9 cx9 kx9
  have bx9 := Fx9.binds (ps := ["word", "chars"]) fun _ _ _ _ _ _ us hl => match us, hl with | [_, _], _ => rfl
  have Cx9 : ∀ base : Heap, K.In base → base.Ns mainGlobals mg → (∀ p ∈ ([(Kcx7, Ktx7), (Kcx12, Ktx12)] : List (Addr × Addr)), LamX.TabB base mg p.1 p.2) → WP.Callee l.prog w K mg base CX0 1 "_law_all_in" ["word", "chars"] (sp__law_all_in K mg) := fun base p1 p2 p3 => WP.Callee.mk' (ok__law_all_in Fx9 B ) (PySem.W.mg_of X G ax9) kx9 bx9
  have Fx10 := fun_mk (st := s__law_is_name) lx10 cx10 kx10
  have bx10 := Fx10.binds (ps := ["word"]) fun _ _ _ _ _ _ us hl => match us, hl with | [_], _ => rfl
  have Cx10 : ∀ base : Heap, K.In base → base.Ns mainGlobals mg → (∀ p ∈ ([(Kcx7, Ktx7), (Kcx12, Ktx12)] : List (Addr × Addr)), LamX.TabB base mg p.1 p.2) → WP.Callee l.prog w K mg base CX0 2 "_law_is_name" ["word"] (sp__law_is_name K mg) := fun base p1 p2 p3 => WP.Callee.mk' (ok__law_is_name Fx10 B (Cx9 base p1 p2 p3) (Cx2 base p1 p2 p3)) (PySem.W.mg_of X G ax10) kx10 bx10
  have Fx11 := fun_mk (st := s_are_figures) lx11 cx11 kx11
  have bx11 := Fx11.binds (ps := ["value"]) fun _ _ _ _ _ _ us hl => match us, hl with | [_], _ => rfl
  have Cx11 : ∀ base : Heap, K.In base → base.Ns mainGlobals mg → (∀ p ∈ ([(Kcx7, Ktx7), (Kcx12, Ktx12)] : List (Addr × Addr)), LamX.TabB base mg p.1 p.2) → WP.Callee l.prog w K mg base CX0 2 "are_figures" ["value"] (sp_are_figures K mg) := fun base p1 p2 p3 => WP.Callee.mk' (ok_are_figures Fx11 B (Cx7 base p1 p2 p3)) (PySem.W.mg_of X G ax11) kx11 bx11
  have Fx12 := fun_mk (st := s_is_printable) lx12 cx12 kx12
  have FCx12 := WP.funC_mk (st := s_is_printable) (y := "is_printable") lx12 cx12 tbx12
  have bx12 := Fx12.binds (ps := ["value"]) fun _ _ _ _ _ _ us hl => match us, hl with | [_], _ => rfl
  have Cx12 : ∀ base : Heap, K.In base → base.Ns mainGlobals mg → (∀ p ∈ ([(Kcx7, Ktx7), (Kcx12, Ktx12)] : List (Addr × Addr)), LamX.TabB base mg p.1 p.2) → WP.Callee l.prog w K mg base CX0 1 "is_printable" ["value"] (sp_is_printable K mg) := fun base p1 p2 p3 => WP.Callee.mk' (ok_is_printable FCx12 (WP.tabB_of (p3 (Kcx12, Ktx12) (.tail _ (.head _))) tbx12) B ) (PySem.W.mg_of X G ax12) kx12 bx12
  have Fx13 := fun_mk (st := s_is_integer) lx13 cx13 kx13
  have bx13 := Fx13.binds (ps := ["value", "least", "greatest"]) fun _ _ _ _ _ _ us hl => match us, hl with | [_, _, _], _ => rfl
  have Cx13 : ∀ base : Heap, K.In base → base.Ns mainGlobals mg → (∀ p ∈ ([(Kcx7, Ktx7), (Kcx12, Ktx12)] : List (Addr × Addr)), LamX.TabB base mg p.1 p.2) → WP.Callee l.prog w K mg base CX0 1 "is_integer" ["value", "least", "greatest"] (sp_is_integer K mg) := fun base p1 p2 p3 => WP.Callee.mk' (ok_is_integer Fx13 B ) (PySem.W.mg_of X G ax13) kx13 bx13
  have Fx14 := fun_mk (st := s_law) lx14 cx14 kx14
  exact ⟨PySem.W.fnOf "law" "law" (defArgs s_law) (defBody s_law) (defScope s_law) .none kVx14 dcx14 pmx14 anx14 cdx14 ctx14, [(Kcx7, Ktx7), (Kcx12, Ktx12)], sp_law K, (List.forall_mem_cons.mpr ⟨hdx7.2, (List.forall_mem_cons.mpr ⟨hdx12.2, (fun _ h => nomatch h)⟩)⟩), (List.forall_mem_cons.mpr ⟨nkx7, (List.forall_mem_cons.mpr ⟨nkx12, (fun _ h => nomatch h)⟩)⟩), (List.forall_mem_cons.mpr ⟨hdx7.1, (List.forall_mem_cons.mpr ⟨hdx12.1, (fun _ h => nomatch h)⟩)⟩), fun s v => .of_eq rfl, fun H a ns hl _ hT hS => ⟨a, ns, rfl, hS, hl, ⟨#[], by rw [WP.tbl_of tbx7]; exact hT (Kcx7, Ktx7) (.head _), True.intro⟩, ⟨#[], by rw [WP.tbl_of tbx12]; exact hT (Kcx12, Ktx12) (.tail _ (.head _)), True.intro⟩, fun _ => rfl⟩, fun base p1 p2 p3 => ok_law Fx14 B (Cx0 base p1 p2 p3) (Cx4 base p1 p2 p3) (Cx5 base p1 p2 p3) (Cx6 base p1 p2 p3) (Cx2 base p1 p2 p3) (Cx8 base p1 p2 p3) (Cx10 base p1 p2 p3) (Cx11 base p1 p2 p3) (Cx12 base p1 p2 p3) (Cx13 base p1 p2 p3) (Cx9 base p1 p2 p3) (Cx3 base p1 p2 p3)⟩
end D
open PySem PySem.W PyProof.Rows
set_option maxRecDepth 100000 in
set_option maxHeartbeats 0 in
theorem PySem.Challenge.cw_cardwright_k01_words_holds : PySem.Challenge.rw_cardwright_k01_words.Holds := by
  w_on; o_law; k_head; (case hw => w_witness2)
  k_fill
  refine WP.walk_ofG (l := PySem.Challenge.rw_cardwright_k01_words) (n := 63) (k := 3) (x := "script") (CX := fun _ => L2.CX0) rfl (by decide) rfl ⟨rfl, by decide, by decide⟩ (fun w h Y => PySem.W.kIn_of Y) ?F (fun _ _ _ _ _ z => z)
  case F =>
    intro w mg fa h Y KX G hmg hT
    refine' D.all_mk KX G hmg ?ax0 ?lx0 ?cx0 ?kx0 ?ax1 ?lx1 ?cx1 ?kx1 ?ax2 ?lx2 ?cx2 ?kx2 ?ax3 ?lx3 ?cx3 ?kx3 ?ax4 ?lx4 ?cx4 ?kx4 ?ax5 ?lx5 ?cx5 ?kx5 ?ax6 ?lx6 ?cx6 ?kx6 ?ax7 ?tbx7 ?lx7 ?cx7 ?kx7 ?hdx7 ?nkx7 ?ax8 ?lx8 ?cx8 ?kx8 ?ax9 ?lx9 ?cx9 ?kx9 ?ax10 ?lx10 ?cx10 ?kx10 ?ax11 ?lx11 ?cx11 ?kx11 ?ax12 ?tbx12 ?lx12 ?cx12 ?kx12 ?hdx12 ?nkx12 ?ax13 ?lx13 ?cx13 ?kx13 ?ax14 ?lx14 ?cx14 ?kx14 ?z_all ?z_bool ?z_int ?z_isinstance ?z_len ?z_list ?z_max ?z_min ?z_ord ?z_range ?z_str ?z_tuple ?g_FIGURES ?g_FIRST_PRINTABLE ?g_LAST_PRINTABLE ?g_LETTERS ?g_MOST_NAME ?g_NOT_PRINTABLE ?g_RESERVED ?h_RESERVED
    (case ax0 => k_is); (case lx0 => k_is); (case cx0 => k_is); (case kx0 => k_is); (case ax1 => k_is); (case lx1 => k_is)
    (case cx1 => k_is); (case kx1 => k_is); (case ax2 => k_is); (case lx2 => k_is); (case cx2 => k_is); (case kx2 => k_is)
    (case ax3 => k_is); (case lx3 => k_is); (case cx3 => k_is); (case kx3 => k_is); (case ax4 => k_is); (case lx4 => k_is)
    (case cx4 => k_is); (case kx4 => k_is); (case ax5 => k_is); (case lx5 => k_is); (case cx5 => k_is); (case kx5 => k_is)
    (case ax6 => k_is); (case lx6 => k_is); (case cx6 => k_is); (case kx6 => k_is); (case ax7 => k_is); (case tbx7 => exact rfl)
    (case lx7 => k_is); (case cx7 => k_is); (case kx7 => k_is); (case hdx7 => exact hT "_has_only" _ _ (by decide +kernel) rfl); (case nkx7 => exact rfl); (case ax8 => k_is)
    (case lx8 => k_is); (case cx8 => k_is); (case kx8 => k_is); (case ax9 => k_is); (case lx9 => k_is); (case cx9 => k_is)
    (case kx9 => k_is); (case ax10 => k_is); (case lx10 => k_is); (case cx10 => k_is); (case kx10 => k_is); (case ax11 => k_is)
    (case lx11 => k_is); (case cx11 => k_is); (case kx11 => k_is); (case ax12 => k_is); (case tbx12 => exact rfl); (case lx12 => k_is)
    (case cx12 => k_is); (case kx12 => k_is); (case hdx12 => exact hT "is_printable" _ _ (by decide +kernel) rfl); (case nkx12 => exact rfl); (case ax13 => k_is); (case lx13 => k_is)
    (case cx13 => k_is); (case kx13 => k_is); (case ax14 => k_is); (case lx14 => k_is); (case cx14 => k_is); (case kx14 => k_is)
    (case z_all => k_is); (case z_bool => k_is); (case z_int => k_is); (case z_isinstance => k_is); (case z_len => k_is); (case z_list => k_is)
    (case z_max => k_is); (case z_min => k_is); (case z_ord => k_is); (case z_range => k_is); (case z_str => k_is); (case z_tuple => k_is)
    (case g_FIGURES => k_is); (case g_FIRST_PRINTABLE => k_is); (case g_LAST_PRINTABLE => k_is); (case g_LETTERS => k_is); (case g_MOST_NAME => k_is); (case g_NOT_PRINTABLE => k_is)
    (case g_RESERVED => k_is); (case h_RESERVED => k_is)
#print axioms PySem.Challenge.cw_cardwright_k01_words_holds
