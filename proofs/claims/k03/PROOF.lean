import PyProof.Rows.All
import Wide.All
import OpenK.AllK
import Wide.FinOn
import HandS.ForMost
import HandS.Wide
import HandS.IsInst
import HandS.Evl
import HandS.ForExc
import HandS.ExcIs
import HandS.WideBits
import PySem.Challenge.RW_cardwright_k03_cutting_and_rounding
set_option Elab.async false
set_option linter.all false
set_option maxRecDepth 100000
set_option maxHeartbeats 4000000
namespace WP
open PySem PySem.Spec PyProof.Rows L2

/-! ### a def that may be called -/
structure Callee (P : Program) (w : World) (K : PySem.W.Frag) (mg : Str → Option Value) (base : Heap) (CX : CXT) (lv : Nat) (nm : Str) (ps : List Str) (sp : Sp) : Prop where
  ex : ∃ (f : Addr) (fd : FuncData), FnOk P w K mg base CX lv f fd ps sp ∧ mg nm = some (.ref f) ∧ PySem.W.keepIn K (.ref f) = true ∧ Binds K fd ps []
theorem Callee.mk' {P : Program} {w : World} {K : PySem.W.Frag} {mg : Str → Option Value} {base : Heap} {CX : CXT} {lv : Nat} {nm : Str} {ps : List Str} {sp : Sp} {f : Addr} {fd : FuncData}
    (h : FnOk P w K mg base CX lv f fd ps sp) (m : mg nm = some (.ref f)) (k : PySem.W.keepIn K (.ref f) = true) (b : Binds K fd ps []) : Callee P w K mg base CX lv nm ps sp := ⟨⟨f, fd, h, m, k, b⟩⟩
section
variable {X : Cx} {CX : CXT} {k j : Nat} {ps : List Str} {sp : Sp} {E : XK} {x : Str} {p pos : Pos} {e : Expr} {es : List Expr} {t : TA}
theorem pe_callC (C : Callee X.prog X.w X.K X.mg X.base CX k x ps sp) (hr : Room j X.A) (hg : Gl X x) (hx : Passes CX X E) (ha : PA X (e :: es) t) (hl : k ≤ j := by decide)
    (hdb : (x == ("__debug__" : Str)) = false := by decide) (he : starEach (e :: es) X.env = (false, eval e X.env) :: starEach es X.env := by rfl) (hpl : (backTo pos (starEach es X.env)).any (·.1) = false := by rfl) :
    PE X (.Call (.Name x p) (e :: es) [] pos) (tCall sp [] E t) := by
  obtain ⟨f, fd, F, hm, hk, hb⟩ := C.ex
  exact pe_call F (hr.mono hl) hg hm hk hb .nil hx ha hdb he hpl
theorem pe_callC0 (C : Callee X.prog X.w X.K X.mg X.base CX k x ps sp) (hr : Room j X.A) (hg : Gl X x) (hx : Passes CX X E) (hl : k ≤ j := by decide)
    (hdb : (x == ("__debug__" : Str)) = false := by decide) : PE X (.Call (.Name x p) [] [] pos) (tCall sp [] E tNil) := by
  obtain ⟨f, fd, F, hm, hk, hb⟩ := C.ex
  exact pe_call0 F (hr.mono hl) hg hm hk hb .nil hx hdb
end

/-! ### readings, a step at a time -/
section
variable {σ : L2.St} {H : Hp} {D : Ends} {t u : TS} {te ta tb : TE} {tt tu : TT} {g : TG} {Q : VK} {QB : Bool → Hp → Prop} {QA : List V → Hp → Prop} {r : R2} {i j : Int} {n : Nat} {v x y : V}
theorem seq (h : t { D with nx := u D } σ H) : tSeq t u D σ H := h
theorem asg (h : te σ H fun x H1 => g x σ H1 D.nx) : tAsg te g D σ H := h
theorem name {QS : L2.St → Hp → Prop} (h : QS (σ.set n (some v)) H) : gName n v σ H QS := h
theorem var (e : σ[n]? = some (some v)) (h : Q v H) : tVar n σ H Q := ⟨v, e, h⟩
theorem con (h : Q v H) : tC v σ H Q := h
theorem op (h : ta σ H fun x H1 => tb σ H1 fun y H2 => r x y H2 Q) : tOp r ta tb σ H Q := h
theorem un {ru : V → Hp → VK → Prop} (h : ta σ H fun x H1 => ru x H1 Q) : tUn ru ta σ H Q := h
theorem rU_ {g : Int → V} (h : Q (g i) H) : rU g (.int i) H Q := ⟨i, rfl, h⟩
theorem i0 {g : Int → Int → V} (h : Q (g i j) H) : rI0 g (.int i) (.int j) H Q := ⟨i, j, rfl, rfl, h⟩
theorem iC {C : Int → Int → Prop} {g : Int → Int → V} (c : C i j) (h : Q (g i j) H) : rI C g (.int i) (.int j) H Q := ⟨i, j, rfl, rfl, c, h⟩
theorem eqS (s : scal x y = true) (h : Q (.bl (decide (x = y))) H) : rEq x y H Q := ⟨s, h⟩
theorem neS (s : scal x y = true) (h : Q (.bl (!decide (x = y))) H) : rNe x y H Q := ⟨s, h⟩
theorem ifS (h : tt σ H fun b H1 => if b = true then t D σ H1 else u D σ H1) : tIfS tt t u D σ H := h
theorem ifE (h : tt σ H fun b H1 => if b = true then ta σ H1 Q else tb σ H1 Q) : tIf tt ta tb σ H Q := h
theorem test (h : te σ H fun x H1 => ∃ k, x = .bl k ∧ QB k H1) : tTest te σ H QB := h
theorem bt (h : te σ H fun x H1 => ∃ k, x = .bl k ∧ QB k H1) : tB te σ H QB := h
theorem isb {b : Bool} (h : QB b H) : ∃ k, V.bl b = V.bl k ∧ QB k H := ⟨b, rfl, h⟩
theorem ret (h : te σ H D.rt) : tRet te D σ H := h
theorem retN (h : D.rt .non H) : tRetN D σ H := h
theorem drop (h : te σ H fun _ H1 => D.nx σ H1) : tDrop te D σ H := h
theorem next (h : D.nx σ H) : tNext D σ H := h
theorem brk (h : D.bk σ H) : tBreak D σ H := h
theorem cont (h : D.ct σ H) : tCont D σ H := h
theorem cb {rc : List V → Hp → VK → Prop} {a : TA} (h : a σ H fun vs H1 => rc vs H1 Q) : tCB rc a σ H Q := h
theorem call {sp : Sp} {E : XK} {a : TA} (h : a σ H fun vs H1 => sp (vs ++ []) H1 Q E) : tCall sp [] E a σ H Q := h
theorem cons {a : TA} (h : te σ H fun x H1 => a σ H1 fun xs H2 => QA (x :: xs) H2) : tCons te a σ H QA := h
theorem nil (h : QA [] H) : tNil σ H QA := h
theorem tup {a : TA} (h : a σ H fun xs H1 => xs.length ≤ sizeLine ∧ ∀ p, H1 p = none → Q (.ref p) (upd H1 p (.tup xs))) : tTup a σ H Q := h
theorem lst {a : TA} (h : a σ H fun xs H1 => xs.length ≤ sizeLine ∧ ∀ p, H1 p = none → Q (.ref p) (upd H1 p (.lst xs))) : tLst a σ H Q := h
theorem notT (h : tt σ H fun c H1 => QB (!c) H1) : tNot tt σ H QB := h
theorem andT (h : tt σ H fun c H1 => if c = true then tu σ H1 QB else QB false H1) : tAnd tt tu σ H QB := h
theorem orT (h : tt σ H fun c H1 => if c = true then QB true H1 else tu σ H1 QB) : tOr tt tu σ H QB := h
theorem andV (h : ta σ H fun x H1 => ∃ c, x = .bl c ∧ if c = true then tb σ H1 Q else Q (.bl false) H1) : tAndV ta tb σ H Q := h
theorem orV (h : ta σ H fun x H1 => ∃ c, x = .bl c ∧ if c = true then Q (.bl true) H1 else tb σ H1 Q) : tOrV ta tb σ H Q := h
theorem notV (h : ta σ H fun x H1 => ∃ c, x = .bl c ∧ Q (.bl (!c)) H1) : tNotV ta σ H Q := h
theorem isbV {b : Bool} {R : Bool → Prop} (h : R b) : ∃ k, V.bl b = V.bl k ∧ R k := ⟨b, rfl, h⟩
theorem sl {r : V → Option Int → Option Int → Hp → VK → Prop} {tl th : TO} (h : te σ H fun x H1 => tl σ H1 fun l H2 => th σ H2 fun u H3 => r x l u H3 Q) : tSl r te tl th σ H Q := h
theorem noPart {QO : Option Int → Hp → Prop} (h : QO none H) : tNoPart σ H QO := h
theorem part {QO : Option Int → Hp → Prop} (h : te σ H fun x H1 => ∃ i, x = .int i ∧ QO (some i) H1) : tPart te σ H QO := h
theorem isi {R : Int → Prop} (h : R i) : ∃ k, V.int i = V.int k ∧ R k := ⟨i, rfl, h⟩
/-- tests -/
theorem br {c A B : Prop} [Decidable c] (h1 : c → A) (h2 : ¬ c → B) : if decide c = true then A else B := by
  by_cases h : c
  · rw [decide_eq_true h, if_pos rfl]; exact h1 h
  · rw [decide_eq_false h, if_neg Bool.false_ne_true]; exact h2 h
theorem brN {c A B : Prop} [Decidable c] (h1 : ¬ c → A) (h2 : c → B) : if (!decide c) = true then A else B := by
  by_cases h : c
  · rw [decide_eq_true h]; exact iteF (h2 h)
  · rw [decide_eq_false h]; exact iteT (h1 h)
theorem brT {b : Bool} {A B : Prop} (e : b = true) (h : A) : if b = true then A else B := by rw [if_pos e]; exact h
theorem brF {b : Bool} {A B : Prop} (e : b = false) (h : B) : if b = true then A else B := by rw [if_neg (by rw [e]; exact Bool.false_ne_true)]; exact h
theorem brB {b : Bool} {A B : Prop} (h1 : b = true → A) (h2 : b = false → B) : if b = true then A else B := by
  cases b
  · exact iteF (h2 rfl)
  · exact iteT (h1 rfl)
theorem dec_int {i j : Int} : decide (V.int i = V.int j) = decide (i = j) := by
  by_cases h : i = j
  · rw [decide_eq_true h, decide_eq_true (congrArg V.int h)]
  · rw [decide_eq_false h, decide_eq_false fun e => h (V.int.inj e)]
theorem dec_str {i j : Str} : decide (V.str i = V.str j) = decide (i = j) := by
  by_cases h : i = j
  · rw [decide_eq_true h, decide_eq_true (congrArg V.str h)]
  · rw [decide_eq_false h, decide_eq_false fun e => h (V.str.inj e)]
theorem dec_bl {i j : Bool} : decide (V.bl i = V.bl j) = decide (i = j) := by
  by_cases h : i = j
  · rw [decide_eq_true h, decide_eq_true (congrArg V.bl h)]
  · rw [decide_eq_false h, decide_eq_false fun e => h (V.bl.inj e)]
theorem eqI (h : Q (.bl (decide (i = j))) H) : rEq (.int i) (.int j) H Q := ⟨rfl, by rw [dec_int]; exact h⟩
theorem neI (h : Q (.bl (!decide (i = j))) H) : rNe (.int i) (.int j) H Q := ⟨rfl, by rw [dec_int]; exact h⟩
theorem eqT {a b : Str} (h : Q (.bl (decide (a = b))) H) : rEq (.str a) (.str b) H Q := ⟨rfl, by rw [dec_str]; exact h⟩
theorem neT {a b : Str} (h : Q (.bl (!decide (a = b))) H) : rNe (.str a) (.str b) H Q := ⟨rfl, by rw [dec_str]; exact h⟩
theorem eqB {a b : Bool} (h : Q (.bl (decide (a = b))) H) : rEq (.bl a) (.bl b) H Q := ⟨rfl, by rw [dec_bl]; exact h⟩
theorem neB {a b : Bool} (h : Q (.bl (!decide (a = b))) H) : rNe (.bl a) (.bl b) H Q := ⟨rfl, by rw [dec_bl]; exact h⟩
end
/-! ### numbers of a known number of bits -/
theorem sz2 : (2 : Nat) ≤ sizeLine := by rw [sizeLine_eq]; decide
theorem sz {n : Nat} (h : n ≤ 1000000) : n ≤ sizeLine := by rw [sizeLine_eq]; omega
end WP
namespace WP
open PySem PySem.Spec PyProof.Rows L2
section
variable {X : Cx} {x : Str} {v : V} {pos : Pos}
theorem pe_const (hg : Gl X x) (h : ∃ u, X.mg x = some u ∧ RelV v u) (hd : (x == ("__debug__" : Str)) = false := by decide) : PE X (.Name x pos) (tC v) := by
  obtain ⟨u, hm, r⟩ := h
  exact pe_glob hg hm r hd
end
/-- a number of at most a bits -/
def Bt (i : Int) (a : Nat) : Prop := i.natAbs < 2 ^ a
theorem Bt.mono {i : Int} {a b : Nat} (h : Bt i a) (l : a ≤ b) : Bt i b := Nat.lt_of_lt_of_le h (Nat.pow_le_pow_right (by decide) l)
theorem Bt.mul {i j : Int} {a b : Nat} (h : Bt i a) (k : Bt j b) : Bt (i * j) (a + b) := wide_lt h k
theorem Bt.neg {i : Int} {a : Nat} (h : Bt i a) : Bt (-i) a := by unfold Bt at *; rw [Int.natAbs_neg]; exact h
theorem Bt.add {i j : Int} {a : Nat} (h : Bt i a) (k : Bt j a) : Bt (i + j) (a + 1) := by
  unfold Bt at *
  have := Int.natAbs_add_le i j
  rw [Nat.pow_succ]; omega
theorem Bt.sub {i j : Int} {a : Nat} (h : Bt i a) (k : Bt j a) : Bt (i - j) (a + 1) := by
  rw [Int.sub_eq_add_neg]; exact h.add k.neg
theorem Bt.le {i j : Int} {a : Nat} (h : Bt i a) (k : j.natAbs ≤ i.natAbs) : Bt j a := Nat.lt_of_le_of_lt k h
theorem Bt.ten (n : Nat) : Bt (10 ^ n) (4 * n + 1) := by
  unfold Bt
  have e : ((10 : Int) ^ n).natAbs = 10 ^ n := by rw [Int.natAbs_pow]; rfl
  rw [e]
  have h : 10 ^ n ≤ 16 ^ n := Nat.pow_le_pow_left (by decide) n
  have h2 : (16 : Nat) ^ n = 2 ^ (4 * n) := by rw [show (16 : Nat) = 2 ^ 4 from rfl, ← Nat.pow_mul]
  rw [h2] at h
  rw [Nat.pow_succ]
  have : 0 < 2 ^ (4 * n) := Nat.pow_pos (by decide)
  omega
theorem Bt.w {i j : Int} {a b : Nat} (h : Bt i a) (k : Bt j b) (l : a + b ≤ 999998 := by omega) : CMulW i j :=
  wide_mul (h.mono (Nat.le_succ a)) (k.mono (Nat.le_succ b)) (Nat.succ_pos _) (Nat.succ_pos _) (by omega)
theorem Bt.d {j : Int} {b : Nat} (h : 0 < j) (k : Bt j b) (l : b ≤ 8999 := by omega) : CDivW 0 j := wide_div h (k.mono (Nat.le_succ b)) (Nat.succ_pos _) (by omega)
theorem Bt.d' {i j : Int} {b : Nat} (h : 0 < j) (k : Bt j b) (l : b ≤ 8999 := by omega) : CDivW i j := Bt.d h k l
theorem ten_pos (n : Nat) : (0 : Int) < 10 ^ n := Int.pow_pos (by decide)
end WP
namespace WP
open PySem PySem.Spec PyProof.Rows L2
/-! ### what comes back -/
def RetT (xs : List V) (H : Hp) (Q : VK) : Prop := ∀ p H', Same H H' → H' p = some (.tup xs) → Q (.ref p) H'
def RetL (xs : List V) (H : Hp) (Q : VK) : Prop := ∀ p H', H p = none → Same H H' → H' p = some (.lst xs) → Q (.ref p) H'
def RetV (v : V) (H : Hp) (Q : VK) : Prop := ∀ H', Same H H' → Q v H'
theorem same_new {H : Hp} {p : Addr} {o : HO} (h : H p = none) : Same H (upd H p o) := fun b u e => by
  rw [upd_ne (ne_of_none e h)]; exact e
theorem same_mut {H H' : Hp} {p : Addr} {o : HO} (e : Same H H') (h : H p = none) : Same H (upd H' p o) := fun a u ha => by
  rw [upd_ne (ne_of_none ha h)]; exact e a u ha
theorem sqt {K : PySem.W.Frag} {H H' : Hp} {a : Addr} {xs : List V} (e : Same H H') (h : SqT K H a xs) : SqT K H' a xs := by
  rcases h with (h | ⟨o, h⟩) | h
  · exact .inl (.inl (e _ _ h))
  · exact .inl (.inr ⟨o, e _ _ h⟩)
  · exact .inr h
theorem RetT.new {xs : List V} {H H' : Hp} {Q : VK} (k : RetT xs H Q) (e : Same H H') : ∀ p, H' p = none → Q (.ref p) (upd H' p (.tup xs)) := fun p hp =>
  k p _ (e.trans (same_new hp)) upd_same
theorem RetL.new {xs : List V} {H H' : Hp} {Q : VK} (k : RetL xs H Q) (e : Same H H') : ∀ p, H' p = none → Q (.ref p) (upd H' p (.lst xs)) := fun p hp =>
  k p _ (e.free hp) (e.trans (same_new hp)) upd_same
/-- a decimal's two parts -/
abbrev dv (u : Int) (s : Nat) : List V := [.int u, .int (s : Int)]
theorem at0 {α : Type} {x : α} {xs : List α} : atI (x :: xs) (0 : Int) = some x := atI_nat (j := 0) rfl
theorem at1 {α : Type} {x y : α} {xs : List α} : atI (x :: y :: xs) (1 : Int) = some y := atI_nat (j := 1) rfl
theorem at2 {α : Type} {x y z : α} {xs : List α} : atI (x :: y :: z :: xs) (2 : Int) = some z := atI_nat (j := 2) rfl
theorem at3 {α : Type} {x y z u : α} {xs : List α} : atI (x :: y :: z :: u :: xs) (3 : Int) = some u := atI_nat (j := 3) rfl
theorem at4 {α : Type} {x y z u v : α} {xs : List α} : atI (x :: y :: z :: u :: v :: xs) (4 : Int) = some v := atI_nat (j := 4) rfl
section
variable {K : PySem.W.Frag} {H : Hp} {p : Addr} {xs : List V} {v : V} {i : Int} {Q : VK}
theorem ixT (h : SqT K H p xs) (a : atI xs i = some v) (q : Q v H) : rIxT K (.ref p) (.int i) H Q := ⟨p, xs, i, v, rfl, rfl, h, a, q⟩
theorem ixL (h : SqL K H p xs) (a : atI xs i = some v) (q : Q v H) : rIxL K (.ref p) (.int i) H Q := ⟨p, xs, i, v, rfl, rfl, h, a, q⟩
theorem unT {n : Nat} {t : TGs} {σ : L2.St} {QS : L2.St → Hp → Prop} (h : SqT K H p xs) (l : xs.length = n) (q : t xs σ H QS) : gTup K n t (.ref p) σ H QS := ⟨p, xs, rfl, h, l, q⟩
theorem gsCons {g : TG} {gs : TGs} {x : V} {r : List V} {σ : L2.St} {QS : L2.St → Hp → Prop} (q : g x σ H fun σ' H' => gs r σ' H' QS) : gCons g gs (x :: r) σ H QS := ⟨x, r, rfl, q⟩
theorem gsNil {σ : L2.St} {QS : L2.St → Hp → Prop} (q : QS σ H) : gNil [] σ H QS := ⟨rfl, q⟩
end
end WP
namespace WP
open PySem PySem.Spec PyProof.Rows L2
section
variable {K : PySem.W.Frag} {H : Hp} {p : Addr} {xs : List V} {v x : V} {i : Int} {Q : VK} {σ : L2.St} {D : Ends}
theorem forl {wi : TI} {g : TG} {tb : TS} (h : wi σ H fun J H1 => ∃ W : Nat → Nat → L2.St → Hp → Prop, (∃ m, W 0 m σ H1) ∧ ∀ i m σ H, W i m σ H →
  (J.stop i H ∧ D.nx σ H) ∨ (J.go i H ∧ ∃ N : L2.St → Hp → Prop, (∀ σ' H', N σ' H' → ∃ m', m' < m ∧ W (i + 1) m' σ' H') ∧ ∀ x H', J.yld i H x H' → g x σ H' fun σ2 H2 => tb { D with nx := N, ct := N, bk := D.nx } σ2 H2)) : tFor wi g tb D σ H := h
theorem rng1 {ta : TA} {R : It → Hp → Prop} (h : ta σ H fun vs H1 => ∃ j : Int, vs = [.int j] ∧ -(2 ^ 62) ≤ j ∧ j < 2 ^ 62 ∧ R (Itr 0 j.toNat) H1) : iRng1 ta σ H R := h
theorem rng2 {ta : TA} {R : It → Hp → Prop} (h : ta σ H fun vs H1 => ∃ i j : Int, vs = [.int i, .int j] ∧ (-(2 ^ 62) ≤ i ∧ i < 2 ^ 62 ∧ -(2 ^ 62) ≤ j ∧ j < 2 ^ 62) ∧ R (Itr i (j - i).toNat) H1) : iRng2 ta σ H R := h
theorem walkL {tl : TE} {R : It → Hp → Prop} (h : tl σ H fun x H1 => ∃ a, x = .ref a ∧ (∃ xs, SqL K H1 a xs) ∧ R (Itl K a) H1) : iList K tl σ H R := h
theorem walkT {tl : TE} {R : It → Hp → Prop} (h : tl σ H fun x H1 => ∃ a, x = .ref a ∧ (∃ xs, SqT K H1 a xs) ∧ R (Itt K a) H1) : iTup K tl σ H R := h
theorem isT {t n : String} {b : Bool} (ty : TyX K H x (.type t)) (q : Q (.bl b) H) (hb : kitB t n = some b := by decide +kernel) : rIsi K [x, .ty n] H Q :=
  ⟨x, .ty n, _, _, b, rfl, ClsV.ty n, ty, kit_ty hb, q⟩
theorem isY {t n : String} (ty : TyX K H x (.type t)) (q : Q (.bl true) H) (hb : kitB t n = some true := by decide +kernel) : rIsi K [x, .ty n] H Q := isT ty q hb
theorem isN {t n : String} (ty : TyX K H x (.type t)) (q : Q (.bl false) H) (hb : kitB t n = some false := by decide +kernel) : rIsi K [x, .ty n] H Q := isT ty q hb
def rLen (K : PySem.W.Frag) : List V → Hp → VK → Prop := fun xs H Q => ∃ x n, xs = [x] ∧ LenV K x H n ∧ Q (.int (n : Nat)) H
theorem c_len {X : Cx} : CallR X (.builtin "len") (rLen X.K) := call_len
theorem lenL (h : SqL K H p xs) (q : Q (.int (xs.length : Int)) H) : rLen K [V.ref p] H Q := ⟨_, _, rfl, .inl ⟨xs, h, rfl⟩, q⟩
theorem lenT (h : SqT K H p xs) (q : Q (.int (xs.length : Int)) H) : rLen K [V.ref p] H Q := ⟨_, _, rfl, .inr ⟨xs, h, rfl⟩, q⟩
theorem lenS {z : Str} (h : z.length ≤ sizeLine) (q : Q (.int (z.length : Int)) H) : rLen K [V.str z] H Q := ⟨_, _, rfl, ⟨h, rfl⟩, q⟩
def rInt1 : List V → Hp → VK → Prop := fun xs H Q => (∃ i, xs = [.int i] ∧ Q (.int i) H) ∨ ∃ k, xs = [.bl k] ∧ Q (.int (if k then 1 else 0)) H
theorem c_int1 {X : Cx} : CallR X (.type "int") rInt1 := call_int1
theorem intI (q : Q (.int i) H) : rInt1 [V.int i] H Q := .inl ⟨i, rfl, q⟩
theorem intB {b : Bool} (q : Q (.int (if b then 1 else 0)) H) : rInt1 [V.bl b] H Q := .inr ⟨b, rfl, q⟩
def rAbs : List V → Hp → VK → Prop := fun xs H Q => ∃ i, xs = [.int i] ∧ Q (.int (if i < 0 then -i else i)) H
theorem c_abs {X : Cx} : CallR X (.builtin "abs") rAbs := call_abs
theorem absI (q : Q (.int (i.natAbs : Int)) H) : rAbs [V.int i] H Q := ⟨i, rfl, by
  have e : (if i < 0 then -i else i) = (i.natAbs : Int) := by split <;> omega
  rw [e]; exact q⟩
def rMax2 : List V → Hp → VK → Prop := fun xs H Q => ∃ i j, xs = [.int i, .int j] ∧ Q (.int (if j > i then j else i)) H
def rMin2 : List V → Hp → VK → Prop := fun xs H Q => ∃ i j, xs = [.int i, .int j] ∧ Q (.int (if j < i then j else i)) H
theorem c_max2 {X : Cx} (hc : X.calm = true) : CallR X (.builtin "max") rMax2 := call_max2 hc
theorem c_min2 {X : Cx} (hc : X.calm = true) : CallR X (.builtin "min") rMin2 := call_min2 hc
theorem maxI {j : Int} (q : Q (.int (max i j)) H) : rMax2 [V.int i, V.int j] H Q := ⟨i, j, rfl, by
  have e : (if j > i then j else i) = max i j := by split <;> omega
  rw [e]; exact q⟩
theorem minI {j : Int} (q : Q (.int (min i j)) H) : rMin2 [V.int i, V.int j] H Q := ⟨i, j, rfl, by
  have e : (if j < i then j else i) = min i j := by split <;> omega
  rw [e]; exact q⟩
def rStrI : List V → Hp → VK → Prop := fun xs H Q => ∃ i : Int, xs = [.int i] ∧ i.natAbs.log2 < 1920 ∧ Q (.str (toString i)) H
theorem c_str {X : Cx} : CallR X (.type "str") rStrI := call_str_int
theorem strI (h : i.natAbs.log2 < 1920) (q : Q (.str (toString i)) H) : rStrI [V.int i] H Q := ⟨i, rfl, h, q⟩
def rListOf (K : PySem.W.Frag) : List V → Hp → VK → Prop := fun xs H Q => ∃ p ys, xs = [.ref p] ∧ (SqL K H p ys ∨ SqT K H p ys) ∧ ∀ l, H l = none → Q (.ref l) (upd H l (.lst ys))
theorem c_listOf {X : Cx} : CallR X (.type "list") (rListOf X.K) := call_list_of
theorem listL (h : SqL K H p xs) (q : ∀ l, H l = none → Q (.ref l) (upd H l (.lst xs))) : rListOf K [V.ref p] H Q := ⟨p, xs, rfl, .inl h, q⟩
theorem listT (h : SqT K H p xs) (q : ∀ l, H l = none → Q (.ref l) (upd H l (.lst xs))) : rListOf K [V.ref p] H Q := ⟨p, xs, rfl, .inr h, q⟩
def rTupOf (K : PySem.W.Frag) : List V → Hp → VK → Prop := fun xs H Q => ∃ p ys, xs = [.ref p] ∧ ((SqL K H p ys ∧ ∀ l, H l = none → Q (.ref l) (upd H l (.tup ys))) ∨ (SqT K H p ys ∧ Q (.ref p) H))
theorem c_tupOf {X : Cx} : CallR X (.type "tuple") (rTupOf X.K) := call_tuple_of
theorem tupL (h : SqL K H p xs) (q : ∀ l, H l = none → Q (.ref l) (upd H l (.tup xs))) : rTupOf K [V.ref p] H Q := ⟨p, xs, rfl, .inl ⟨h, q⟩⟩
def rOrd : List V → Hp → VK → Prop := fun xs H Q => ∃ x : Str, xs = [.str x] ∧ x.length = 1 ∧ Q (.int (x.cps.getD 0 0 : Nat)) H
theorem c_ord {X : Cx} : CallR X (.builtin "ord") rOrd := call_ord
theorem ordS {z : Str} (h : z.length = 1) (q : Q (.int (z.cps.getD 0 0 : Nat)) H) : rOrd [V.str z] H Q := ⟨z, rfl, h, q⟩
def rDivmod : List V → Hp → VK → Prop := fun xs H Q => ∃ i j, xs = [.int i, .int j] ∧ CDiv i j ∧ ∀ p, H p = none → Q (.ref p) (upd H p (.tup [.int (i / j), .int (i % j)]))
theorem c_divmod {X : Cx} : CallR X (.builtin "divmod") rDivmod := call_divmod
theorem sql {H' : Hp} {a : Addr} (e : Same H H') (h : SqL K H a xs) : SqL K H' a xs := e.seq h
theorem at_ints {ns : List Int} (h0 : 0 ≤ i) (h1 : i < (ns.length : Int)) : atI (ns.map V.int) i = some (.int (ns.getD i.toNat 0)) := by
  have e : i = ((i.toNat : Nat) : Int) := (Int.toNat_of_nonneg h0).symm
  rw [e]
  refine atI_nat ?_
  have hl : i.toNat < ns.length := by omega
  rw [List.getElem?_map, List.getElem?_eq_getElem hl, Int.toNat_natCast, List.getD_eq_getElem?_getD, List.getElem?_eq_getElem hl]
  rfl
end
end WP
namespace WP
open PySem PySem.Spec PyProof.Rows L2
section
variable {X : Cx}
theorem cut {t u : TS} {D : Ends} {σ : L2.St} {H : Hp} (Mid : L2.St → Hp → Prop) (h : t { D with nx := Mid } σ H) (k : ∀ σ' H', Mid σ' H' → u D σ' H') : Evl.tCut t u D σ H := ⟨Mid, h, k⟩
end
/-! ### == of data -/
section
variable {K : PySem.W.Frag} {H : Hp} {x y : V} {d e : PyData} {Q : VK}
theorem eqD (a : Dp K H x d) (b : Dp K H y e) (h : Q (.bl (PyData.eqv d e)) H) (s1 : SeqAt.shaped d = true := by first | rfl | decide +kernel) (s2 : SeqAt.shaped e = true := by first | rfl | decide +kernel) : rEqD K x y H Q := ⟨d, e, a, b, s1, s2, h⟩
theorem neD (a : Dp K H x d) (b : Dp K H y e) (h : Q (.bl (!PyData.eqv d e)) H) (s1 : SeqAt.shaped d = true := by first | rfl | decide +kernel) (s2 : SeqAt.shaped e = true := by first | rfl | decide +kernel) : rNeD K x y H Q := ⟨d, e, a, b, s1, s2, h⟩
theorem dpv {p : Addr} {u : Int} {s : Nat} (h : SqT K H p (dv u s)) : Dp K H (.ref p) (.tuple [.int u, .int (s : Int)]) := .tup h (.cons (.int _) (.cons (.int _) .nil))
end
end WP
namespace WP
open PySem PySem.Spec PyProof.Rows L2
abbrev MG := Str → Option Value
/-- the address that a module's name holds -/
def ca (mg : MG) (nm : Str) : Addr := match mg nm with
  | some (.ref a) => a
  | _ => 0
theorem ca_of {mg : MG} {nm : Str} {a : Addr} (h : mg nm = some (.ref a)) : ca mg nm = a := by unfold ca; rw [h]
/-! ### own exceptions without an __init__ of their own -/
structure ExcAt (K : PySem.W.Frag) (C : Addr) : Prop where
  x : PySem.W.excIn K C [.type "ValueError", .type "Exception", .type "BaseException", .type "object"] "ValueError.__new__" = true
  k : PySem.W.keepIn K (.ref C) = true
  t : PySem.W.typeIn K (.ref C) = some (.type "type")
  c : ExcC K C
structure ExcOk (K : PySem.W.Frag) (mg : MG) (nm : Str) : Prop where
  m : mg nm = some (.ref (ca mg nm))
  a : ExcAt K (ca mg nm)
theorem ExcOk.mk' {K : PySem.W.Frag} {mg : MG} {nm : Str} {C : Addr} (h : mg nm = some (.ref C)) (x : ExcAt K C) : ExcOk K mg nm := by
  have e := ca_of h
  exact ⟨by rw [e]; exact h, by rw [e]; exact x⟩
theorem ExcAt.raises {X : Cx} {C : Addr} (x : ExcAt X.K C) : Raises X (.ref C) := raises_own x.c.hs x.t
theorem ExcAt.catches {K : PySem.W.Frag} {C : Addr} (x : ExcAt K C) {cls : Value} {b : Bool} (h : PySem.W.subIn K cls (.ref C) = some b) : PySem.W.exmOne K cls (.ref C) = some b := PySem.W.exm_ref x.c.hs x.c.hd x.t h
section
variable {X : Cx} {x m : Str} {j : Nat} {p p2 pos pos2 : Pos} {W : WX}
theorem ps_raiseC (hc : X.calm = true) (tk : Takes X W) (e : ExcOk X.K X.mg x) (hg : Gl X x) (hdb : (x == ("__debug__" : Str)) = false := by decide) :
    PS X (.Raise (some (.Call (.Name x p) [.Constant (.str m) j p2] [] pos)) none pos2) (fun _ σ H => W (.ref (ca X.mg x)) none σ H) :=
  ps_raise hc tk (pmk_own PySem.F.excBase_ValueError e.a.x e.m e.a.k e.a.raises hg hdb)
end
/-- isinstance of the caught error -/
def rIsX (K : PySem.W.Frag) (a : Addr) (cls : Value) (d : Option Addr) : List V → Hp → VK → Prop := fun xs H Q => ∃ D, cls = .ref D ∧ d = none ∧ ExcC K D ∧ rIsE K D a xs H Q
theorem call_isX {X : Cx} {a : Addr} {oe : Obj} {cls : Value} {d : Option Addr} {pn : List (Addr × Obj)} (hz : Zc cls d oe) (hf : ∃ vs, oe.data = .fields vs) : CallR (X.suite a ((a, oe) :: pn)) (.builtin "isinstance") (rIsX X.K a cls d) := by
  intro pins s σ H xs us Q I r h
  obtain ⟨D, rfl, rfl, c, h⟩ := h
  exact call_isE c hz hf pins s σ H xs us Q I r h
theorem isX {K : PySem.W.Frag} {a D C : Addr} {b : Bool} {H : Hp} {Q : VK} (c : ExcC K D) (h : PySem.W.kitOne K (.ref D) (.ref C) = some b) (q : Q (.bl b) H) : rIsX K a (.ref D) none [.ref a, .ref C] H Q :=
  ⟨D, rfl, rfl, c, .ref C, .ref C, b, rfl, fun _ r => r, h, q⟩
section
variable {X : Cx} {CX' : CXT} {k j : Nat} {ps : List Str} {sp : Sp} {E : L2.St → XK} {E0 : XK} {x : Str} {p pos : Pos} {e : Expr} {es : List Expr} {t : TA}
theorem pe_callSC (C : Callee X.prog X.w X.K X.mg X.base (L2.CX X.prog X.w) k x ps sp) (hr : Room j X.A) (hg : Gl X x) (hx : ∀ σ, PassesAt (L2.CX X.prog X.w) X σ (E σ)) (ha : PA X (e :: es) t) (hl : k ≤ j := by decide)
    (hdb : (x == ("__debug__" : Str)) = false := by decide) (he : starEach (e :: es) X.env = (false, eval e X.env) :: starEach es X.env := by rfl) (hpl : (backTo pos (starEach es X.env)).any (·.1) = false := by rfl) :
    PE X (.Call (.Name x p) (e :: es) [] pos) (tCallS sp E t) := by
  obtain ⟨f, fd, F, hm, hk, hb⟩ := C.ex
  exact pe_callS F (hr.mono hl) hg hm hk hb hx ha hdb he hpl
/-- what a callee lets out leaves this def too -/
theorem passX {E : XK} {E₁ : Value → Shared → Prop} (hs : X.stack = X.env :: X.outer) (hf : X.env.frame = some X.env.locals) (hex : X.ex = [])
    (hx : X.xe = fun e s' => wpAny (model X.prog X.w) X.A (leaving X.env e) (fun _ s'' => L2.CX X.prog X.w X.outer X.H_0 X.s_0 E e s'') E₁ s') : Passes (L2.CX X.prog X.w) X E :=
  fun pins σ H s e s' I c => passes_call (takes_of hs hf hex hx) (fun _ _ _ _ z => z) pins σ H s e s' I c
end
theorem callS {sp : Sp} {E : L2.St → XK} {a : TA} {σ : L2.St} {H : Hp} {Q : VK} (h : a σ H fun vs H1 => sp vs H1 Q (E σ)) : tCallS sp E a σ H Q := h
end WP
namespace WP
open PySem PySem.Spec PyProof.Rows L2
def rDivmodW : List V → Hp → VK → Prop := fun xs H Q => ∃ i j, xs = [.int i, .int j] ∧ CDivP i j ∧ ∀ p, H p = none → Q (.ref p) (upd H p (.tup [.int (i / j), .int (i % j)]))
theorem c_divmodW {X : Cx} : CallR X (.builtin "divmod") rDivmodW := call_divmodW
theorem Bt.p {i j : Int} {a : Nat} (h : Bt i a) (hj : 0 < j) (l : a ≤ 4000 := by omega) : CDivP i j := divp_ok hj (by have := intBits_le h; omega)
theorem divW {i j : Int} {H : Hp} {Q : VK} (c : CDivP i j) (q : ∀ p, H p = none → Q (.ref p) (upd H p (.tup [.int (i / j), .int (i % j)]))) : rDivmodW [.int i, .int j] H Q := ⟨i, j, rfl, c, q⟩
end WP

namespace MD
open WP
/-- the least scale: zeros at the end are dropped -/
def nrm : Int → Nat → Int × Nat
  | u, 0 => (u, 0)
  | u, s + 1 => if u % 10 = 0 then nrm (u / 10) s else (u, s + 1)
theorem nrm_le : ∀ (s : Nat) (u : Int), (nrm u s).2 ≤ s
  | 0, u => Nat.le_refl _
  | s + 1, u => by
    unfold nrm
    split
    · exact Nat.le_succ_of_le (nrm_le s _)
    · exact Nat.le_refl _
theorem nrm_val : ∀ (s : Nat) (u : Int), (nrm u s).1 * 10 ^ (s - (nrm u s).2) = u
  | 0, u => by unfold nrm; simp
  | s + 1, u => by
    unfold nrm
    split
    · rename_i h
      have ih := nrm_val s (u / 10)
      have l := nrm_le s (u / 10)
      have e : s + 1 - (nrm (u / 10) s).2 = (s - (nrm (u / 10) s).2) + 1 := by omega
      rw [e, Int.pow_succ, ← Int.mul_assoc, ih]
      omega
    · simp
/-- a decimal: the scale is the least one -/
def Dec (u : Int) (s : Nat) : Prop := s = 0 ∨ u % 10 ≠ 0
theorem nrm_dec : ∀ (s : Nat) (u : Int), Dec (nrm u s).1 (nrm u s).2
  | 0, u => .inl rfl
  | s + 1, u => by
    unfold nrm
    split
    · exact nrm_dec s _
    · rename_i h; exact .inr h
theorem nrm_self {u : Int} {s : Nat} (h : Dec u s) : nrm u s = (u, s) := by
  cases s with
  | zero => rfl
  | succ s =>
    unfold nrm
    rcases h with h | h
    · cases h
    · rw [if_neg h]
theorem nrm_up : ∀ (m s : Nat) (u : Int), nrm (u * 10 ^ m) (s + m) = nrm u s
  | 0, s, u => by simp
  | m + 1, s, u => by
    have e : u * 10 ^ (m + 1) = u * 10 ^ m * 10 := by rw [Int.pow_succ, Int.mul_assoc]
    rw [← Nat.add_assoc, e]
    show (if (u * 10 ^ m * 10) % 10 = 0 then nrm (u * 10 ^ m * 10 / 10) (s + m) else _) = _
    rw [if_pos (Int.mul_emod_left _ _), Int.mul_ediv_cancel _ (by decide)]
    exact nrm_up m s u
theorem nrm_abs : ∀ (s : Nat) (u : Int), (nrm u s).1.natAbs ≤ u.natAbs
  | 0, u => Nat.le_refl _
  | s + 1, u => by
    unfold nrm
    split
    · have := nrm_abs s (u / 10)
      omega
    · exact Nat.le_refl _
theorem nrm_bt {u : Int} {s a : Nat} (h : Bt u a) : Bt (nrm u s).1 a := h.le (nrm_abs s u)
end MD
namespace MD
theorem nrm_eq (u : Int) (s : Nat) : (nrm u s).1 * 10 ^ s = u * 10 ^ (nrm u s).2 := by
  have h := nrm_val s u
  have l := nrm_le s u
  have e : (10 : Int) ^ s = 10 ^ (s - (nrm u s).2) * 10 ^ (nrm u s).2 := by rw [← Int.pow_add]; congr 1; omega
  rw [e, ← Int.mul_assoc, h]
end MD

namespace MQ
/-- above / below, cut off or rounded -/
def qsz (a b : Nat) (r : Bool) : Nat := if r = true ∧ b ≤ 2 * (a % b) then a / b + 1 else a / b
def quot (x y : Int) (r : Bool) : Int := if decide (x < 0) != decide (y < 0) then -(qsz x.natAbs y.natAbs r : Int) else (qsz x.natAbs y.natAbs r : Int)
/-- q is due for x / y -/
structure Right (q x y : Int) (r : Bool) : Prop where
  sg : q ≠ 0 → decide (q < 0) = (decide (x < 0) != decide (y < 0))
  ct : r = false → q.natAbs * y.natAbs ≤ x.natAbs ∧ x.natAbs < (q.natAbs + 1) * y.natAbs
  rd : r = true → 2 * q.natAbs * y.natAbs ≤ 2 * x.natAbs + y.natAbs ∧ 2 * x.natAbs < (2 * q.natAbs + 1) * y.natAbs
theorem quot_abs (x y : Int) (r : Bool) : (quot x y r).natAbs = qsz x.natAbs y.natAbs r := by
  unfold quot; split <;> omega
theorem right_quot {x y : Int} {r : Bool} (h : y ≠ 0) : Right (quot x y r) x y r := by
  have hy : 0 < y.natAbs := by omega
  have e := Nat.div_add_mod x.natAbs y.natAbs
  have l := Nat.mod_lt x.natAbs hy
  refine ⟨fun hq => ?_, fun hr => ?_, fun hr => ?_⟩
  · have : qsz x.natAbs y.natAbs r ≠ 0 := by
      intro z; apply hq; unfold quot; rw [z]; split <;> rfl
    unfold quot
    split
    · rename_i c
      rw [c]; exact decide_eq_true (by omega)
    · rename_i c
      rw [Bool.not_eq_true] at c
      rw [c]; exact decide_eq_false (by omega)
  · rw [quot_abs]; unfold qsz; rw [if_neg (by rw [hr]; simp)]
    rw [Nat.mul_comm] at e
    rw [Nat.add_mul]; omega
  · rw [quot_abs]; unfold qsz
    rw [Nat.mul_comm] at e
    split
    · rename_i c
      constructor
      · rw [Nat.mul_assoc, Nat.add_mul]; omega
      · rw [show (2 * (x.natAbs / y.natAbs + 1) + 1) * y.natAbs = 2 * (x.natAbs / y.natAbs * y.natAbs) + 3 * y.natAbs by rw [show 2 * (x.natAbs / y.natAbs + 1) + 1 = 2 * (x.natAbs / y.natAbs) + 3 by omega, Nat.add_mul, Nat.mul_assoc]]
        omega
    · rename_i c
      have c2 : ¬ y.natAbs ≤ 2 * (x.natAbs % y.natAbs) := fun z => c ⟨hr, z⟩
      constructor
      · rw [Nat.mul_assoc]; omega
      · rw [Nat.add_mul, Nat.mul_assoc]; omega
theorem right_scale {q x y c : Int} {r : Bool} (hc : 0 < c) (h : Right q x y r) : Right q (x * c) (y * c) r := by
  have s : ∀ z : Int, decide (z * c < 0) = decide (z < 0) := fun z => by
    by_cases k : z < 0
    · rw [decide_eq_true k, decide_eq_true (Int.mul_neg_of_neg_of_pos k hc)]
    · rw [decide_eq_false k, decide_eq_false (Int.not_lt.mpr (Int.mul_nonneg (Int.not_lt.mp k) (Int.le_of_lt hc)))]
  have hp : 0 < c.natAbs := by omega
  refine ⟨fun hq => by rw [s, s]; exact h.sg hq, fun hr => ?_, fun hr => ?_⟩
  · obtain ⟨a, b⟩ := h.ct hr
    rw [Int.natAbs_mul, Int.natAbs_mul, ← Nat.mul_assoc, ← Nat.mul_assoc]
    exact ⟨Nat.mul_le_mul_right _ a, Nat.mul_lt_mul_of_pos_right b hp⟩
  · obtain ⟨a, b⟩ := h.rd hr
    rw [Int.natAbs_mul, Int.natAbs_mul, ← Nat.mul_assoc, ← Nat.mul_assoc, ← Nat.mul_assoc, ← Nat.add_mul]
    exact ⟨Nat.mul_le_mul_right _ a, Nat.mul_lt_mul_of_pos_right b hp⟩
theorem right_exact {q y : Int} {r : Bool} (hy : 0 < y) : Right q (q * y) y r := by
  have hp : 0 < y.natAbs := by omega
  refine ⟨fun hq => ?_, fun hr => ?_, fun hr => ?_⟩
  · rw [show decide (y < 0) = false from decide_eq_false (by omega)]
    by_cases k : q < 0
    · rw [decide_eq_true k, decide_eq_true (Int.mul_neg_of_neg_of_pos k hy)]; rfl
    · rw [decide_eq_false k, decide_eq_false (Int.not_lt.mpr (Int.mul_nonneg (Int.not_lt.mp k) (Int.le_of_lt hy)))]; rfl
  · rw [Int.natAbs_mul, Nat.add_mul]; omega
  · rw [Int.natAbs_mul, Nat.add_mul, Nat.mul_assoc]; omega
end MQ

namespace D
open PySem PySem.Spec PyProof.Rows L2
local macro_rules | `(tactic| k_memK) => `(tactic| first
  | (with_reducible refine WP.seq ?_) | (with_reducible refine WP.asg ?_) | (with_reducible refine WP.name ?_)
  | ((with_reducible show tVar _ _ _ _); refine WP.var rfl ?_) | (with_reducible refine WP.con ?_) | (with_reducible refine WP.op ?_) | (with_reducible refine WP.i0 ?_)
  | (with_reducible refine WP.un ?_) | (with_reducible refine WP.rU_ ?_)
  | (with_reducible refine WP.ifS ?_) | (with_reducible refine WP.ifE ?_) | (with_reducible refine WP.test ?_) | (with_reducible refine WP.bt ?_) | (with_reducible refine WP.isbV ?_)
  | (with_reducible refine WP.ret ?_) | (with_reducible refine WP.retN ?_) | (with_reducible refine WP.drop ?_) | (with_reducible refine WP.next ?_) | (with_reducible refine WP.brk ?_) | (with_reducible refine WP.cont ?_)
  | (with_reducible refine WP.cb ?_) | (with_reducible refine WP.call ?_) | (with_reducible refine WP.cons ?_) | (with_reducible refine WP.nil ?_) | (with_reducible refine WP.tup ?_) | (with_reducible refine WP.lst ?_)
  | (with_reducible refine WP.eqI ?_) | (with_reducible refine WP.neI ?_) | (with_reducible refine WP.eqT ?_) | (with_reducible refine WP.neT ?_) | (with_reducible refine WP.eqB ?_) | (with_reducible refine WP.neB ?_)
  | (with_reducible refine WP.notT ?_) | (with_reducible refine WP.andT ?_) | (with_reducible refine WP.orT ?_) | (with_reducible refine WP.andV ?_) | (with_reducible refine WP.orV ?_) | (with_reducible refine WP.notV ?_)
  | (with_reducible refine WP.sl ?_) | (with_reducible refine WP.noPart ?_) | (with_reducible refine WP.part ?_) | (with_reducible refine WP.isi ?_) | (with_reducible refine WP.isbV ?_) | (with_reducible refine WP.gsCons ?_) | (with_reducible refine WP.gsNil ?_) | (with_reducible refine WP.forl ?_) | (with_reducible refine WP.rng1 ?_) | (with_reducible refine WP.rng2 ?_) | (with_reducible refine WP.walkL ?_) | (with_reducible refine WP.walkT ?_))
local macro_rules | `(tactic| k_updF) => `(tactic| repeat k_memK)

def top (i : Nat) : Stmt := PySem.Challenge.pw_cardwright_k03_cutting_and_rounding.main.body.getD i (.Pass ⟨0, 0, 0, 0⟩)
structure Blt (K : PySem.W.Frag) (mg : Str → Option Value) : Prop where
  b_abs : mg "abs" = none
  b_bool : mg "bool" = none
  b_divmod : mg "divmod" = none
  b_int : mg "int" = none
  b_isinstance : mg "isinstance" = none
  b_len : mg "len" = none
  b_max : mg "max" = none
  b_min : mg "min" = none
  b_range : mg "range" = none
  e_BadDecimal : WP.ExcOk K mg "BadDecimal"
  e_CardError : WP.ExcOk K mg "CardError"
  s_BadDecimal_CardError : PySem.W.subIn K (.ref (WP.ca mg "BadDecimal")) (.ref (WP.ca mg "CardError")) = some true
  i_BadDecimal_BadDecimal : PySem.W.kitOne K (.ref (WP.ca mg "BadDecimal")) (.ref (WP.ca mg "BadDecimal")) = some true
abbrev s__law_rich : Stmt := top 11
abbrev N__law_rich : List Str := ["cell", "k", "mixed"]
theorem sc__law_rich : FnScope N__law_rich ["cell", "k"] (defScope s__law_rich) := ⟨rfl, rfl, rfl, by decide +kernel, rfl, by decide +kernel, by decide +kernel⟩
def sp__law_rich (K : PySem.W.Frag) (mg : WP.MG) : Sp := fun vs H Q _ => ∃ c k : Int, vs = [.int c, .int k] ∧ ∀ r : Int, 0 ≤ r → Q (.int r) H
section
variable {P : Program} {w : World} {K : PySem.W.Frag} {mg : Str → Option Value} {base : Heap}
theorem ok__law_rich {f : Addr} {fd : FuncData} (F : Fun K "_law_rich" "_law_rich" s__law_rich f fd) (B : Blt K mg)  : FnOk P w K mg base CX0 1 f fd ["cell", "k"] (sp__law_rich K mg) := by
  refine F.ok sc__law_rich (fun vs H Q E h => ?_) (fun cdv A outer s H vs Q E hr h => ?_)
  · first | (obtain ⟨_, rfl, _⟩ := h; rfl) | (obtain ⟨_, _, rfl, _⟩ := h; rfl) | (obtain ⟨_, _, _, rfl, _⟩ := h; rfl) | (obtain ⟨_, _, _, _, rfl, _⟩ := h; rfl) | (obtain ⟨_, _, _, _, _, rfl, _⟩ := h; rfl) | (obtain ⟨_, _, _, _, _, _, rfl, _⟩ := h; rfl) | (obtain ⟨_, _, _, _, _, _, _, rfl, _⟩ := h; rfl) | (obtain ⟨_, _, _, _, _, _, _, _, rfl, _⟩ := h; rfl) | (obtain ⟨rfl, _⟩ := h; rfl)
  · obtain ⟨c, i, rfl, k⟩ := h
    refine ⟨_, (pss_cons (ps_if (pt_cmpR op_ge (pv 0) (pe_op op_pow pe_int pe_int) (nomark _)) (pss_one (ps_ret (pe_callTy WP.c_int1 (by rfl) B.b_int (by decide +kernel) (pa_cons (pv 0) pa_nil)))) pss_nil)
      (pss_cons (ps_set (i := 2) sc__law_rich.nd rfl (Or.inl rfl) (pe_op op_mod (pe_callTy WP.c_int1 (by rfl) B.b_int (by decide +kernel) (pa_cons (pe_op op_add (pe_op op_add (pe_op op_mul (pv 0) pe_int) (pe_op op_mul (pv 1) pe_int)) pe_int) pa_nil)) pe_int))
      (pss_one (ps_ret (pe_op op_add (pe_op op_mul (pv 2) pe_int) (pe_op op_mod (pe_callTy WP.c_int1 (by rfl) B.b_int (by decide +kernel) (pa_cons (pe_op op_add (pe_op op_mul (pv 2) pe_int) (pv 0)) pa_nil)) pe_int)))))), ?_⟩
    k_updF
    refine WP.iC ⟨by decide, by decide, by decide⟩ ?_
    k_updF
    refine WP.br (fun g => ?_) (fun g => ?_)
    · k_updF
      refine WP.intI (k _ ?_)
      have : (0 : Int) ≤ 10 ^ (18 : Int).toNat := by decide
      omega
    · k_updF
      refine WP.iC (.inr (by decide)) ?_
      k_updF
      refine WP.iC (.inr (by decide)) ?_
      k_updF
      refine WP.intI ?_
      k_updF
      refine WP.iC (by decide) ?_
      k_updF
      refine WP.iC (.inr (by decide)) ?_
      k_updF
      refine WP.iC (.inr (by decide)) ?_
      k_updF
      refine WP.intI ?_
      k_updF
      refine WP.iC (by decide) ?_
      k_updF
      refine k _ ?_
      have h1 := Int.emod_nonneg (c * 48271 + i * 69621 + 11) (show (2147483647 : Int) ≠ 0 by decide)
      have h2 := Int.emod_nonneg ((c * 48271 + i * 69621 + 11) % 2147483647 * 16807 + c) (show (2147483629 : Int) ≠ 0 by decide)
      omega
end
abbrev s__law_decimal : Stmt := top 12
abbrev N__law_decimal : List Str := ["units", "scale", "k"]
theorem sc__law_decimal : FnScope N__law_decimal ["units", "scale"] (defScope s__law_decimal) := ⟨rfl, rfl, rfl, by decide +kernel, rfl, by decide +kernel, by decide +kernel⟩
def sp__law_decimal (K : PySem.W.Frag) (mg : WP.MG) : Sp := fun vs H Q _ => ∃ (u : Int) (s : Int), vs = [.int u, .int s] ∧ 0 ≤ s ∧ s ≤ 5000 ∧ WP.RetT (WP.dv (MD.nrm u s.toNat).1 (MD.nrm u s.toNat).2) H Q
section
variable {P : Program} {w : World} {K : PySem.W.Frag} {mg : Str → Option Value} {base : Heap}
theorem ok__law_decimal {f : Addr} {fd : FuncData} (F : Fun K "_law_decimal" "_law_decimal" s__law_decimal f fd) (B : Blt K mg)  : FnOk P w K mg base CX0 1 f fd ["units", "scale"] (sp__law_decimal K mg) := by
  refine F.ok sc__law_decimal (fun vs H Q E h => ?_) (fun cdv A outer s H vs Q E hr h => ?_)
  · first | (obtain ⟨_, rfl, _⟩ := h; rfl) | (obtain ⟨_, _, rfl, _⟩ := h; rfl) | (obtain ⟨_, _, _, rfl, _⟩ := h; rfl) | (obtain ⟨_, _, _, _, rfl, _⟩ := h; rfl) | (obtain ⟨_, _, _, _, _, rfl, _⟩ := h; rfl) | (obtain ⟨_, _, _, _, _, _, rfl, _⟩ := h; rfl) | (obtain ⟨_, _, _, _, _, _, _, rfl, _⟩ := h; rfl) | (obtain ⟨_, _, _, _, _, _, _, _, rfl, _⟩ := h; rfl) | (obtain ⟨rfl, _⟩ := h; rfl)
  · obtain ⟨u, s', rfl, hs, hs2, k⟩ := h
    refine ⟨_, (pss_cons (ps_for PassesOwn.never rfl (pi_range1 rfl B.b_range (pa_cons (pv 1) pa_nil)) (pg_name (i := 2) sc__law_decimal.nd rfl (Or.inl rfl)) (pss_one (ps_if (pt_cmpR op_eq (pe_op op_mod (pe_callTy WP.c_int1 (by rfl) B.b_int (by decide +kernel) (pa_cons (pv 0) pa_nil)) pe_int) pe_int (nomark _)) (pss_cons (ps_set (i := 0) sc__law_decimal.nd rfl (Or.inl rfl) (pe_op op_fdiv (pv 0) pe_int))
      (pss_one (ps_set (i := 1) sc__law_decimal.nd rfl (Or.inl rfl) (pe_op op_sub (pv 1) pe_int)))) (pss_one (ps_ret (pe_tup (pa_cons (pv 0) (pa_cons (pv 1) pa_nil))))))))
      (pss_one (ps_ret (pe_tup (pa_cons (pv 0) (pa_cons (pv 1) pa_nil)))))), ?_⟩
    k_updF
    refine ⟨_, rfl, by omega, by omega, for_range (lo := 0) (n := s'.toNat) (fun i σ' H' => ∃ (a : Int) (n : Nat) (z : Option V), σ' = [some (.int a), some (.int (n : Int)), z] ∧ H' = H ∧ n + i = s'.toNat ∧ MD.nrm a n = MD.nrm u s'.toNat)
      ⟨u, s'.toNat, none, by rw [Int.toNat_of_nonneg hs]; rfl, rfl, by omega, rfl⟩ ?_ ?_⟩
    · rintro i σ' H' hi ⟨a, n, z, rfl, rfl, hn, e⟩
      obtain ⟨n', rfl⟩ : ∃ n', n = n' + 1 := ⟨n - 1, by omega⟩
      k_updF
      refine WP.intI ?_
      k_updF
      refine WP.iC (show (0 : Int) < 10 by decide) ?_
      k_updF
      refine WP.br (fun c => ?_) (fun c => ?_)
      · k_updF
        refine WP.iC ⟨by decide, by decide⟩ ?_
        k_updF
        refine ⟨a / 10, n', some (.int (0 + (i : Int))), ?_, rfl, by omega, ?_⟩
        · rw [show ((n' + 1 : Nat) : Int) - 1 = (n' : Int) by omega]; rfl
        · rw [← e]
          show _ = if a % 10 = 0 then _ else _
          rw [if_pos c]
      · k_updF
        refine ⟨WP.sz2, ?_⟩
        rw [← e, MD.nrm_self (.inr c)] at k
        exact k.new (Same.refl _)
    · rintro σ' H' ⟨a, n, z, rfl, rfl, hn, e⟩
      obtain rfl : n = 0 := by omega
      k_updF
      refine ⟨WP.sz2, ?_⟩
      rw [← e] at k
      exact k.new (Same.refl _)
end
abbrev s__law_number : Stmt := top 13
abbrev N__law_number : List Str := ["rich", "choice", "rest"]
theorem sc__law_number : FnScope N__law_number ["rich"] (defScope s__law_number) := ⟨rfl, rfl, rfl, by decide +kernel, rfl, by decide +kernel, by decide +kernel⟩
/-- some decimal of at most 18 figures -/
def sp__law_number (K : PySem.W.Frag) (mg : WP.MG) : Sp := fun vs H Q _ => ∃ r : Int, vs = [.int r] ∧ ∀ (u : Int) (s : Nat), MD.Dec u s → s ≤ 18 → u.natAbs ≤ 10 ^ 18 → WP.RetT (WP.dv u s) H Q
section
variable {P : Program} {w : World} {K : PySem.W.Frag} {mg : Str → Option Value} {base : Heap}
theorem ok__law_number {f : Addr} {fd : FuncData} (F : Fun K "_law_number" "_law_number" s__law_number f fd) (B : Blt K mg) (c__law_decimal : WP.Callee P w K mg base CX0 1 "_law_decimal" ["units", "scale"] (sp__law_decimal K mg)) : FnOk P w K mg base CX0 2 f fd ["rich"] (sp__law_number K mg) := by
  refine F.ok sc__law_number (fun vs H Q E h => ?_) (fun cdv A outer s H vs Q E hr h => ?_)
  · first | (obtain ⟨_, rfl, _⟩ := h; rfl) | (obtain ⟨_, _, rfl, _⟩ := h; rfl) | (obtain ⟨_, _, _, rfl, _⟩ := h; rfl) | (obtain ⟨_, _, _, _, rfl, _⟩ := h; rfl) | (obtain ⟨_, _, _, _, _, rfl, _⟩ := h; rfl) | (obtain ⟨_, _, _, _, _, _, rfl, _⟩ := h; rfl) | (obtain ⟨_, _, _, _, _, _, _, rfl, _⟩ := h; rfl) | (obtain ⟨_, _, _, _, _, _, _, _, rfl, _⟩ := h; rfl) | (obtain ⟨rfl, _⟩ := h; rfl)
  · obtain ⟨r, rfl, k⟩ := h
    refine ⟨_, (pss_cons (ps_set (i := 1) sc__law_number.nd rfl (Or.inl rfl) (pe_op op_mod (pv 0) pe_int))
      (pss_cons (ps_set (i := 2) sc__law_number.nd rfl (Or.inl rfl) (pe_op op_fdiv (pv 0) pe_int))
      (pss_cons (ps_if (pt_cmpR op_eq (pv 1) pe_int (nomark _)) (pss_one (ps_ret (WP.pe_callC c__law_decimal hr rfl pass0 (pa_cons (pe_ix ix_list (pe_lst (pa_cons pe_int (pa_cons pe_int (pa_cons (pe_un un_neg pe_int) (pa_cons pe_int (pa_cons (pe_un un_neg pe_int) (pa_cons pe_int pa_nil))))))) (pe_op op_mod (pv 2) pe_int) (fun _ _ => rfl)) (pa_cons (pe_op op_mod (pe_op op_fdiv (pv 2) pe_int) pe_int) pa_nil))))) pss_nil)
      (pss_cons (ps_if (pt_cmpR op_lt (pv 1) pe_int (nomark _)) (pss_one (ps_ret (WP.pe_callC c__law_decimal hr rfl pass0 (pa_cons (pe_op op_sub (pe_op op_mod (pv 2) pe_int) pe_int) (pa_cons (pe_op op_mod (pe_op op_fdiv (pv 2) pe_int) pe_int) pa_nil))))) pss_nil)
      (pss_one (ps_ret (WP.pe_callC c__law_decimal hr rfl pass0 (pa_cons (pe_op op_sub (pe_op op_mod (pv 2) (pe_op op_mul pe_int (pe_op op_pow pe_int pe_int))) (pe_op op_pow pe_int pe_int)) (pa_cons (pe_op op_mod (pe_op op_fdivW (pv 2) (pe_op op_pow pe_int pe_int)) pe_int) pa_nil))))))))), ?_⟩
    have fin : ∀ (u s : Int) (H' : Hp), Same H H' → u.natAbs ≤ 10 ^ 18 → 0 ≤ s → s ≤ 18 → WP.RetT (WP.dv (MD.nrm u s.toNat).1 (MD.nrm u s.toNat).2) H' Q := fun u s H' e hu h0 h1 p H2 e2 hp =>
      k _ _ (MD.nrm_dec _ _) (by have := MD.nrm_le s.toNat u; omega) (Nat.le_trans (MD.nrm_abs _ _) hu) p H2 (e.trans e2) hp
    k_updF
    refine WP.iC (by decide) ?_
    k_updF
    refine WP.iC ⟨by decide, by decide⟩ ?_
    k_updF
    refine WP.br (fun c => ?_) (fun c => ?_)
    · k_updF
      refine ⟨by show 6 ≤ sizeLine; exact WP.sz (by decide), fun l hl => ?_⟩
      k_updF
      refine WP.iC (by decide) ?_
      have hm := Int.emod_nonneg (r / 6) (show (6 : Int) ≠ 0 by decide)
      have hm2 := Int.emod_lt_of_pos (r / 6) (show (0 : Int) < 6 by decide)
      refine WP.ixL (xs := [0, 1, -1, 10, -100, 5].map V.int) (SqL.of upd_same) (WP.at_ints hm hm2) ?_
      k_updF
      refine WP.iC ⟨by decide, by decide⟩ ?_
      k_updF
      refine WP.iC (by decide) ?_
      k_updF
      refine ⟨_, _, rfl, Int.emod_nonneg _ (by decide), by have := Int.emod_lt_of_pos (r / 6 / 6) (show (0 : Int) < 3 by decide); omega, fin _ _ _ (WP.same_new hl) ?_ (Int.emod_nonneg _ (by decide)) (by have := Int.emod_lt_of_pos (r / 6 / 6) (show (0 : Int) < 3 by decide); omega)⟩
      have : ∀ j : Nat, j < 6 → ([0, 1, -1, 10, -100, 5] : List Int).getD j 0 ∈ ([0, 1, -1, 10, -100, 5] : List Int) := by decide
      have m := this (r / 6 % 6).toNat (by omega)
      have : ∀ x ∈ ([0, 1, -1, 10, -100, 5] : List Int), x.natAbs ≤ 10 ^ 18 := by decide
      exact this _ m
    · k_updF
      refine WP.br (fun c => ?_) (fun c => ?_)
      · k_updF
        refine WP.iC (by decide) ?_
        k_updF
        refine WP.iC ⟨by decide, by decide⟩ ?_
        k_updF
        refine WP.iC (by decide) ?_
        k_updF
        have a1 := Int.emod_nonneg (r / 6) (show (20001 : Int) ≠ 0 by decide)
        have a2 := Int.emod_lt_of_pos (r / 6) (show (0 : Int) < 20001 by decide)
        have b1 := Int.emod_nonneg (r / 6 / 20001) (show (5 : Int) ≠ 0 by decide)
        have b2 := Int.emod_lt_of_pos (r / 6 / 20001) (show (0 : Int) < 5 by decide)
        exact ⟨_, _, rfl, b1, by omega, fin _ _ _ (Same.refl _) (by omega) b1 (by omega)⟩
      · k_updF
        refine WP.iC ⟨by decide, by decide, by decide⟩ ?_
        refine WP.iC (.inl (by decide)) ?_
        refine WP.iC (by decide) ?_
        k_updF
        refine WP.iC ⟨by decide, by decide, by decide⟩ ?_
        k_updF
        refine WP.iC ⟨by decide, by decide, by decide⟩ ?_
        refine WP.iC (WP.Bt.d' (b := 60) (by decide) (by unfold WP.Bt; decide)) ?_
        k_updF
        refine WP.iC (by decide) ?_
        k_updF
        have e1 : (2 * 10 ^ (18 : Int).toNat : Int) = 2000000000000000000 := by decide
        have e2 : (10 ^ (18 : Int).toNat : Int) = 1000000000000000000 := by decide
        rw [e1, e2]
        have a1 := Int.emod_nonneg (r / 6) (show (2000000000000000000 : Int) ≠ 0 by decide)
        have a2 := Int.emod_lt_of_pos (r / 6) (show (0 : Int) < 2000000000000000000 by decide)
        have b1 := Int.emod_nonneg (r / 6 / (10 ^ (15 : Int).toNat)) (show (19 : Int) ≠ 0 by decide)
        have b2 := Int.emod_lt_of_pos (r / 6 / (10 ^ (15 : Int).toNat)) (show (0 : Int) < 19 by decide)
        exact ⟨_, _, rfl, b1, by omega, fin _ _ _ (Same.refl _) (by omega) b1 (by omega)⟩
end
abbrev s_quotient : Stmt := top 6
abbrev N_quotient : List Str := ["above", "below", "is_rounded", "size", "rest"]
theorem sc_quotient : FnScope N_quotient ["above", "below", "is_rounded"] (defScope s_quotient) := ⟨rfl, rfl, rfl, by decide +kernel, rfl, by decide +kernel, by decide +kernel⟩
def sp_quotient (K : PySem.W.Frag) (mg : WP.MG) : Sp := fun vs H Q _ => ∃ (x y : Int) (r : Bool), vs = [.int x, .int y, .bl r] ∧ y ≠ 0 ∧ WP.Bt x 3900 ∧ WP.RetV (.int (MQ.quot x y r)) H Q
section
variable {P : Program} {w : World} {K : PySem.W.Frag} {mg : Str → Option Value} {base : Heap}
theorem ok_quotient {f : Addr} {fd : FuncData} (F : Fun K "quotient" "quotient" s_quotient f fd) (B : Blt K mg)  : FnOk P w K mg base CX0 1 f fd ["above", "below", "is_rounded"] (sp_quotient K mg) := by
  refine F.ok sc_quotient (fun vs H Q E h => ?_) (fun cdv A outer s H vs Q E hr h => ?_)
  · first | (obtain ⟨_, rfl, _⟩ := h; rfl) | (obtain ⟨_, _, rfl, _⟩ := h; rfl) | (obtain ⟨_, _, _, rfl, _⟩ := h; rfl) | (obtain ⟨_, _, _, _, rfl, _⟩ := h; rfl) | (obtain ⟨_, _, _, _, _, rfl, _⟩ := h; rfl) | (obtain ⟨_, _, _, _, _, _, rfl, _⟩ := h; rfl) | (obtain ⟨_, _, _, _, _, _, _, rfl, _⟩ := h; rfl) | (obtain ⟨_, _, _, _, _, _, _, _, rfl, _⟩ := h; rfl) | (obtain ⟨rfl, _⟩ := h; rfl)
  · obtain ⟨x, y, r, rfl, hy, hx, k⟩ := h
    refine ⟨_, (pss_cons (ps_asg (pe_callB WP.c_divmodW (by rfl) B.b_divmod (by decide +kernel) (pa_cons (pe_callB WP.c_abs (by rfl) B.b_abs (by decide +kernel) (pa_cons (pv 0) pa_nil)) (pa_cons (pe_callB WP.c_abs (by rfl) B.b_abs (by decide +kernel) (pa_cons (pv 1) pa_nil)) pa_nil))) (pg_tup (by rfl) (pgs_cons (pg_name (i := 3) sc_quotient.nd rfl (Or.inl rfl)) (pgs_cons (pg_name (i := 4) sc_quotient.nd rfl (Or.inl rfl)) pgs_nil))))
      (Evl.pss_cut (ps_if (PW.pt (pw_and (pt_val (pv 2)) (pw_and1 (pt_cmpR op_ge (pe_op op_mul pe_int (pv 4)) (pe_callB WP.c_abs (by rfl) B.b_abs (by decide +kernel) (pa_cons (pv 1) pa_nil)) (nomark _))))) (pss_one (ps_set (i := 3) sc_quotient.nd rfl (Or.inl rfl) (pe_op op_add (pv 3) pe_int))) pss_nil)
      (pss_one (ps_ret (pe_ifExp (pt_cmpR op_ne (pe_cmpR op_lt (pv 0) pe_int (nomark _)) (pe_cmpR op_lt (pv 1) pe_int (nomark _)) (nomark _)) (pe_un un_neg (pv 3)) (pv 3)))))), ?_⟩
    k_updF
    refine WP.absI ?_
    k_updF
    refine WP.absI ?_
    k_updF
    refine WP.divW (WP.Bt.p (a := 3900) (by unfold WP.Bt at *; rw [Int.natAbs_natCast]; exact hx) (by omega)) (fun p hp => ?_)
    rw [← Int.natCast_ediv, ← Int.natCast_emod]
    refine WP.unT (SqT.of upd_same) rfl ?_
    k_updF
    generalize hH1 : upd H p _ = H1
    have e1 : Same H H1 := by rw [← hH1]; exact WP.same_new hp
    have fin : ∀ (D : Ends) (z3 : Option V), D.rt = Q → (tRet (tIf (tTest (tOp rNe (tOp (rI0 fun i j => V.bl (decide (i < j))) (tVar 0) (tC (V.int 0))) (tOp (rI0 fun i j => V.bl (decide (i < j))) (tVar 1) (tC (V.int 0)))))
        (tUn (rU fun i => V.int (-i)) (tVar 3)) (tVar 3))) D [some (.int x), some (.int y), some (.bl r), some (.int (MQ.qsz x.natAbs y.natAbs r : Int)), z3] H1 := by
      intro D z3 hD
      k_updF
      rw [hD]
      have q := k H1 e1
      unfold MQ.quot at q
      by_cases c : (decide (x < 0) != decide (y < 0)) = true
      · rw [if_pos c] at q
        refine WP.brT (by revert c; cases decide (x < 0) <;> cases decide (y < 0) <;> decide) ?_
        k_updF
        exact q
      · rw [if_neg c] at q
        refine WP.brF (by revert c; cases decide (x < 0) <;> cases decide (y < 0) <;> decide) ?_
        k_updF
        exact q
    refine WP.cut (fun σ' H' => H' = H1 ∧ σ' = [some (.int x), some (.int y), some (.bl r), some (.int (MQ.qsz x.natAbs y.natAbs r : Int)), some (.int ((x.natAbs % y.natAbs : Nat) : Int))]) ?_ ?_
    rotate_left
    · rintro σ' H' ⟨rfl, rfl⟩
      exact fin _ _ rfl
    have base : ¬ (r = true ∧ y.natAbs ≤ 2 * (x.natAbs % y.natAbs)) → MQ.qsz x.natAbs y.natAbs r = x.natAbs / y.natAbs := fun z => by unfold MQ.qsz; rw [if_neg z]
    k_updF
    refine WP.brB (fun c => ?_) (fun c => ?_)
    · k_updF
      refine WP.iC (.inl (by decide)) ?_
      k_updF
      refine WP.absI ?_
      k_updF
      refine WP.br (fun d => ?_) (fun d => ?_)
      · k_updF
        refine ⟨rfl, ?_⟩
        rw [show MQ.qsz x.natAbs y.natAbs r = x.natAbs / y.natAbs + 1 by unfold MQ.qsz; rw [if_pos ⟨c, by omega⟩]]
        rfl
      · k_updF
        refine ⟨rfl, ?_⟩
        rw [base (fun z => d (by omega))]
        rfl
    · k_updF
      refine WP.brF rfl ?_
      k_updF
      refine ⟨rfl, ?_⟩
      rw [base (fun z => by rw [c] at z; cases z.1)]
      rfl
end
abbrev s_power : Stmt := top 4
abbrev N_power : List Str := ["exponent", "result", "factor", "rest"]
theorem sc_power : FnScope N_power ["exponent"] (defScope s_power) := ⟨rfl, rfl, rfl, by decide +kernel, rfl, by decide +kernel, by decide +kernel⟩
/-- power(e): 10 to the power of e -/
def sp_power (K : PySem.W.Frag) (mg : WP.MG) : Sp := fun vs H Q _ => ∃ e : Int, vs = [.int e] ∧ e ≤ 3000 ∧ Q (.int (10 ^ e.toNat)) H
section
variable {P : Program} {w : World} {K : PySem.W.Frag} {mg : Str → Option Value} {base : Heap}
theorem ok_power {f : Addr} {fd : FuncData} (F : Fun K "power" "power" s_power f fd) (B : Blt K mg)  : FnOk P w K mg base CX0 1 f fd ["exponent"] (sp_power K mg) := by
  refine F.ok sc_power (fun vs H Q E h => ?_) (fun cdv A outer s H vs Q E hr h => ?_)
  · first | (obtain ⟨_, rfl, _⟩ := h; rfl) | (obtain ⟨_, _, rfl, _⟩ := h; rfl) | (obtain ⟨_, _, _, rfl, _⟩ := h; rfl) | (obtain ⟨_, _, _, _, rfl, _⟩ := h; rfl) | (obtain ⟨_, _, _, _, _, rfl, _⟩ := h; rfl) | (obtain ⟨_, _, _, _, _, _, rfl, _⟩ := h; rfl) | (obtain ⟨_, _, _, _, _, _, _, rfl, _⟩ := h; rfl) | (obtain ⟨_, _, _, _, _, _, _, _, rfl, _⟩ := h; rfl) | (obtain ⟨rfl, _⟩ := h; rfl)
  · obtain ⟨e, rfl, he, k⟩ := h
    refine ⟨_, (pss_cons (ps_set (i := 1) sc_power.nd rfl (Or.inl rfl) pe_int)
      (pss_cons (ps_set (i := 2) sc_power.nd rfl (Or.inl rfl) pe_int)
      (pss_cons (ps_set (i := 3) sc_power.nd rfl (Or.inl rfl) (pv 0))
      (pss_cons (ps_while PassesOwn.never (pt_cmpR op_gt (pv 3) pe_int (nomark _)) (pss_cons (ps_if (pt_cmpR op_eq (pe_op op_mod (pv 3) pe_int) pe_int (nomark _)) (pss_one (ps_set (i := 1) sc_power.nd rfl (Or.inl rfl) (pe_op op_mulW (pv 1) (pv 2)))) pss_nil)
      (pss_cons (ps_set (i := 2) sc_power.nd rfl (Or.inl rfl) (pe_op op_mulW (pv 2) (pv 2)))
      (pss_one (ps_set (i := 3) sc_power.nd rfl (Or.inl rfl) (pe_op op_fdiv (pv 3) pe_int))))))
      (pss_one (ps_ret (pv 1))))))), ?_⟩
    k_updF
    refine ⟨fun m σ H' => ∃ (r b : Nat) (rest : Int), σ = [some (.int e), some (.int (10 ^ r)), some (.int (10 ^ b)), some (.int rest)] ∧ H' = H ∧ m = rest.toNat ∧ (rest ≤ 0 → r = e.toNat) ∧ (0 < rest → r + b * rest.toNat = e.toNat) ∧ 1 ≤ b,
      ⟨e.toNat, 0, 1, e, rfl, rfl, rfl, by omega, by omega, by omega⟩, ?_⟩
    rintro m σ H' ⟨r, b, rest, rfl, rfl, rfl, h1, h2, h3⟩
    k_updF
    refine WP.br (fun c => ?_) (fun c => ?_)
    · have e1 := h2 c
      have hb : b ≤ 3000 := by
        have : b * 1 ≤ b * rest.toNat := Nat.mul_le_mul_left b (by omega)
        omega
      have hrr : r ≤ 3000 := by omega
      have ed : rest.toNat = 2 * (rest / 2).toNat + (rest % 2).toNat := by omega
      refine ⟨fun σ' H2 => ∃ m', m' < rest.toNat ∧ ∃ (r b : Nat) (rest : Int), σ' = [some (.int e), some (.int (10 ^ r)), some (.int (10 ^ b)), some (.int rest)] ∧ H2 = H' ∧ m' = rest.toNat ∧ (rest ≤ 0 → r = e.toNat) ∧ (0 < rest → r + b * rest.toNat = e.toNat) ∧ 1 ≤ b, fun _ _ x => x, ?_⟩
      have step : ∀ r', (rest / 2 ≤ 0 → r' = e.toNat) → (0 < rest / 2 → r' + (b + b) * (rest / 2).toNat = e.toNat) →
          ∃ m', m' < rest.toNat ∧ ∃ (r b' : Nat) (rest' : Int), [some (V.int e), some (.int (10 ^ r')), some (.int (10 ^ b * 10 ^ b)), some (.int (rest / 2))] = [some (.int e), some (.int (10 ^ r)), some (.int (10 ^ b')), some (.int rest')] ∧ H' = H' ∧ m' = rest'.toNat ∧ (rest' ≤ 0 → r = e.toNat) ∧ (0 < rest' → r + b' * rest'.toNat = e.toNat) ∧ 1 ≤ b' := fun r' q1 q2 =>
        ⟨(rest / 2).toNat, by omega, r', b + b, rest / 2, by rw [Int.pow_add], rfl, rfl, q1, q2, by omega⟩
      k_memK; k_memK; k_memK; k_memK; k_memK; k_memK; k_memK
      refine WP.iC (show (0 : Int) < 2 by decide) ?_
      k_updF
      refine WP.br (fun o => ?_) (fun o => ?_)
      · k_updF
        refine WP.iC ((WP.Bt.ten r).w (WP.Bt.ten b)) ?_
        k_updF
        refine WP.iC ((WP.Bt.ten b).w (WP.Bt.ten b)) ?_
        k_updF
        refine WP.iC ⟨by decide, by decide⟩ ?_
        k_updF
        have e2 : b * rest.toNat = (b + b) * (rest / 2).toNat + b := by rw [ed, show (rest % 2).toNat = 1 by omega, Nat.mul_add, ← Nat.mul_assoc, Nat.mul_comm b 2, Nat.two_mul, Nat.mul_one]
        have := step (r + b) (fun q => by rw [show (rest / 2).toNat = 0 by omega] at e2; omega) (fun q => by omega)
        rw [Int.pow_add] at this
        exact this
      · k_updF
        refine WP.iC ((WP.Bt.ten b).w (WP.Bt.ten b)) ?_
        k_updF
        refine WP.iC ⟨by decide, by decide⟩ ?_
        k_updF
        have e2 : b * rest.toNat = (b + b) * (rest / 2).toNat := by rw [ed, show (rest % 2).toNat = 0 by omega, Nat.add_zero, ← Nat.mul_assoc, Nat.mul_comm b 2, Nat.two_mul]
        exact step r (fun q => by omega) (fun q => by omega)
    · k_updF
      rw [h1 (by omega)]
      exact k
end
abbrev s_divide : Stmt := top 8
abbrev N_divide : List Str := ["a", "b", "scale", "is_rounded"]
theorem sc_divide : FnScope N_divide ["a", "b", "scale", "is_rounded"] (defScope s_divide) := ⟨rfl, rfl, rfl, by decide +kernel, rfl, by decide +kernel, by decide +kernel⟩
def sp_divide (K : PySem.W.Frag) (mg : WP.MG) : Sp := fun vs H Q E => ∃ (p q : Addr) (u : Int) (s : Nat) (x : Int) (t : Nat) (scale : Nat) (r : Bool), vs = [.ref p, .ref q, .int (scale : Int), .bl r] ∧ SqT K H p (WP.dv u s) ∧ SqT K H q (WP.dv x t) ∧
  s ≤ 1000 ∧ t ≤ 1000 ∧ scale ≤ 1000 ∧ WP.Bt u 100 ∧ WP.Bt x 100 ∧ t + scale ≤ 900 ∧ (x = 0 → E (.ref (WP.ca mg "BadDecimal")) none H) ∧ (x ≠ 0 → WP.RetV (.int (MQ.quot (u * 10 ^ (t + scale)) (x * 10 ^ s) r)) H Q)
section
variable {P : Program} {w : World} {K : PySem.W.Frag} {mg : Str → Option Value} {base : Heap}
theorem ok_divide {f : Addr} {fd : FuncData} (F : Fun K "divide" "divide" s_divide f fd) (B : Blt K mg) (c_quotient : WP.Callee P w K mg base CX0 1 "quotient" ["above", "below", "is_rounded"] (sp_quotient K mg)) (c_power : WP.Callee P w K mg base CX0 1 "power" ["exponent"] (sp_power K mg)) : FnOk P w K mg base (L2.CX P w) 2 f fd ["a", "b", "scale", "is_rounded"] (sp_divide K mg) := by
  refine F.okX sc_divide (fun vs H Q E h => ?_) (fun cdv A outer s H vs Q E hr h => ?_)
  · first | (obtain ⟨_, rfl, _⟩ := h; rfl) | (obtain ⟨_, _, rfl, _⟩ := h; rfl) | (obtain ⟨_, _, _, rfl, _⟩ := h; rfl) | (obtain ⟨_, _, _, _, rfl, _⟩ := h; rfl) | (obtain ⟨_, _, _, _, _, rfl, _⟩ := h; rfl) | (obtain ⟨_, _, _, _, _, _, rfl, _⟩ := h; rfl) | (obtain ⟨_, _, _, _, _, _, _, rfl, _⟩ := h; rfl) | (obtain ⟨_, _, _, _, _, _, _, _, rfl, _⟩ := h; rfl) | (obtain ⟨rfl, _⟩ := h; rfl)
  · obtain ⟨p, q, u, s', x, t, scale, r, rfl, hp, hq, h1, h2, h3, hu, hx, h4, kE, kQ⟩ := h
    refine ⟨_, (pss_cons (ps_if (pt_cmpR op_eq (pe_ix ix_tup (pv 1) pe_int (fun _ _ => rfl)) pe_int (nomark _)) (pss_one (WP.ps_raiseC rfl (takes_of rfl rfl rfl rfl) B.e_BadDecimal (by exact rfl))) pss_nil)
      (pss_one (ps_ret (WP.pe_callC c_quotient hr rfl pass0 (pa_cons (pe_op op_mulW (pe_ix ix_tup (pv 0) pe_int (fun _ _ => rfl)) (WP.pe_callC c_power hr rfl pass0 (pa_cons (pe_op op_add (pe_ix ix_tup (pv 1) pe_int (fun _ _ => rfl)) (pv 2)) pa_nil))) (pa_cons (pe_op op_mulW (pe_ix ix_tup (pv 1) pe_int (fun _ _ => rfl)) (WP.pe_callC c_power hr rfl pass0 (pa_cons (pe_ix ix_tup (pv 0) pe_int (fun _ _ => rfl)) pa_nil))) (pa_cons (pv 3) pa_nil))))))), ?_⟩
    k_updF
    refine WP.ixT hq WP.at0 ?_
    k_updF
    refine WP.br (fun c => ?_) (fun c => ?_)
    · exact kE c
    · k_updF
      refine WP.ixT hp WP.at0 ?_
      k_updF
      refine WP.ixT hq WP.at1 ?_
      k_updF
      refine ⟨_, rfl, by omega, ?_⟩
      refine WP.iC (hu.w (WP.Bt.ten _)) ?_
      k_updF
      refine WP.ixT hq WP.at0 ?_
      k_updF
      refine WP.ixT hp WP.at1 ?_
      k_updF
      refine ⟨_, rfl, by omega, ?_⟩
      refine WP.iC (hx.w (WP.Bt.ten _)) ?_
      k_updF
      rw [show ((t : Int) + (scale : Int)).toNat = t + scale by omega, Int.toNat_natCast]
      refine ⟨_, _, _, rfl, Int.mul_ne_zero c (Int.ne_of_gt (WP.ten_pos _)), (hu.mul (WP.Bt.ten _)).mono (by omega), kQ c⟩
end
abbrev s__law_divide : Stmt := top 16
abbrev N__law_divide : List Str := ["a", "b", "scale", "is_rounded", "e"]
theorem sc__law_divide : FnScope N__law_divide ["a", "b", "scale", "is_rounded"] (defScope s__law_divide) := ⟨rfl, rfl, rfl, by decide +kernel, rfl, by decide +kernel, by decide +kernel⟩
def sp__law_divide (K : PySem.W.Frag) (mg : WP.MG) : Sp := fun vs H Q _ => ∃ (p q : Addr) (u : Int) (s : Nat) (x : Int) (t : Nat) (scale : Nat) (r : Bool), vs = [.ref p, .ref q, .int (scale : Int), .bl r] ∧ SqT K H p (WP.dv u s) ∧ SqT K H q (WP.dv x t) ∧
  s ≤ 1000 ∧ t ≤ 1000 ∧ scale ≤ 1000 ∧ WP.Bt u 100 ∧ WP.Bt x 100 ∧ t + scale ≤ 900 ∧ (x = 0 → WP.RetT [.str "refused", .bl true] H Q) ∧ (x ≠ 0 → WP.RetV (.int (MQ.quot (u * 10 ^ (t + scale)) (x * 10 ^ s) r)) H Q)
section
variable {P : Program} {w : World} {K : PySem.W.Frag} {mg : Str → Option Value} {base : Heap}
theorem ok__law_divide {f : Addr} {fd : FuncData} (F : Fun K "_law_divide" "_law_divide" s__law_divide f fd) (B : Blt K mg) (c_divide : WP.Callee P w K mg base (L2.CX P w) 2 "divide" ["a", "b", "scale", "is_rounded"] (sp_divide K mg)) : FnOk P w K mg base CX0 3 f fd ["a", "b", "scale", "is_rounded"] (sp__law_divide K mg) := by
  refine F.ok sc__law_divide (fun vs H Q E h => ?_) (fun cdv A outer s H vs Q E hr h => ?_)
  · first | (obtain ⟨_, rfl, _⟩ := h; rfl) | (obtain ⟨_, _, rfl, _⟩ := h; rfl) | (obtain ⟨_, _, _, rfl, _⟩ := h; rfl) | (obtain ⟨_, _, _, _, rfl, _⟩ := h; rfl) | (obtain ⟨_, _, _, _, _, rfl, _⟩ := h; rfl) | (obtain ⟨_, _, _, _, _, _, rfl, _⟩ := h; rfl) | (obtain ⟨_, _, _, _, _, _, _, rfl, _⟩ := h; rfl) | (obtain ⟨_, _, _, _, _, _, _, _, rfl, _⟩ := h; rfl) | (obtain ⟨rfl, _⟩ := h; rfl)
  · obtain ⟨p, q, u, s', x, t, scale, r, rfl, hp, hq, h1, h2, h3, hu, hx, h4, kE, kQ⟩ := h
    refine ⟨_, (pss_one (ps_try_as (i := 4) (tb := fun W => (tRet (tCallS (sp_divide K mg) (WE W) (tCons (tVar 0) (tCons (tVar 1) (tCons (tVar 2) (tCons (tVar 3) tNil))))))) (ts := fun a cls d => (tRet (tTup (tCons (tC (.str "refused")) (tCons (tCB (WP.rIsX K a cls d) (tCons (tVar 4) (tCons (tC (.ref (WP.ca mg "BadDecimal"))) tNil))) tNil))))) (Wout := (fun _ _ _ _ => False)) rfl rfl sc__law_divide.nd rfl rfl ⟨rfl, by decide, Or.inl B.e_CardError.m⟩ takes0
        (fun W pn xe tk _ => (pss_one (ps_ret (WP.pe_callSC c_divide hr rfl (fun σ => passAt tk σ) (pa_cons (pv 0) (pa_cons (pv 1) (pa_cons (pv 2) (pa_cons (pv 3) pa_nil))))))))
        (fun a oe cls d pn hz hf => (pss_one (ps_ret (pe_tup (pa_cons pe_str (pa_cons (pe_callB (WP.call_isX hz hf) (by rfl) B.b_isinstance (by decide +kernel) (pa_cons (pv 4) (pa_cons (pe_glob rfl B.e_BadDecimal.m rfl) pa_nil))) pa_nil)))))))), ?_⟩
    k_updF
    refine WP.callS ?_
    k_updF
    refine ⟨p, q, u, s', x, t, scale, r, rfl, hp, hq, h1, h2, h3, hu, hx, h4, fun e => ?_, kQ⟩
    refine ⟨true, B.e_CardError.a.catches B.s_BadDecimal_CardError, fun _ a na => ?_, fun z => Bool.noConfusion z⟩
    k_updF
    refine WP.isX B.e_BadDecimal.a.c B.i_BadDecimal_BadDecimal ?_
    k_updF
    exact ⟨WP.sz2, (kE e).new (Same.refl _)⟩
end
abbrev s__law_cell : Stmt := top 10
abbrev N__law_cell : List Str := ["script", "k"]
theorem sc__law_cell : FnScope N__law_cell ["script", "k"] (defScope s__law_cell) := ⟨rfl, rfl, rfl, by decide +kernel, rfl, by decide +kernel, by decide +kernel⟩
def sp__law_cell (K : PySem.W.Frag) (mg : WP.MG) : Sp := fun vs H Q _ => ∃ (a : Addr) (ns : List Int) (k : Int), vs = [.ref a, .int k] ∧ SqL K H a (ns.map V.int) ∧ 0 ≤ k ∧ ∀ c : Int, Q (.int c) H
section
variable {P : Program} {w : World} {K : PySem.W.Frag} {mg : Str → Option Value} {base : Heap}
theorem ok__law_cell {f : Addr} {fd : FuncData} (F : Fun K "_law_cell" "_law_cell" s__law_cell f fd) (B : Blt K mg)  : FnOk P w K mg base CX0 1 f fd ["script", "k"] (sp__law_cell K mg) := by
  refine F.ok sc__law_cell (fun vs H Q E h => ?_) (fun cdv A outer s H vs Q E hr h => ?_)
  · first | (obtain ⟨_, rfl, _⟩ := h; rfl) | (obtain ⟨_, _, rfl, _⟩ := h; rfl) | (obtain ⟨_, _, _, rfl, _⟩ := h; rfl) | (obtain ⟨_, _, _, _, rfl, _⟩ := h; rfl) | (obtain ⟨_, _, _, _, _, rfl, _⟩ := h; rfl) | (obtain ⟨_, _, _, _, _, _, rfl, _⟩ := h; rfl) | (obtain ⟨_, _, _, _, _, _, _, rfl, _⟩ := h; rfl) | (obtain ⟨_, _, _, _, _, _, _, _, rfl, _⟩ := h; rfl) | (obtain ⟨rfl, _⟩ := h; rfl)
  · obtain ⟨a, ns, i, rfl, ha, hi, k⟩ := h
    refine ⟨_, (pss_cons (ps_if (pt_cmpR op_lt (pv 1) (pe_callB WP.c_len (by rfl) B.b_len (by decide +kernel) (pa_cons (pv 0) pa_nil)) (nomark _)) (pss_one (ps_ret (pe_callTy WP.c_int1 (by rfl) B.b_int (by decide +kernel) (pa_cons (pe_ix ix_list (pv 0) (pv 1) (fun _ _ => rfl)) pa_nil)))) pss_nil)
      (pss_one (ps_ret pe_int))), ?_⟩
    k_updF
    refine WP.lenL ha ?_
    k_updF
    refine WP.br (fun c => ?_) (fun c => ?_)
    · k_updF
      rw [List.length_map] at c
      refine WP.ixL ha (WP.at_ints hi c) ?_
      k_updF
      exact WP.intI (k _)
    · k_updF
      exact k 0
end
abbrev s__law_right : Stmt := top 15
abbrev N__law_right : List Str := ["actual", "above", "below", "is_rounded", "size", "above_size", "below_size"]
theorem sc__law_right : FnScope N__law_right ["actual", "above", "below", "is_rounded"] (defScope s__law_right) := ⟨rfl, rfl, rfl, by decide +kernel, rfl, by decide +kernel, by decide +kernel⟩
def sp__law_right (K : PySem.W.Frag) (mg : WP.MG) : Sp := fun vs H Q _ => ∃ (q x y : Int) (r : Bool), vs = [.int q, .int x, .int y, .bl r] ∧ MQ.Right q x y r ∧ WP.Bt q 100000 ∧ WP.Bt y 100000 ∧ Q (.bl true) H
section
variable {P : Program} {w : World} {K : PySem.W.Frag} {mg : Str → Option Value} {base : Heap}
theorem ok__law_right {f : Addr} {fd : FuncData} (F : Fun K "_law_right" "_law_right" s__law_right f fd) (B : Blt K mg)  : FnOk P w K mg base CX0 1 f fd ["actual", "above", "below", "is_rounded"] (sp__law_right K mg) := by
  refine F.ok sc__law_right (fun vs H Q E h => ?_) (fun cdv A outer s H vs Q E hr h => ?_)
  · first | (obtain ⟨_, rfl, _⟩ := h; rfl) | (obtain ⟨_, _, rfl, _⟩ := h; rfl) | (obtain ⟨_, _, _, rfl, _⟩ := h; rfl) | (obtain ⟨_, _, _, _, rfl, _⟩ := h; rfl) | (obtain ⟨_, _, _, _, _, rfl, _⟩ := h; rfl) | (obtain ⟨_, _, _, _, _, _, rfl, _⟩ := h; rfl) | (obtain ⟨_, _, _, _, _, _, _, rfl, _⟩ := h; rfl) | (obtain ⟨_, _, _, _, _, _, _, _, rfl, _⟩ := h; rfl) | (obtain ⟨rfl, _⟩ := h; rfl)
  · obtain ⟨q, x, y, r, rfl, R, bq, bx, k⟩ := h
    refine ⟨_, (pss_cons (ps_if (PW.pt (pw_or (pt_not (pt_val (pe_callB call_isi (by rfl) B.b_isinstance (by decide +kernel) (pa_cons (pv 0) (pa_cons (pe_bltn (v := .ty "int") rfl B.b_int (by decide +kernel) rfl) pa_nil))))) (pw_or1 (pt_val (pe_callB call_isi (by rfl) B.b_isinstance (by decide +kernel) (pa_cons (pv 0) (pa_cons (pe_bltn (v := .ty "bool") rfl B.b_bool (by decide +kernel) rfl) pa_nil))))))) (pss_one (ps_ret pe_bl)) pss_nil)
      (pss_cons (ps_set (i := 4) sc__law_right.nd rfl (Or.inl rfl) (pe_callB WP.c_abs (by rfl) B.b_abs (by decide +kernel) (pa_cons (pv 0) pa_nil)))
      (pss_cons (ps_set (i := 5) sc__law_right.nd rfl (Or.inl rfl) (pe_callB WP.c_abs (by rfl) B.b_abs (by decide +kernel) (pa_cons (pv 1) pa_nil)))
      (pss_cons (ps_set (i := 6) sc__law_right.nd rfl (Or.inl rfl) (pe_callB WP.c_abs (by rfl) B.b_abs (by decide +kernel) (pa_cons (pv 2) pa_nil)))
      (pss_cons (ps_if (PW.pt (pw_and (pt_cmpR op_ne (pv 4) pe_int (nomark _)) (pw_and1 (pt_cmpR op_ne (pe_cmpR op_lt (pv 0) pe_int (nomark _)) (pe_cmpR op_ne (pe_cmpR op_lt (pv 1) pe_int (nomark _)) (pe_cmpR op_lt (pv 2) pe_int (nomark _)) (nomark _)) (nomark _))))) (pss_one (ps_ret pe_bl)) pss_nil)
      (pss_cons (ps_if (pt_not (pt_val (pv 3))) (pss_one (ps_ret (pe_and (pe_cmpR op_le (pe_op op_mulW (pv 4) (pv 6)) (pv 5) (nomark _)) (pe_one (pe_cmpR op_lt (pv 5) (pe_op op_mulW (pe_op op_add (pv 4) pe_int) (pv 6)) (nomark _)))))) pss_nil)
      (pss_one (ps_ret (pe_and (pe_cmpR op_le (pe_op op_mulW (pe_op op_sub (pe_op op_mul pe_int (pv 4)) pe_int) (pv 6)) (pe_op op_mul pe_int (pv 5)) (nomark _)) (pe_one (pe_cmpR op_lt (pe_op op_mul pe_int (pv 5)) (pe_op op_mulW (pe_op op_add (pe_op op_mul pe_int (pv 4)) pe_int) (pv 6)) (nomark _)))))))))))), ?_⟩
    have B1 : WP.Bt (q.natAbs : Int) 100000 := by unfold WP.Bt at *; rw [Int.natAbs_natCast]; exact bq
    have B2 : WP.Bt (y.natAbs : Int) 100000 := by unfold WP.Bt at *; rw [Int.natAbs_natCast]; exact bx
    have B0 : WP.Bt (1 : Int) 100000 := (show WP.Bt (1 : Int) 1 by unfold WP.Bt; decide).mono (by decide)
    have Bq1 := B1.add B0
    have B2q := (show WP.Bt (2 : Int) 2 by unfold WP.Bt; decide).mul B1
    have B2a := B2q.add (B0.mono (show 100000 ≤ 2 + 100000 by decide))
    have B2s := B2q.sub (B0.mono (show 100000 ≤ 2 + 100000 by decide))
    k_updF
    refine WP.isY (.base (.int _)) ?_
    k_updF
    refine WP.brF rfl ?_
    k_updF
    refine WP.isN (.base (.int _)) ?_
    k_updF
    refine WP.brF rfl ?_
    k_updF
    refine WP.absI ?_
    k_updF
    refine WP.absI ?_
    k_updF
    refine WP.absI ?_
    k_updF
    rcases Decidable.em (q = 0) with hz | hz
    case' inl =>
      refine WP.brF (by simp [hz]) ?_
      refine WP.brF rfl ?_
    case' inr =>
      refine WP.brT (by simp [hz]) ?_
      k_updF
      refine WP.brF (by have := R.sg hz; revert this; cases decide (q < 0) <;> cases decide (x < 0) <;> cases decide (y < 0) <;> decide) ?_
    all_goals
      k_updF
      cases r with
      | false =>
        obtain ⟨c1, c2⟩ := R.ct rfl
        refine WP.brT rfl ?_
        k_updF
        refine WP.iC (B1.w B2) ?_
        k_updF
        refine WP.brT (decide_eq_true (by rw [← Int.natCast_mul]; omega)) ?_
        k_updF
        refine WP.iC (Bq1.w B2) ?_
        k_updF
        rw [decide_eq_true (show (x.natAbs : Int) < ((q.natAbs : Int) + 1) * (y.natAbs : Int) by rw [show ((q.natAbs : Int) + 1) = ((q.natAbs + 1 : Nat) : Int) by omega, ← Int.natCast_mul]; omega)]
        exact k
      | true =>
        obtain ⟨c1, c2⟩ := R.rd rfl
        refine WP.brF rfl ?_
        k_updF
        refine WP.iC (.inl (by decide)) ?_
        k_updF
        refine WP.iC (B2s.w B2) ?_
        k_updF
        refine WP.iC (.inl (by decide)) ?_
        k_updF
        have c1' : (2 * (q.natAbs : Int) - 1) * (y.natAbs : Int) ≤ 2 * (x.natAbs : Int) := by
          have e : ((2 * q.natAbs * y.natAbs : Nat) : Int) = 2 * (q.natAbs : Int) * (y.natAbs : Int) := by rw [Int.natCast_mul, Int.natCast_mul]; rfl
          rw [Int.sub_mul, ← e]; omega
        have c2' : 2 * (x.natAbs : Int) < (2 * (q.natAbs : Int) + 1) * (y.natAbs : Int) := by
          have e : (((2 * q.natAbs + 1) * y.natAbs : Nat) : Int) = (2 * (q.natAbs : Int) + 1) * (y.natAbs : Int) := by rw [Int.natCast_mul, Int.natCast_add, Int.natCast_mul]; rfl
          rw [← e]; omega
        refine WP.brT (decide_eq_true c1') ?_
        k_updF
        refine WP.iC (.inl (by decide)) ?_
        k_updF
        refine WP.iC (.inl (by decide)) ?_
        k_updF
        refine WP.iC (B2a.w B2) ?_
        k_updF
        rw [decide_eq_true c2']
        exact k
end
abbrev s_aligned : Stmt := top 5
abbrev N_aligned : List Str := ["a", "scale", "units", "own"]
theorem sc_aligned : FnScope N_aligned ["a", "scale"] (defScope s_aligned) := ⟨rfl, rfl, rfl, by decide +kernel, rfl, by decide +kernel, by decide +kernel⟩
def sp_aligned (K : PySem.W.Frag) (mg : WP.MG) : Sp := fun vs H Q _ => ∃ (p : Addr) (u : Int) (own : Nat) (scale : Int), vs = [.ref p, .int scale] ∧ SqT K H p (WP.dv u own) ∧ (own : Int) ≤ scale ∧ scale - own ≤ 3000 ∧ WP.Bt u 900000 ∧ Q (.int (u * 10 ^ (scale - own).toNat)) H
section
variable {P : Program} {w : World} {K : PySem.W.Frag} {mg : Str → Option Value} {base : Heap}
theorem ok_aligned {f : Addr} {fd : FuncData} (F : Fun K "aligned" "aligned" s_aligned f fd) (B : Blt K mg) (c_power : WP.Callee P w K mg base CX0 1 "power" ["exponent"] (sp_power K mg)) : FnOk P w K mg base CX0 2 f fd ["a", "scale"] (sp_aligned K mg) := by
  refine F.ok sc_aligned (fun vs H Q E h => ?_) (fun cdv A outer s H vs Q E hr h => ?_)
  · first | (obtain ⟨_, rfl, _⟩ := h; rfl) | (obtain ⟨_, _, rfl, _⟩ := h; rfl) | (obtain ⟨_, _, _, rfl, _⟩ := h; rfl) | (obtain ⟨_, _, _, _, rfl, _⟩ := h; rfl) | (obtain ⟨_, _, _, _, _, rfl, _⟩ := h; rfl) | (obtain ⟨_, _, _, _, _, _, rfl, _⟩ := h; rfl) | (obtain ⟨_, _, _, _, _, _, _, rfl, _⟩ := h; rfl) | (obtain ⟨_, _, _, _, _, _, _, _, rfl, _⟩ := h; rfl) | (obtain ⟨rfl, _⟩ := h; rfl)
  · obtain ⟨p, u, own, scale, rfl, hp, h1, h2, hu, k⟩ := h
    refine ⟨_, (pss_cons (ps_asg (pv 0) (pg_tup (by rfl) (pgs_cons (pg_name (i := 2) sc_aligned.nd rfl (Or.inl rfl)) (pgs_cons (pg_name (i := 3) sc_aligned.nd rfl (Or.inl rfl)) pgs_nil))))
      (pss_one (ps_ret (pe_op op_mulW (pv 2) (WP.pe_callC c_power hr rfl pass0 (pa_cons (pe_op op_sub (pv 1) (pv 3)) pa_nil)))))), ?_⟩
    k_updF
    refine WP.unT hp rfl ?_
    k_updF
    refine ⟨_, rfl, h2, ?_⟩
    refine WP.iC (hu.w (WP.Bt.ten _)) ?_
    exact k
end
abbrev s_units_at : Stmt := top 7
abbrev N_units_at : List Str := ["a", "scale", "is_rounded", "units", "own"]
theorem sc_units_at : FnScope N_units_at ["a", "scale", "is_rounded"] (defScope s_units_at) := ⟨rfl, rfl, rfl, by decide +kernel, rfl, by decide +kernel, by decide +kernel⟩
def sp_units_at (K : PySem.W.Frag) (mg : WP.MG) : Sp := fun vs H Q _ => ∃ (p : Addr) (u : Int) (own : Nat) (scale : Nat) (r : Bool), vs = [.ref p, .int (scale : Int), .bl r] ∧ SqT K H p (WP.dv u own) ∧ own ≤ 1000 ∧ scale ≤ 1000 ∧ WP.Bt u 3900 ∧
  ∀ q, q = (if own ≤ scale then u * 10 ^ (scale - own) else MQ.quot u (10 ^ (own - scale)) r) → WP.RetV (.int q) H Q
section
variable {P : Program} {w : World} {K : PySem.W.Frag} {mg : Str → Option Value} {base : Heap}
theorem ok_units_at {f : Addr} {fd : FuncData} (F : Fun K "units_at" "units_at" s_units_at f fd) (B : Blt K mg) (c_quotient : WP.Callee P w K mg base CX0 1 "quotient" ["above", "below", "is_rounded"] (sp_quotient K mg)) (c_aligned : WP.Callee P w K mg base CX0 2 "aligned" ["a", "scale"] (sp_aligned K mg)) (c_power : WP.Callee P w K mg base CX0 1 "power" ["exponent"] (sp_power K mg)) : FnOk P w K mg base CX0 3 f fd ["a", "scale", "is_rounded"] (sp_units_at K mg) := by
  refine F.ok sc_units_at (fun vs H Q E h => ?_) (fun cdv A outer s H vs Q E hr h => ?_)
  · first | (obtain ⟨_, rfl, _⟩ := h; rfl) | (obtain ⟨_, _, rfl, _⟩ := h; rfl) | (obtain ⟨_, _, _, rfl, _⟩ := h; rfl) | (obtain ⟨_, _, _, _, rfl, _⟩ := h; rfl) | (obtain ⟨_, _, _, _, _, rfl, _⟩ := h; rfl) | (obtain ⟨_, _, _, _, _, _, rfl, _⟩ := h; rfl) | (obtain ⟨_, _, _, _, _, _, _, rfl, _⟩ := h; rfl) | (obtain ⟨_, _, _, _, _, _, _, _, rfl, _⟩ := h; rfl) | (obtain ⟨rfl, _⟩ := h; rfl)
  · obtain ⟨p, u, own, scale, r, rfl, hp, h1, h2, hu, k⟩ := h
    refine ⟨_, (pss_cons (ps_asg (pv 0) (pg_tup (by rfl) (pgs_cons (pg_name (i := 3) sc_units_at.nd rfl (Or.inl rfl)) (pgs_cons (pg_name (i := 4) sc_units_at.nd rfl (Or.inl rfl)) pgs_nil))))
      (pss_cons (ps_if (pt_cmpR op_ge (pv 1) (pv 4) (nomark _)) (pss_one (ps_ret (WP.pe_callC c_aligned hr rfl pass0 (pa_cons (pv 0) (pa_cons (pv 1) pa_nil))))) pss_nil)
      (pss_one (ps_ret (WP.pe_callC c_quotient hr rfl pass0 (pa_cons (pv 3) (pa_cons (WP.pe_callC c_power hr rfl pass0 (pa_cons (pe_op op_sub (pv 4) (pv 1)) pa_nil)) (pa_cons (pv 2) pa_nil)))))))), ?_⟩
    k_updF
    refine WP.unT hp rfl ?_
    k_updF
    refine WP.br (fun c => ?_) (fun c => ?_)
    · k_updF
      refine ⟨p, u, own, _, rfl, hp, c, by omega, hu.mono (by decide), ?_⟩
      refine k _ ?_ _ (Same.refl _)
      rw [if_pos (by omega), show ((scale : Int) - (own : Int)).toNat = scale - own by omega]
    · k_updF
      refine ⟨_, rfl, by omega, ?_⟩
      k_updF
      refine ⟨_, _, _, rfl, Int.ne_of_gt (WP.ten_pos _), hu, ?_⟩
      refine k _ ?_
      rw [if_neg (by omega), show ((own : Int) - (scale : Int)).toNat = own - scale by omega]
end
abbrev s__law_ten : Stmt := top 14
abbrev N__law_ten : List Str := ["scale", "result", "k"]
theorem sc__law_ten : FnScope N__law_ten ["scale"] (defScope s__law_ten) := ⟨rfl, rfl, rfl, by decide +kernel, rfl, by decide +kernel, by decide +kernel⟩
def sp__law_ten (K : PySem.W.Frag) (mg : WP.MG) : Sp := fun vs H Q _ => ∃ n : Int, vs = [.int n] ∧ n ≤ 5000 ∧ -5000 ≤ n ∧ Q (.int (10 ^ n.toNat)) H
section
variable {P : Program} {w : World} {K : PySem.W.Frag} {mg : Str → Option Value} {base : Heap}
theorem ok__law_ten {f : Addr} {fd : FuncData} (F : Fun K "_law_ten" "_law_ten" s__law_ten f fd) (B : Blt K mg)  : FnOk P w K mg base CX0 1 f fd ["scale"] (sp__law_ten K mg) := by
  refine F.ok sc__law_ten (fun vs H Q E h => ?_) (fun cdv A outer s H vs Q E hr h => ?_)
  · first | (obtain ⟨_, rfl, _⟩ := h; rfl) | (obtain ⟨_, _, rfl, _⟩ := h; rfl) | (obtain ⟨_, _, _, rfl, _⟩ := h; rfl) | (obtain ⟨_, _, _, _, rfl, _⟩ := h; rfl) | (obtain ⟨_, _, _, _, _, rfl, _⟩ := h; rfl) | (obtain ⟨_, _, _, _, _, _, rfl, _⟩ := h; rfl) | (obtain ⟨_, _, _, _, _, _, _, rfl, _⟩ := h; rfl) | (obtain ⟨_, _, _, _, _, _, _, _, rfl, _⟩ := h; rfl) | (obtain ⟨rfl, _⟩ := h; rfl)
  · obtain ⟨n, rfl, h1, h2, k⟩ := h
    refine ⟨_, (pss_cons (ps_set (i := 1) sc__law_ten.nd rfl (Or.inl rfl) pe_int)
      (pss_cons (ps_for PassesOwn.never rfl (pi_range1 rfl B.b_range (pa_cons (pv 0) pa_nil)) (pg_name (i := 2) sc__law_ten.nd rfl (Or.inl rfl)) (pss_one (ps_set (i := 1) sc__law_ten.nd rfl (Or.inl rfl) (pe_op op_mul (pv 1) pe_int))))
      (pss_one (ps_ret (pv 1))))), ?_⟩
    k_updF
    refine ⟨_, rfl, by omega, by omega, for_range (lo := 0) (n := n.toNat) (fun i σ' H' => ∃ z, σ' = [some (.int n), some (.int (10 ^ i)), z] ∧ H' = H) ⟨none, rfl, rfl⟩ ?_ ?_⟩
    · rintro i σ' H' hi ⟨z, rfl, rfl⟩
      k_updF
      refine WP.iC (.inr (by decide)) ?_
      k_updF
      exact ⟨some (.int (0 + (i : Int))), by rw [Int.pow_succ]; rfl, rfl⟩
    · rintro σ' H' ⟨z, rfl, rfl⟩
      k_updF
      exact k
end
abbrev s_law : Stmt := top 17
abbrev N_law : List Str := ["script", "k", "rich", "is_rounded", "below", "above", "a", "b", "scale", "actual"]
theorem sc_law : FnScope N_law ["script"] (defScope s_law) := ⟨rfl, rfl, rfl, by decide +kernel, rfl, by decide +kernel, by decide +kernel⟩
def sp_law (K : PySem.W.Frag) : Sp := fun vs H Q _ => ∃ (a : Addr) (ns : List Int), vs = [.ref a] ∧ SqL K H a (ns.map V.int) ∧ ns.length ≤ 63 ∧ ∀ H', Q (.bl true) H'
theorem bt18 {u : Int} (h : u.natAbs ≤ 10 ^ 18) : WP.Bt u 60 := Nat.lt_of_le_of_lt h (by decide)
theorem bt100 {u : Int} (h : u.natAbs ≤ 10 ^ 30) : WP.Bt u 100 := Nat.lt_of_le_of_lt h (by decide)
theorem quot_bt {x y : Int} {r : Bool} {n : Nat} (h : WP.Bt x n) : WP.Bt (MQ.quot x y r) (n + 1) := by
  unfold WP.Bt at *
  rw [MQ.quot_abs]
  unfold MQ.qsz
  have := Nat.div_le_self x.natAbs y.natAbs
  rw [Nat.pow_succ]
  split <;> omega
section
variable {P : Program} {w : World} {K : PySem.W.Frag} {mg : Str → Option Value} {base : Heap}
theorem ok_law {f : Addr} {fd : FuncData} (F : Fun K "law" "law" s_law f fd) (B : Blt K mg) (c__law_rich : WP.Callee P w K mg base CX0 1 "_law_rich" ["cell", "k"] (sp__law_rich K mg)) (c__law_number : WP.Callee P w K mg base CX0 2 "_law_number" ["rich"] (sp__law_number K mg)) (c__law_divide : WP.Callee P w K mg base CX0 3 "_law_divide" ["a", "b", "scale", "is_rounded"] (sp__law_divide K mg)) (c__law_cell : WP.Callee P w K mg base CX0 1 "_law_cell" ["script", "k"] (sp__law_cell K mg)) (c__law_right : WP.Callee P w K mg base CX0 1 "_law_right" ["actual", "above", "below", "is_rounded"] (sp__law_right K mg)) (c_quotient : WP.Callee P w K mg base CX0 1 "quotient" ["above", "below", "is_rounded"] (sp_quotient K mg)) (c_units_at : WP.Callee P w K mg base CX0 3 "units_at" ["a", "scale", "is_rounded"] (sp_units_at K mg)) (c__law_ten : WP.Callee P w K mg base CX0 1 "_law_ten" ["scale"] (sp__law_ten K mg)) : FnOk P w K mg base CX0 4 f fd ["script"] (sp_law K) := by
  refine F.ok sc_law (fun vs H Q E h => ?_) (fun cdv A outer s H vs Q E hr h => ?_)
  · first | (obtain ⟨_, rfl, _⟩ := h; rfl) | (obtain ⟨_, _, rfl, _⟩ := h; rfl) | (obtain ⟨_, _, _, rfl, _⟩ := h; rfl) | (obtain ⟨_, _, _, _, rfl, _⟩ := h; rfl) | (obtain ⟨_, _, _, _, _, rfl, _⟩ := h; rfl) | (obtain ⟨_, _, _, _, _, _, rfl, _⟩ := h; rfl) | (obtain ⟨_, _, _, _, _, _, _, rfl, _⟩ := h; rfl) | (obtain ⟨_, _, _, _, _, _, _, _, rfl, _⟩ := h; rfl) | (obtain ⟨rfl, _⟩ := h; rfl)
  · obtain ⟨a, ns, rfl, ha, hl, k⟩ := h
    refine ⟨_, (pss_cons (ps_for PassesOwn.never rfl (pi_range1 rfl B.b_range (pa_cons (pe_callB (WP.c_max2 rfl) (by rfl) B.b_max (by decide +kernel) (pa_cons pe_int (pa_cons (pe_callB (WP.c_min2 rfl) (by rfl) B.b_min (by decide +kernel) (pa_cons pe_int (pa_cons (pe_callB WP.c_len (by rfl) B.b_len (by decide +kernel) (pa_cons (pv 0) pa_nil)) pa_nil))) pa_nil))) pa_nil)) (pg_name (i := 1) sc_law.nd rfl (Or.inl rfl)) (pss_cons (ps_set (i := 2) sc_law.nd rfl (Or.inl rfl) (WP.pe_callC c__law_rich hr rfl pass0 (pa_cons (WP.pe_callC c__law_cell hr rfl pass0 (pa_cons (pv 0) (pa_cons (pv 1) pa_nil))) (pa_cons (pv 1) pa_nil))))
      (pss_cons (ps_set (i := 3) sc_law.nd rfl (Or.inl rfl) (pe_cmpR op_eq (pe_op op_mod (pv 2) pe_int) pe_int (nomark _)))
      (pss_cons (ps_set (i := 4) sc_law.nd rfl (Or.inl rfl) (pe_op op_sub (pe_op op_mod (pe_op op_fdiv (pv 2) pe_int) pe_int) pe_int))
      (Evl.pss_cut (ps_if (pt_cmpR op_eq (pv 4) pe_int (nomark _)) (pss_one (ps_set (i := 4) sc_law.nd rfl (Or.inl rfl) pe_int)) pss_nil)
      (pss_cons (ps_set (i := 5) sc_law.nd rfl (Or.inl rfl) (pe_op op_sub (pe_op op_mod (pe_op op_fdiv (pv 2) pe_int) (pe_op op_pow pe_int pe_int)) (pe_op op_pow pe_int pe_int)))
      (Evl.pss_cut (ps_if (pt_cmpR op_eq (pe_op op_mod (pv 2) pe_int) pe_int (nomark _)) (pss_cons (ps_set (i := 4) sc_law.nd rfl (Or.inl rfl) (pe_op op_mul pe_int (pv 4)))
      (pss_one (ps_set (i := 5) sc_law.nd rfl (Or.inl rfl) (pe_op op_mulW (pe_op op_fdiv (pv 4) pe_int) (pe_op op_sub (pe_op op_mod (pe_op op_fdiv (pv 2) pe_int) pe_int) pe_int))))) pss_nil)
      (pss_cons (ps_if (pt_not (pt_val (WP.pe_callC c__law_right hr rfl pass0 (pa_cons (WP.pe_callC c_quotient hr rfl pass0 (pa_cons (pv 5) (pa_cons (pv 4) (pa_cons (pv 3) pa_nil)))) (pa_cons (pv 5) (pa_cons (pv 4) (pa_cons (pv 3) pa_nil))))))) (pss_one (ps_ret pe_bl)) pss_nil)
      (pss_cons (ps_set (i := 6) sc_law.nd rfl (Or.inl rfl) (WP.pe_callC c__law_number hr rfl pass0 (pa_cons (pe_op op_fdiv (pv 2) pe_int) pa_nil)))
      (pss_cons (ps_set (i := 7) sc_law.nd rfl (Or.inl rfl) (WP.pe_callC c__law_number hr rfl pass0 (pa_cons (pe_op op_add (pe_op op_fdiv (pv 2) pe_int) (pe_op op_mul pe_int (pv 1))) pa_nil)))
      (pss_cons (ps_set (i := 8) sc_law.nd rfl (Or.inl rfl) (pe_op op_mod (pe_op op_fdiv (pv 2) pe_int) pe_int))
      (pss_cons (ps_if (pt_not (pt_val (WP.pe_callC c__law_right hr rfl pass0 (pa_cons (WP.pe_callC c_units_at hr rfl pass0 (pa_cons (pv 6) (pa_cons (pv 8) (pa_cons (pv 3) pa_nil)))) (pa_cons (pe_op op_mulW (pe_ix ix_tup (pv 6) pe_int (fun _ _ => rfl)) (WP.pe_callC c__law_ten hr rfl pass0 (pa_cons (pv 8) pa_nil))) (pa_cons (WP.pe_callC c__law_ten hr rfl pass0 (pa_cons (pe_ix ix_tup (pv 6) pe_int (fun _ _ => rfl)) pa_nil)) (pa_cons (pv 3) pa_nil))))))) (pss_one (ps_ret pe_bl)) pss_nil)
      (pss_cons (ps_set (i := 9) sc_law.nd rfl (Or.inl rfl) (WP.pe_callC c__law_divide hr rfl pass0 (pa_cons (pv 6) (pa_cons (pv 7) (pa_cons (pv 8) (pa_cons (pv 3) pa_nil))))))
      (pss_one (ps_if (pt_cmpR op_eq (pe_ix ix_tup (pv 7) pe_int (fun _ _ => rfl)) pe_int (nomark _)) (pss_one (ps_if (pt_cmpR (op_neD hr.units) (pv 9) (pe_tup (pa_cons pe_str (pa_cons pe_bl pa_nil))) (nomark _)) (pss_one (ps_ret pe_bl)) pss_nil)) (pss_one (ps_if (pt_not (pt_val (WP.pe_callC c__law_right hr rfl pass0 (pa_cons (pv 9) (pa_cons (pe_op op_mulW (pe_ix ix_tup (pv 6) pe_int (fun _ _ => rfl)) (WP.pe_callC c__law_ten hr rfl pass0 (pa_cons (pe_op op_add (pe_ix ix_tup (pv 7) pe_int (fun _ _ => rfl)) (pv 8)) pa_nil))) (pa_cons (pe_op op_mulW (pe_ix ix_tup (pv 7) pe_int (fun _ _ => rfl)) (WP.pe_callC c__law_ten hr rfl pass0 (pa_cons (pe_ix ix_tup (pv 6) pe_int (fun _ _ => rfl)) pa_nil))) (pa_cons (pv 3) pa_nil))))))) (pss_one (ps_ret pe_bl)) pss_nil)))))))))))))))))
      (pss_one (ps_ret pe_bl))), ?_⟩
    k_updF
    refine WP.lenL ha ?_
    k_updF
    refine WP.minI ?_
    k_updF
    refine WP.maxI ?_
    k_updF
    rw [List.length_map]
    refine ⟨_, rfl, by omega, by omega, for_range (lo := 0) (n := _) (fun i σ' H' => (∃ z1 z2 z3 z4 z5 z6 z7 z8 z9, σ' = [some (.ref a), z1, z2, z3, z4, z5, z6, z7, z8, z9]) ∧ Same H H') ⟨⟨_, _, _, _, _, _, _, _, _, rfl⟩, Same.refl _⟩ ?_ ?_⟩
    rotate_left
    · rintro σ' H' ⟨_, _⟩
      k_updF
      exact k _
    rintro i σ' H1 hi ⟨⟨z1, z2, z3, z4, z5, z6, z7, z8, z9, rfl⟩, e1⟩
    k_updF
    refine ⟨a, ns, _, rfl, WP.sql e1 ha, by omega, fun c => ?_⟩
    k_updF
    refine ⟨c, _, rfl, fun rich hr0 => ?_⟩
    k_updF
    refine WP.iC (by decide) ?_
    k_updF
    refine WP.iC ⟨by decide, by decide⟩ ?_
    k_updF
    refine WP.iC (by decide) ?_
    k_updF
    generalize hr : decide (rich % 2 = 1) = r
    have b0 := Int.emod_nonneg (rich / 2) (show (2001 : Int) ≠ 0 by decide)
    have b1 := Int.emod_lt_of_pos (rich / 2) (show (0 : Int) < 2001 by decide)
    generalize rich / 2 % 2001 = bl0 at b0 b1 ⊢
    refine WP.cut (fun σ' H' => H' = H1 ∧ ∃ bl : Int, bl ≠ 0 ∧ bl.natAbs ≤ 1000 ∧ σ' = [some (.ref a), some (.int (0 + (i : Int))), some (.int rich), some (.bl r), some (.int bl), z5, z6, z7, z8, z9]) ?_ ?_
    · k_updF
      refine WP.br (fun c => ?_) (fun c => ?_)
      · k_updF
        exact ⟨rfl, 7, by decide, by decide, rfl⟩
      · k_updF
        exact ⟨rfl, _, c, by omega, rfl⟩
    rintro σ' H' ⟨rfl, bl, hb0, hb1, rfl⟩
    k_updF
    refine WP.iC ⟨by decide, by decide⟩ ?_
    k_updF
    refine WP.iC ⟨by decide, by decide, by decide⟩ ?_
    refine WP.iC (by decide) ?_
    k_updF
    refine WP.iC ⟨by decide, by decide, by decide⟩ ?_
    k_updF
    have a0 := Int.emod_nonneg (rich / 4002) (show ((10 : Int) ^ (30 : Int).toNat) ≠ 0 by decide)
    have a1 := Int.emod_lt_of_pos (rich / 4002) (show (0 : Int) < ((10 : Int) ^ (30 : Int).toNat) by decide)
    have c30 : ((10 : Int) ^ (30 : Int).toNat) = 1000000000000000000000000000000 := by decide
    have c29 : ((10 : Int) ^ (29 : Int).toNat) = 100000000000000000000000000000 := by decide
    rw [c30] at a0 a1
    rw [c30, c29]
    refine WP.cut (fun σ' H2 => H2 = H' ∧ ∃ bl ab : Int, bl ≠ 0 ∧ bl.natAbs ≤ 2000 ∧ WP.Bt ab 100 ∧ σ' = [some (.ref a), some (.int (0 + (i : Int))), some (.int rich), some (.bl r), some (.int bl), some (.int ab), z6, z7, z8, z9]) ?_ ?_
    · k_updF
      refine WP.iC (by decide) ?_
      k_updF
      refine WP.br (fun c => ?_) (fun c => ?_)
      · k_updF
        refine WP.iC (.inl (by decide)) ?_
        k_updF
        refine WP.iC ⟨by decide, by decide⟩ ?_
        k_updF
        refine WP.iC ⟨by decide, by decide⟩ ?_
        k_updF
        refine WP.iC (by decide) ?_
        k_updF
        have m0 := Int.emod_nonneg (rich / 9) (show (31 : Int) ≠ 0 by decide)
        have m1 := Int.emod_lt_of_pos (rich / 9) (show (0 : Int) < 31 by decide)
        have q1 : WP.Bt (2 * bl / 2) 12 := by unfold WP.Bt; omega
        have q2 : WP.Bt (rich / 9 % 31 - 15) 12 := by unfold WP.Bt; omega
        refine WP.iC (q1.w q2) ?_
        k_updF
        exact ⟨rfl, 2 * bl, _, by omega, by omega, (q1.mul q2).mono (by decide), rfl⟩
      · k_updF
        exact ⟨rfl, bl, _, hb0, by omega, bt100 (by omega), rfl⟩
    clear a0 a1 b0 b1 hb0 hb1 bl
    rintro σ' H2 ⟨rfl, bl, ab, hb0, hb1, hab, rfl⟩
    k_updF
    refine ⟨_, _, _, rfl, hb0, hab.mono (by decide), fun H3 e3 => ?_⟩
    k_updF
    refine ⟨_, _, _, _, rfl, MQ.right_quot hb0, (quot_bt hab).mono (by decide), (show WP.Bt bl 11 by unfold WP.Bt; omega).mono (by decide), ?_⟩
    k_updF
    refine WP.brF rfl ?_
    k_updF
    refine WP.iC ⟨by decide, by decide⟩ ?_
    k_updF
    refine ⟨_, rfl, fun ua sa da la ba p H4 e4 hp => ?_⟩
    k_updF
    refine WP.iC ⟨by decide, by decide⟩ ?_
    k_updF
    refine WP.iC (.inl (by decide)) ?_
    k_updF
    refine ⟨_, rfl, fun ub sb db lb bb q H5 e5 hq => ?_⟩
    have Ba := bt18 ba
    have Bb := bt18 bb
    have tp := SqT.of (K := K) (e5 _ _ hp)
    have tq := SqT.of (K := K) hq
    k_updF
    refine WP.iC ⟨by decide, by decide⟩ ?_
    k_updF
    refine WP.iC (by decide) ?_
    k_updF
    have s0 := Int.emod_nonneg (rich / 11) (show (21 : Int) ≠ 0 by decide)
    have s1 := Int.emod_lt_of_pos (rich / 11) (show (0 : Int) < 21 by decide)
    obtain ⟨sc, hsc⟩ : ∃ sc : Nat, rich / 11 % 21 = (sc : Int) := ⟨(rich / 11 % 21).toNat, by omega⟩
    rw [hsc] at s0 s1 ⊢
    refine ⟨p, ua, sa, sc, r, rfl, tp, by omega, by omega, Ba.mono (by decide), fun u hu H6 e6 => ?_⟩
    have tp6 := WP.sqt e6 tp
    have tq6 := WP.sqt e6 tq
    k_updF
    refine WP.ixT tp6 WP.at0 ?_
    k_updF
    refine ⟨_, rfl, by omega, by omega, ?_⟩
    rw [Int.toNat_natCast]
    refine WP.iC (Ba.w (WP.Bt.ten _)) ?_
    k_updF
    refine WP.ixT tp6 WP.at1 ?_
    k_updF
    refine ⟨_, rfl, by omega, by omega, ?_⟩
    rw [Int.toNat_natCast]
    k_updF
    have Bq : WP.Bt u 200 ∧ MQ.Right u (ua * 10 ^ sc) (10 ^ sa) r := by
      by_cases c : sa ≤ sc
      · rw [if_pos c] at hu
        subst hu
        refine ⟨(Ba.mul (WP.Bt.ten _)).mono (by omega), ?_⟩
        have e : ua * 10 ^ sc = ua * 10 ^ (sc - sa) * 10 ^ sa := by rw [Int.mul_assoc, ← Int.pow_add]; congr 2; omega
        rw [e]
        exact MQ.right_exact (WP.ten_pos _)
      · rw [if_neg c] at hu
        subst hu
        refine ⟨(quot_bt Ba).mono (by omega), ?_⟩
        have e : (10 : Int) ^ sa = 10 ^ (sa - sc) * 10 ^ sc := by rw [← Int.pow_add]; congr 1; omega
        rw [e]
        exact MQ.right_scale (WP.ten_pos _) (MQ.right_quot (Int.ne_of_gt (WP.ten_pos _)))
    refine ⟨_, _, _, _, rfl, Bq.2, Bq.1.mono (by decide), (WP.Bt.ten _).mono (by omega), ?_⟩
    k_updF
    refine WP.brF rfl ?_
    k_updF
    refine ⟨p, q, ua, sa, ub, sb, sc, r, rfl, tp6, tq6, by omega, by omega, by omega, Ba.mono (by decide), Bb.mono (by decide), by omega, fun z t H7 e7 ht => ?_, fun z H7 e7 => ?_⟩
    · k_updF
      refine WP.ixT (WP.sqt e7 tq6) WP.at0 ?_
      k_updF
      refine WP.brT (decide_eq_true z) ?_
      k_updF
      refine ⟨WP.sz2, fun t2 ht2 => ?_⟩
      refine WP.neD (d := .tuple [.str "refused", .bool true]) (e := .tuple [.str "refused", .bool true]) (.tup (SqT.of (WP.same_new ht2 _ _ ht)) (.cons (.str _) (.cons (.bl _) .nil))) (.tup (SqT.of upd_same) (.cons (.str _) (.cons (.bl _) .nil))) ?_
      k_updF
      refine WP.brF (by rw [SeqAt.eqv_refl _ (by decide +kernel)]; rfl) ?_
      k_updF
      exact ⟨⟨_, _, _, _, _, _, _, _, _, rfl⟩, e1.trans (e3.trans (e4.trans (e5.trans (e6.trans (e7.trans (WP.same_new ht2))))))⟩
    · k_updF
      refine WP.ixT (WP.sqt e7 tq6) WP.at0 ?_
      k_updF
      refine WP.brF (decide_eq_false z) ?_
      k_updF
      refine WP.ixT (WP.sqt e7 tp6) WP.at0 ?_
      k_updF
      refine WP.ixT (WP.sqt e7 tq6) WP.at1 ?_
      k_updF
      refine ⟨_, rfl, by omega, by omega, ?_⟩
      rw [show ((sb : Int) + (sc : Int)).toNat = sb + sc by omega]
      refine WP.iC (Ba.w (WP.Bt.ten _)) ?_
      k_updF
      refine WP.ixT (WP.sqt e7 tq6) WP.at0 ?_
      k_updF
      refine WP.ixT (WP.sqt e7 tp6) WP.at1 ?_
      k_updF
      refine ⟨_, rfl, by omega, by omega, ?_⟩
      rw [Int.toNat_natCast]
      refine WP.iC (Bb.w (WP.Bt.ten _)) ?_
      k_updF
      refine ⟨_, _, _, _, rfl, MQ.right_quot (Int.mul_ne_zero z (Int.ne_of_gt (WP.ten_pos _))), (quot_bt (Ba.mul (WP.Bt.ten _))).mono (by omega), (Bb.mul (WP.Bt.ten _)).mono (by omega), ?_⟩
      k_updF
      refine WP.brF rfl ?_
      k_updF
      exact ⟨⟨_, _, _, _, _, _, _, _, _, rfl⟩, e1.trans (e3.trans (e4.trans (e5.trans (e6.trans e7))))⟩
end
theorem all_mk {l : PySem.W.OpenLaw} {w : World} {K : PySem.W.Frag} {h : Heap} {mg : Str → Option Value} {fa : Addr} (X : K.In h) (G : h.Ns mainGlobals mg) (hfa : mg "law" = some (.ref fa))
    {fx0 : Addr} {odx0 anx0 : Option Addr} {slx0 : Array (Option Value)} {ocx0 kVx0 dcx0 pmx0 cdx0 ctx0 : Value}
    (ax0 : PySem.W.nsIn K mainGlobals "_law_rich" = some (some (.ref fx0))) (lx0 : K.lookup fx0 = some ⟨ocx0, odx0, .func (PySem.W.fnOf "_law_rich" "_law_rich" (defArgs s__law_rich) (defBody s__law_rich) (defScope s__law_rich) .none kVx0 dcx0 pmx0 anx0 cdx0 ctx0), slx0⟩) (cx0 : PySem.W.codeIn K cdx0 "_law_rich" = true) (kx0 : PySem.W.keepIn K (.ref fx0) = true)
    {fx1 : Addr} {odx1 anx1 : Option Addr} {slx1 : Array (Option Value)} {ocx1 kVx1 dcx1 pmx1 cdx1 ctx1 : Value}
    (ax1 : PySem.W.nsIn K mainGlobals "_law_decimal" = some (some (.ref fx1))) (lx1 : K.lookup fx1 = some ⟨ocx1, odx1, .func (PySem.W.fnOf "_law_decimal" "_law_decimal" (defArgs s__law_decimal) (defBody s__law_decimal) (defScope s__law_decimal) .none kVx1 dcx1 pmx1 anx1 cdx1 ctx1), slx1⟩) (cx1 : PySem.W.codeIn K cdx1 "_law_decimal" = true) (kx1 : PySem.W.keepIn K (.ref fx1) = true)
    {fx2 : Addr} {odx2 anx2 : Option Addr} {slx2 : Array (Option Value)} {ocx2 kVx2 dcx2 pmx2 cdx2 ctx2 : Value}
    (ax2 : PySem.W.nsIn K mainGlobals "_law_number" = some (some (.ref fx2))) (lx2 : K.lookup fx2 = some ⟨ocx2, odx2, .func (PySem.W.fnOf "_law_number" "_law_number" (defArgs s__law_number) (defBody s__law_number) (defScope s__law_number) .none kVx2 dcx2 pmx2 anx2 cdx2 ctx2), slx2⟩) (cx2 : PySem.W.codeIn K cdx2 "_law_number" = true) (kx2 : PySem.W.keepIn K (.ref fx2) = true)
    {fx3 : Addr} {odx3 anx3 : Option Addr} {slx3 : Array (Option Value)} {ocx3 kVx3 dcx3 pmx3 cdx3 ctx3 : Value}
    (ax3 : PySem.W.nsIn K mainGlobals "quotient" = some (some (.ref fx3))) (lx3 : K.lookup fx3 = some ⟨ocx3, odx3, .func (PySem.W.fnOf "quotient" "quotient" (defArgs s_quotient) (defBody s_quotient) (defScope s_quotient) .none kVx3 dcx3 pmx3 anx3 cdx3 ctx3), slx3⟩) (cx3 : PySem.W.codeIn K cdx3 "quotient" = true) (kx3 : PySem.W.keepIn K (.ref fx3) = true)
    {fx4 : Addr} {odx4 anx4 : Option Addr} {slx4 : Array (Option Value)} {ocx4 kVx4 dcx4 pmx4 cdx4 ctx4 : Value}
    (ax4 : PySem.W.nsIn K mainGlobals "power" = some (some (.ref fx4))) (lx4 : K.lookup fx4 = some ⟨ocx4, odx4, .func (PySem.W.fnOf "power" "power" (defArgs s_power) (defBody s_power) (defScope s_power) .none kVx4 dcx4 pmx4 anx4 cdx4 ctx4), slx4⟩) (cx4 : PySem.W.codeIn K cdx4 "power" = true) (kx4 : PySem.W.keepIn K (.ref fx4) = true)
    {fx5 : Addr} {odx5 anx5 : Option Addr} {slx5 : Array (Option Value)} {ocx5 kVx5 dcx5 pmx5 cdx5 ctx5 : Value}
    (ax5 : PySem.W.nsIn K mainGlobals "divide" = some (some (.ref fx5))) (lx5 : K.lookup fx5 = some ⟨ocx5, odx5, .func (PySem.W.fnOf "divide" "divide" (defArgs s_divide) (defBody s_divide) (defScope s_divide) .none kVx5 dcx5 pmx5 anx5 cdx5 ctx5), slx5⟩) (cx5 : PySem.W.codeIn K cdx5 "divide" = true) (kx5 : PySem.W.keepIn K (.ref fx5) = true)
    {fx6 : Addr} {odx6 anx6 : Option Addr} {slx6 : Array (Option Value)} {ocx6 kVx6 dcx6 pmx6 cdx6 ctx6 : Value}
    (ax6 : PySem.W.nsIn K mainGlobals "_law_divide" = some (some (.ref fx6))) (lx6 : K.lookup fx6 = some ⟨ocx6, odx6, .func (PySem.W.fnOf "_law_divide" "_law_divide" (defArgs s__law_divide) (defBody s__law_divide) (defScope s__law_divide) .none kVx6 dcx6 pmx6 anx6 cdx6 ctx6), slx6⟩) (cx6 : PySem.W.codeIn K cdx6 "_law_divide" = true) (kx6 : PySem.W.keepIn K (.ref fx6) = true)
    {fx7 : Addr} {odx7 anx7 : Option Addr} {slx7 : Array (Option Value)} {ocx7 kVx7 dcx7 pmx7 cdx7 ctx7 : Value}
    (ax7 : PySem.W.nsIn K mainGlobals "_law_cell" = some (some (.ref fx7))) (lx7 : K.lookup fx7 = some ⟨ocx7, odx7, .func (PySem.W.fnOf "_law_cell" "_law_cell" (defArgs s__law_cell) (defBody s__law_cell) (defScope s__law_cell) .none kVx7 dcx7 pmx7 anx7 cdx7 ctx7), slx7⟩) (cx7 : PySem.W.codeIn K cdx7 "_law_cell" = true) (kx7 : PySem.W.keepIn K (.ref fx7) = true)
    {fx8 : Addr} {odx8 anx8 : Option Addr} {slx8 : Array (Option Value)} {ocx8 kVx8 dcx8 pmx8 cdx8 ctx8 : Value}
    (ax8 : PySem.W.nsIn K mainGlobals "_law_right" = some (some (.ref fx8))) (lx8 : K.lookup fx8 = some ⟨ocx8, odx8, .func (PySem.W.fnOf "_law_right" "_law_right" (defArgs s__law_right) (defBody s__law_right) (defScope s__law_right) .none kVx8 dcx8 pmx8 anx8 cdx8 ctx8), slx8⟩) (cx8 : PySem.W.codeIn K cdx8 "_law_right" = true) (kx8 : PySem.W.keepIn K (.ref fx8) = true)
    {fx9 : Addr} {odx9 anx9 : Option Addr} {slx9 : Array (Option Value)} {ocx9 kVx9 dcx9 pmx9 cdx9 ctx9 : Value}
    (ax9 : PySem.W.nsIn K mainGlobals "aligned" = some (some (.ref fx9))) (lx9 : K.lookup fx9 = some ⟨ocx9, odx9, .func (PySem.W.fnOf "aligned" "aligned" (defArgs s_aligned) (defBody s_aligned) (defScope s_aligned) .none kVx9 dcx9 pmx9 anx9 cdx9 ctx9), slx9⟩) (cx9 : PySem.W.codeIn K cdx9 "aligned" = true) (kx9 : PySem.W.keepIn K (.ref fx9) = true)
    {fx10 : Addr} {odx10 anx10 : Option Addr} {slx10 : Array (Option Value)} {ocx10 kVx10 dcx10 pmx10 cdx10 ctx10 : Value}
    (ax10 : PySem.W.nsIn K mainGlobals "units_at" = some (some (.ref fx10))) (lx10 : K.lookup fx10 = some ⟨ocx10, odx10, .func (PySem.W.fnOf "units_at" "units_at" (defArgs s_units_at) (defBody s_units_at) (defScope s_units_at) .none kVx10 dcx10 pmx10 anx10 cdx10 ctx10), slx10⟩) (cx10 : PySem.W.codeIn K cdx10 "units_at" = true) (kx10 : PySem.W.keepIn K (.ref fx10) = true)
    {fx11 : Addr} {odx11 anx11 : Option Addr} {slx11 : Array (Option Value)} {ocx11 kVx11 dcx11 pmx11 cdx11 ctx11 : Value}
    (ax11 : PySem.W.nsIn K mainGlobals "_law_ten" = some (some (.ref fx11))) (lx11 : K.lookup fx11 = some ⟨ocx11, odx11, .func (PySem.W.fnOf "_law_ten" "_law_ten" (defArgs s__law_ten) (defBody s__law_ten) (defScope s__law_ten) .none kVx11 dcx11 pmx11 anx11 cdx11 ctx11), slx11⟩) (cx11 : PySem.W.codeIn K cdx11 "_law_ten" = true) (kx11 : PySem.W.keepIn K (.ref fx11) = true)
    {fx12 : Addr} {odx12 anx12 : Option Addr} {slx12 : Array (Option Value)} {ocx12 kVx12 dcx12 pmx12 cdx12 ctx12 : Value}
    (ax12 : PySem.W.nsIn K mainGlobals "law" = some (some (.ref fx12))) (lx12 : K.lookup fx12 = some ⟨ocx12, odx12, .func (PySem.W.fnOf "law" "law" (defArgs s_law) (defBody s_law) (defScope s_law) .none kVx12 dcx12 pmx12 anx12 cdx12 ctx12), slx12⟩) (cx12 : PySem.W.codeIn K cdx12 "law" = true) (kx12 : PySem.W.keepIn K (.ref fx12) = true)
    (z_abs : PySem.W.nsIn K mainGlobals "abs" = some none)
    (z_bool : PySem.W.nsIn K mainGlobals "bool" = some none)
    (z_divmod : PySem.W.nsIn K mainGlobals "divmod" = some none)
    (z_int : PySem.W.nsIn K mainGlobals "int" = some none)
    (z_isinstance : PySem.W.nsIn K mainGlobals "isinstance" = some none)
    (z_len : PySem.W.nsIn K mainGlobals "len" = some none)
    (z_max : PySem.W.nsIn K mainGlobals "max" = some none)
    (z_min : PySem.W.nsIn K mainGlobals "min" = some none)
    (z_range : PySem.W.nsIn K mainGlobals "range" = some none)
    {aC_BadDecimal : Addr} (n_BadDecimal : PySem.W.nsIn K mainGlobals "BadDecimal" = some (some (.ref aC_BadDecimal))) (x_BadDecimal : PySem.W.excIn K aC_BadDecimal [.type "ValueError", .type "Exception", .type "BaseException", .type "object"] "ValueError.__new__" = true) (kc_BadDecimal : PySem.W.keepIn K (.ref aC_BadDecimal) = true) (tc_BadDecimal : PySem.W.typeIn K (.ref aC_BadDecimal) = some (.type "type"))
    (hg_BadDecimal : PySem.W.findIn K (.ref aC_BadDecimal) "__getattribute__" = some (some (.builtin "BaseException.__getattribute__"))) (hk_BadDecimal : PySem.W.findIn K (.ref aC_BadDecimal) "__getattr__" = some none) (hs_BadDecimal : PySem.W.subIn K (.ref aC_BadDecimal) (.type "BaseException") = some true) (hd_BadDecimal : PySem.W.hasDictIn K aC_BadDecimal = true) (ha_BadDecimal : PySem.W.findIn K (.ref aC_BadDecimal) "__class__" = some (some (.builtin "object.__class__"))) (hm_BadDecimal : PySem.W.mroIn K aC_BadDecimal (.type "object") = some true)
    {aC_CardError : Addr} (n_CardError : PySem.W.nsIn K mainGlobals "CardError" = some (some (.ref aC_CardError))) (x_CardError : PySem.W.excIn K aC_CardError [.type "ValueError", .type "Exception", .type "BaseException", .type "object"] "ValueError.__new__" = true) (kc_CardError : PySem.W.keepIn K (.ref aC_CardError) = true) (tc_CardError : PySem.W.typeIn K (.ref aC_CardError) = some (.type "type"))
    (hg_CardError : PySem.W.findIn K (.ref aC_CardError) "__getattribute__" = some (some (.builtin "BaseException.__getattribute__"))) (hk_CardError : PySem.W.findIn K (.ref aC_CardError) "__getattr__" = some none) (hs_CardError : PySem.W.subIn K (.ref aC_CardError) (.type "BaseException") = some true) (hd_CardError : PySem.W.hasDictIn K aC_CardError = true) (ha_CardError : PySem.W.findIn K (.ref aC_CardError) "__class__" = some (some (.builtin "object.__class__"))) (hm_CardError : PySem.W.mroIn K aC_CardError (.type "object") = some true)
    (hn_ : PySem.W.specialIn K (.builtin "object.__class__") "__get__" = some (some (.builtin "getset_descriptor.__get__"))) (ht_ : PySem.W.takesIn K (.builtin "object.__class__") = some true)
    (s_BadDecimal_CardError : PySem.W.subIn K (.ref aC_BadDecimal) (.ref aC_CardError) = some true)
    (i_BadDecimal_BadDecimal : PySem.W.kitOne K (.ref aC_BadDecimal) (.ref aC_BadDecimal) = some true)
    : ∃ fd : FuncData, (∀ (s : Shared) (v : Value), BindsTo s fd ⟨[v], []⟩ [("script", v)]) ∧ ∀ base : Heap, K.In base → base.Ns mainGlobals mg → FnOk l.prog w K mg base CX0 4 fa fd ["script"] (sp_law K) := by
  have e := hfa.symm.trans (PySem.W.mg_of X G ax12)
  cases e
  have B : Blt K mg := ⟨PySem.W.mg_none_of X G z_abs, PySem.W.mg_none_of X G z_bool, PySem.W.mg_none_of X G z_divmod, PySem.W.mg_none_of X G z_int, PySem.W.mg_none_of X G z_isinstance, PySem.W.mg_none_of X G z_len, PySem.W.mg_none_of X G z_max, PySem.W.mg_none_of X G z_min, PySem.W.mg_none_of X G z_range, WP.ExcOk.mk' (PySem.W.mg_of X G n_BadDecimal) ⟨x_BadDecimal, kc_BadDecimal, tc_BadDecimal, ⟨hg_BadDecimal, hk_BadDecimal, hs_BadDecimal, hd_BadDecimal, ha_BadDecimal, hn_, ht_, hm_BadDecimal⟩⟩, WP.ExcOk.mk' (PySem.W.mg_of X G n_CardError) ⟨x_CardError, kc_CardError, tc_CardError, ⟨hg_CardError, hk_CardError, hs_CardError, hd_CardError, ha_CardError, hn_, ht_, hm_CardError⟩⟩, by rw [WP.ca_of (PySem.W.mg_of X G n_BadDecimal), WP.ca_of (PySem.W.mg_of X G n_CardError)]; exact s_BadDecimal_CardError, by rw [WP.ca_of (PySem.W.mg_of X G n_BadDecimal)]; exact i_BadDecimal_BadDecimal⟩
  have Fx0 := fun_mk (st := s__law_rich) lx0 cx0 kx0
  have bx0 := Fx0.binds (ps := ["cell", "k"]) fun _ _ _ _ _ _ us hl => match us, hl with | [_, _], _ => rfl
  have Cx0 : ∀ base : Heap, K.In base → base.Ns mainGlobals mg → WP.Callee l.prog w K mg base CX0 1 "_law_rich" ["cell", "k"] (sp__law_rich K mg) := fun base p1 p2 => WP.Callee.mk' (ok__law_rich Fx0 B ) (PySem.W.mg_of X G ax0) kx0 bx0
  have Fx1 := fun_mk (st := s__law_decimal) lx1 cx1 kx1
  have bx1 := Fx1.binds (ps := ["units", "scale"]) fun _ _ _ _ _ _ us hl => match us, hl with | [_, _], _ => rfl
  have Cx1 : ∀ base : Heap, K.In base → base.Ns mainGlobals mg → WP.Callee l.prog w K mg base CX0 1 "_law_decimal" ["units", "scale"] (sp__law_decimal K mg) := fun base p1 p2 => WP.Callee.mk' (ok__law_decimal Fx1 B ) (PySem.W.mg_of X G ax1) kx1 bx1
  have Fx2 := fun_mk (st := s__law_number) lx2 cx2 kx2
  have bx2 := Fx2.binds (ps := ["rich"]) fun _ _ _ _ _ _ us hl => match us, hl with | [_], _ => rfl
  have Cx2 : ∀ base : Heap, K.In base → base.Ns mainGlobals mg → WP.Callee l.prog w K mg base CX0 2 "_law_number" ["rich"] (sp__law_number K mg) := fun base p1 p2 => WP.Callee.mk' (ok__law_number Fx2 B (Cx1 base p1 p2)) (PySem.W.mg_of X G ax2) kx2 bx2
  have Fx3 := fun_mk (st := s_quotient) lx3 cx3 kx3
  have bx3 := Fx3.binds (ps := ["above", "below", "is_rounded"]) fun _ _ _ _ _ _ us hl => match us, hl with | [_, _, _], _ => rfl
  have Cx3 : ∀ base : Heap, K.In base → base.Ns mainGlobals mg → WP.Callee l.prog w K mg base CX0 1 "quotient" ["above", "below", "is_rounded"] (sp_quotient K mg) := fun base p1 p2 => WP.Callee.mk' (ok_quotient Fx3 B ) (PySem.W.mg_of X G ax3) kx3 bx3
  have Fx4 := fun_mk (st := s_power) lx4 cx4 kx4
  have bx4 := Fx4.binds (ps := ["exponent"]) fun _ _ _ _ _ _ us hl => match us, hl with | [_], _ => rfl
  have Cx4 : ∀ base : Heap, K.In base → base.Ns mainGlobals mg → WP.Callee l.prog w K mg base CX0 1 "power" ["exponent"] (sp_power K mg) := fun base p1 p2 => WP.Callee.mk' (ok_power Fx4 B ) (PySem.W.mg_of X G ax4) kx4 bx4
  have Fx5 := fun_mk (st := s_divide) lx5 cx5 kx5
  have bx5 := Fx5.binds (ps := ["a", "b", "scale", "is_rounded"]) fun _ _ _ _ _ _ us hl => match us, hl with | [_, _, _, _], _ => rfl
  have Cx5 : ∀ base : Heap, K.In base → base.Ns mainGlobals mg → WP.Callee l.prog w K mg base (L2.CX l.prog w) 2 "divide" ["a", "b", "scale", "is_rounded"] (sp_divide K mg) := fun base p1 p2 => WP.Callee.mk' (ok_divide Fx5 B (Cx3 base p1 p2) (Cx4 base p1 p2)) (PySem.W.mg_of X G ax5) kx5 bx5
  have Fx6 := fun_mk (st := s__law_divide) lx6 cx6 kx6
  have bx6 := Fx6.binds (ps := ["a", "b", "scale", "is_rounded"]) fun _ _ _ _ _ _ us hl => match us, hl with | [_, _, _, _], _ => rfl
  have Cx6 : ∀ base : Heap, K.In base → base.Ns mainGlobals mg → WP.Callee l.prog w K mg base CX0 3 "_law_divide" ["a", "b", "scale", "is_rounded"] (sp__law_divide K mg) := fun base p1 p2 => WP.Callee.mk' (ok__law_divide Fx6 B (Cx5 base p1 p2)) (PySem.W.mg_of X G ax6) kx6 bx6
  have Fx7 := fun_mk (st := s__law_cell) lx7 cx7 kx7
  have bx7 := Fx7.binds (ps := ["script", "k"]) fun _ _ _ _ _ _ us hl => match us, hl with | [_, _], _ => rfl
  have Cx7 : ∀ base : Heap, K.In base → base.Ns mainGlobals mg → WP.Callee l.prog w K mg base CX0 1 "_law_cell" ["script", "k"] (sp__law_cell K mg) := fun base p1 p2 => WP.Callee.mk' (ok__law_cell Fx7 B ) (PySem.W.mg_of X G ax7) kx7 bx7
  have Fx8 := fun_mk (st := s__law_right) lx8 cx8 kx8
  have bx8 := Fx8.binds (ps := ["actual", "above", "below", "is_rounded"]) fun _ _ _ _ _ _ us hl => match us, hl with | [_, _, _, _], _ => rfl
  have Cx8 : ∀ base : Heap, K.In base → base.Ns mainGlobals mg → WP.Callee l.prog w K mg base CX0 1 "_law_right" ["actual", "above", "below", "is_rounded"] (sp__law_right K mg) := fun base p1 p2 => WP.Callee.mk' (ok__law_right Fx8 B ) (PySem.W.mg_of X G ax8) kx8 bx8
  have Fx9 := fun_mk (st := s_aligned) lx9 cx9 kx9
  have bx9 := Fx9.binds (ps := ["a", "scale"]) fun _ _ _ _ _ _ us hl => match us, hl with | [_, _], _ => rfl
  have Cx9 : ∀ base : Heap, K.In base → base.Ns mainGlobals mg → WP.Callee l.prog w K mg base CX0 2 "aligned" ["a", "scale"] (sp_aligned K mg) := fun base p1 p2 => WP.Callee.mk' (ok_aligned Fx9 B (Cx4 base p1 p2)) (PySem.W.mg_of X G ax9) kx9 bx9
  have Fx10 := fun_mk (st := s_units_at) lx10 cx10 kx10
  have bx10 := Fx10.binds (ps := ["a", "scale", "is_rounded"]) fun _ _ _ _ _ _ us hl => match us, hl with | [_, _, _], _ => rfl
  have Cx10 : ∀ base : Heap, K.In base → base.Ns mainGlobals mg → WP.Callee l.prog w K mg base CX0 3 "units_at" ["a", "scale", "is_rounded"] (sp_units_at K mg) := fun base p1 p2 => WP.Callee.mk' (ok_units_at Fx10 B (Cx3 base p1 p2) (Cx9 base p1 p2) (Cx4 base p1 p2)) (PySem.W.mg_of X G ax10) kx10 bx10
  have Fx11 := fun_mk (st := s__law_ten) lx11 cx11 kx11
  have bx11 := Fx11.binds (ps := ["scale"]) fun _ _ _ _ _ _ us hl => match us, hl with | [_], _ => rfl
  have Cx11 : ∀ base : Heap, K.In base → base.Ns mainGlobals mg → WP.Callee l.prog w K mg base CX0 1 "_law_ten" ["scale"] (sp__law_ten K mg) := fun base p1 p2 => WP.Callee.mk' (ok__law_ten Fx11 B ) (PySem.W.mg_of X G ax11) kx11 bx11
  have Fx12 := fun_mk (st := s_law) lx12 cx12 kx12
  exact ⟨PySem.W.fnOf "law" "law" (defArgs s_law) (defBody s_law) (defScope s_law) .none kVx12 dcx12 pmx12 anx12 cdx12 ctx12, fun s v => .of_eq rfl, fun base p1 p2 => ok_law Fx12 B (Cx0 base p1 p2) (Cx2 base p1 p2) (Cx6 base p1 p2) (Cx7 base p1 p2) (Cx8 base p1 p2) (Cx3 base p1 p2) (Cx10 base p1 p2) (Cx11 base p1 p2)⟩
theorem walk {l : PySem.W.OpenLaw} {q : Program} {loose : List Str} {XP : (Str → Option Value) → Heap → Prop} {YP : World → Heap → Prop} {d : DefRec} {K : Params → PySem.W.Frag} (hn : l.most = some 63) (hdf : d.params.defaults = [])
    (hY : ∀ (w : World) (h : Heap), YP w h → (K w.params).In h)
    (F : ∀ (w : World) (mg : Str → Option Value) (fa : Addr) (h : Heap), (K w.params).In h → h.Ns mainGlobals mg → mg d.name = some (.ref fa) →
      ∃ fd : FuncData, (∀ (s : Shared) (u : Value), BindsTo s fd ⟨[u], []⟩ [("script", u)]) ∧ ∀ base : Heap, (K w.params).In base → base.Ns mainGlobals mg → FnOk l.prog w (K w.params) mg base CX0 4 fa fd ["script"] (sp_law (K w.params))) :
    PySem.W.WalkO q loose XP YP l.row.toRowW d [] (fun f vs => PySem.call f vs) :=
  L2.walk_of (n := 63) (k := 4) (x := "script") (CX := fun _ => CX0) (sp := fun w => sp_law (K w.params)) hn (by decide) hdf ⟨rfl, by decide, by decide⟩ hY F (fun _ _ a ns hl _ hS => ⟨a, ns, rfl, hS, hl, fun _ => rfl⟩) fun _ _ _ _ _ z => z
end D
open PySem PySem.W PyProof.Rows
set_option maxRecDepth 100000 in
set_option maxHeartbeats 0 in
theorem PySem.Challenge.cw_cardwright_k03_cutting_and_rounding_holds : PySem.Challenge.rw_cardwright_k03_cutting_and_rounding.Holds := by
  w_on; o_law; k_head; (case hw => w_witness2)
  k_fill
  refine D.walk (l := PySem.Challenge.rw_cardwright_k03_cutting_and_rounding) rfl rfl (fun w h Y => PySem.W.kIn_of Y) ?F
  case F =>
    intro w mg fa h KX G hmg
    refine' D.all_mk KX G hmg ?ax0 ?lx0 ?cx0 ?kx0 ?ax1 ?lx1 ?cx1 ?kx1 ?ax2 ?lx2 ?cx2 ?kx2 ?ax3 ?lx3 ?cx3 ?kx3 ?ax4 ?lx4 ?cx4 ?kx4 ?ax5 ?lx5 ?cx5 ?kx5 ?ax6 ?lx6 ?cx6 ?kx6 ?ax7 ?lx7 ?cx7 ?kx7 ?ax8 ?lx8 ?cx8 ?kx8 ?ax9 ?lx9 ?cx9 ?kx9 ?ax10 ?lx10 ?cx10 ?kx10 ?ax11 ?lx11 ?cx11 ?kx11 ?ax12 ?lx12 ?cx12 ?kx12 ?z_abs ?z_bool ?z_divmod ?z_int ?z_isinstance ?z_len ?z_max ?z_min ?z_range ?n_BadDecimal ?x_BadDecimal ?kc_BadDecimal ?tc_BadDecimal ?hg_BadDecimal ?hk_BadDecimal ?hs_BadDecimal ?hd_BadDecimal ?ha_BadDecimal ?hm_BadDecimal ?n_CardError ?x_CardError ?kc_CardError ?tc_CardError ?hg_CardError ?hk_CardError ?hs_CardError ?hd_CardError ?ha_CardError ?hm_CardError ?hn_ ?ht_ ?s_BadDecimal_CardError ?i_BadDecimal_BadDecimal
    (case ax0 => k_is); (case lx0 => k_is); (case cx0 => k_is); (case kx0 => k_is); (case ax1 => k_is); (case lx1 => k_is)
    (case cx1 => k_is); (case kx1 => k_is); (case ax2 => k_is); (case lx2 => k_is); (case cx2 => k_is); (case kx2 => k_is)
    (case ax3 => k_is); (case lx3 => k_is); (case cx3 => k_is); (case kx3 => k_is); (case ax4 => k_is); (case lx4 => k_is)
    (case cx4 => k_is); (case kx4 => k_is); (case ax5 => k_is); (case lx5 => k_is); (case cx5 => k_is); (case kx5 => k_is)
    (case ax6 => k_is); (case lx6 => k_is); (case cx6 => k_is); (case kx6 => k_is); (case ax7 => k_is); (case lx7 => k_is)
    (case cx7 => k_is); (case kx7 => k_is); (case ax8 => k_is); (case lx8 => k_is); (case cx8 => k_is); (case kx8 => k_is)
    (case ax9 => k_is); (case lx9 => k_is); (case cx9 => k_is); (case kx9 => k_is); (case ax10 => k_is); (case lx10 => k_is)
    (case cx10 => k_is); (case kx10 => k_is); (case ax11 => k_is); (case lx11 => k_is); (case cx11 => k_is); (case kx11 => k_is)
    (case ax12 => k_is); (case lx12 => k_is); (case cx12 => k_is); (case kx12 => k_is); (case z_abs => k_is); (case z_bool => k_is)
    (case z_divmod => k_is); (case z_int => k_is); (case z_isinstance => k_is); (case z_len => k_is); (case z_max => k_is); (case z_min => k_is)
    (case z_range => k_is); (case n_BadDecimal => k_is); (case x_BadDecimal => k_exc); (case kc_BadDecimal => k_is); (case tc_BadDecimal => k_is); (case hg_BadDecimal => k_is)
    (case hk_BadDecimal => k_is); (case hs_BadDecimal => k_is); (case hd_BadDecimal => k_is); (case ha_BadDecimal => k_is); (case hm_BadDecimal => k_is); (case n_CardError => k_is)
    (case x_CardError => k_exc); (case kc_CardError => k_is); (case tc_CardError => k_is); (case hg_CardError => k_is); (case hk_CardError => k_is); (case hs_CardError => k_is)
    (case hd_CardError => k_is); (case ha_CardError => k_is); (case hm_CardError => k_is); (case hn_ => k_is); (case ht_ => k_is); (case s_BadDecimal_CardError => k_is)
    (case i_BadDecimal_BadDecimal => kit_is)
#print axioms PySem.Challenge.cw_cardwright_k03_cutting_and_rounding_holds
