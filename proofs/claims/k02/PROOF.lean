import PyProof.Rows.All
import Wide.All
import OpenK.AllK
import Wide.FinOn
import HandS.ForMost
import HandS.Wide
import HandS.IsInst
import HandS.Evl
import PySem.Challenge.RW_cardwright_k02_decimals_are_exact
set_option Elab.async false
set_option linter.all false
set_option maxRecDepth 100000
set_option maxHeartbeats 4000000
namespace WP
open PySem PySem.Spec PyProof.Rows L2

/-! ### a def that may be called -/
structure Callee (P : Program) (w : World) (K : PySem.W.Frag) (mg : Str → Option Value) (base : Heap) (CX : CXT) (lv : Nat) (nm : Str) (ps : List Str) (sp : Sp) : Prop where
  ex : ∃ (f : Addr) (fd : FuncData), FnOk P w K mg base CX lv f fd ps sp ∧ mg nm = some (.ref f) ∧ PySem.W.keepIn K (.ref f) = true ∧ Binds K fd ps []
theorem Callee.mk' {P : Program} {w : World} {K : PySem.W.Frag} {mg : Str → Option Value} {base : Heap} {CX : CXT} {lv : Nat} {nm : Str} {ps : List Str} {sp : Sp} {f : Addr} {fd : FuncData}
    (h : FnOk P w K mg base CX lv f fd ps sp) (m : mg nm = some (.ref f)) (k : PySem.W.keepIn K (.ref f) = true) (b : Binds K fd ps []) : Callee P w K mg base CX lv nm ps sp := ⟨⟨f, fd, h, m, k, b⟩⟩
section
variable {X : Cx} {CX : CXT} {k j : Nat} {ps : List Str} {sp : Sp} {E : XK} {x : Str} {p pos : Pos} {e : Expr} {es : List Expr} {t : TA}
theorem pe_callC (C : Callee X.prog X.w X.K X.mg X.base CX k x ps sp) (hr : Room j X.A) (hg : Gl X x) (hx : Passes CX X E) (ha : PA X (e :: es) t) (hl : k ≤ j := by decide)
    (hdb : (x == ("__debug__" : Str)) = false := by decide) (he : starEach (e :: es) X.env = (false, eval e X.env) :: starEach es X.env := by rfl) (hpl : (backTo pos (starEach es X.env)).any (·.1) = false := by rfl) :
    PE X (.Call (.Name x p) (e :: es) [] pos) (tCall sp [] E t) := by
  obtain ⟨f, fd, F, hm, hk, hb⟩ := C.ex
  exact pe_call F (hr.mono hl) hg hm hk hb .nil hx ha hdb he hpl
theorem pe_callC0 (C : Callee X.prog X.w X.K X.mg X.base CX k x ps sp) (hr : Room j X.A) (hg : Gl X x) (hx : Passes CX X E) (hl : k ≤ j := by decide)
    (hdb : (x == ("__debug__" : Str)) = false := by decide) : PE X (.Call (.Name x p) [] [] pos) (tCall sp [] E tNil) := by
  obtain ⟨f, fd, F, hm, hk, hb⟩ := C.ex
  exact pe_call0 F (hr.mono hl) hg hm hk hb .nil hx hdb
end

/-! ### readings, a step at a time -/
section
variable {σ : L2.St} {H : Hp} {D : Ends} {t u : TS} {te ta tb : TE} {tt tu : TT} {g : TG} {Q : VK} {QB : Bool → Hp → Prop} {QA : List V → Hp → Prop} {r : R2} {i j : Int} {n : Nat} {v x y : V}
theorem seq (h : t { D with nx := u D } σ H) : tSeq t u D σ H := h
theorem asg (h : te σ H fun x H1 => g x σ H1 D.nx) : tAsg te g D σ H := h
theorem name {QS : L2.St → Hp → Prop} (h : QS (σ.set n (some v)) H) : gName n v σ H QS := h
theorem var (e : σ[n]? = some (some v)) (h : Q v H) : tVar n σ H Q := ⟨v, e, h⟩
theorem con (h : Q v H) : tC v σ H Q := h
theorem op (h : ta σ H fun x H1 => tb σ H1 fun y H2 => r x y H2 Q) : tOp r ta tb σ H Q := h
theorem un {ru : V → Hp → VK → Prop} (h : ta σ H fun x H1 => ru x H1 Q) : tUn ru ta σ H Q := h
theorem rU_ {g : Int → V} (h : Q (g i) H) : rU g (.int i) H Q := ⟨i, rfl, h⟩
theorem i0 {g : Int → Int → V} (h : Q (g i j) H) : rI0 g (.int i) (.int j) H Q := ⟨i, j, rfl, rfl, h⟩
theorem iC {C : Int → Int → Prop} {g : Int → Int → V} (c : C i j) (h : Q (g i j) H) : rI C g (.int i) (.int j) H Q := ⟨i, j, rfl, rfl, c, h⟩
theorem eqS (s : scal x y = true) (h : Q (.bl (decide (x = y))) H) : rEq x y H Q := ⟨s, h⟩
theorem neS (s : scal x y = true) (h : Q (.bl (!decide (x = y))) H) : rNe x y H Q := ⟨s, h⟩
theorem ifS (h : tt σ H fun b H1 => if b = true then t D σ H1 else u D σ H1) : tIfS tt t u D σ H := h
theorem ifE (h : tt σ H fun b H1 => if b = true then ta σ H1 Q else tb σ H1 Q) : tIf tt ta tb σ H Q := h
theorem test (h : te σ H fun x H1 => ∃ k, x = .bl k ∧ QB k H1) : tTest te σ H QB := h
theorem bt (h : te σ H fun x H1 => ∃ k, x = .bl k ∧ QB k H1) : tB te σ H QB := h
theorem isb {b : Bool} (h : QB b H) : ∃ k, V.bl b = V.bl k ∧ QB k H := ⟨b, rfl, h⟩
theorem ret (h : te σ H D.rt) : tRet te D σ H := h
theorem retN (h : D.rt .non H) : tRetN D σ H := h
theorem drop (h : te σ H fun _ H1 => D.nx σ H1) : tDrop te D σ H := h
theorem next (h : D.nx σ H) : tNext D σ H := h
theorem brk (h : D.bk σ H) : tBreak D σ H := h
theorem cont (h : D.ct σ H) : tCont D σ H := h
theorem cb {rc : List V → Hp → VK → Prop} {a : TA} (h : a σ H fun vs H1 => rc vs H1 Q) : tCB rc a σ H Q := h
theorem call {sp : Sp} {E : XK} {a : TA} (h : a σ H fun vs H1 => sp (vs ++ []) H1 Q E) : tCall sp [] E a σ H Q := h
theorem cons {a : TA} (h : te σ H fun x H1 => a σ H1 fun xs H2 => QA (x :: xs) H2) : tCons te a σ H QA := h
theorem nil (h : QA [] H) : tNil σ H QA := h
theorem tup {a : TA} (h : a σ H fun xs H1 => xs.length ≤ sizeLine ∧ ∀ p, H1 p = none → Q (.ref p) (upd H1 p (.tup xs))) : tTup a σ H Q := h
theorem lst {a : TA} (h : a σ H fun xs H1 => xs.length ≤ sizeLine ∧ ∀ p, H1 p = none → Q (.ref p) (upd H1 p (.lst xs))) : tLst a σ H Q := h
theorem notT (h : tt σ H fun c H1 => QB (!c) H1) : tNot tt σ H QB := h
theorem andT (h : tt σ H fun c H1 => if c = true then tu σ H1 QB else QB false H1) : tAnd tt tu σ H QB := h
theorem orT (h : tt σ H fun c H1 => if c = true then QB true H1 else tu σ H1 QB) : tOr tt tu σ H QB := h
theorem andV (h : ta σ H fun x H1 => ∃ c, x = .bl c ∧ if c = true then tb σ H1 Q else Q (.bl false) H1) : tAndV ta tb σ H Q := h
theorem orV (h : ta σ H fun x H1 => ∃ c, x = .bl c ∧ if c = true then Q (.bl true) H1 else tb σ H1 Q) : tOrV ta tb σ H Q := h
theorem notV (h : ta σ H fun x H1 => ∃ c, x = .bl c ∧ Q (.bl (!c)) H1) : tNotV ta σ H Q := h
theorem isbV {b : Bool} {R : Bool → Prop} (h : R b) : ∃ k, V.bl b = V.bl k ∧ R k := ⟨b, rfl, h⟩
theorem sl {r : V → Option Int → Option Int → Hp → VK → Prop} {tl th : TO} (h : te σ H fun x H1 => tl σ H1 fun l H2 => th σ H2 fun u H3 => r x l u H3 Q) : tSl r te tl th σ H Q := h
theorem noPart {QO : Option Int → Hp → Prop} (h : QO none H) : tNoPart σ H QO := h
theorem part {QO : Option Int → Hp → Prop} (h : te σ H fun x H1 => ∃ i, x = .int i ∧ QO (some i) H1) : tPart te σ H QO := h
theorem isi {R : Int → Prop} (h : R i) : ∃ k, V.int i = V.int k ∧ R k := ⟨i, rfl, h⟩
/-- tests -/
theorem br {c A B : Prop} [Decidable c] (h1 : c → A) (h2 : ¬ c → B) : if decide c = true then A else B := by
  by_cases h : c
  · rw [decide_eq_true h, if_pos rfl]; exact h1 h
  · rw [decide_eq_false h, if_neg Bool.false_ne_true]; exact h2 h
theorem brN {c A B : Prop} [Decidable c] (h1 : ¬ c → A) (h2 : c → B) : if (!decide c) = true then A else B := by
  by_cases h : c
  · rw [decide_eq_true h]; exact iteF (h2 h)
  · rw [decide_eq_false h]; exact iteT (h1 h)
theorem brT {b : Bool} {A B : Prop} (e : b = true) (h : A) : if b = true then A else B := by rw [if_pos e]; exact h
theorem brF {b : Bool} {A B : Prop} (e : b = false) (h : B) : if b = true then A else B := by rw [if_neg (by rw [e]; exact Bool.false_ne_true)]; exact h
theorem brB {b : Bool} {A B : Prop} (h1 : b = true → A) (h2 : b = false → B) : if b = true then A else B := by
  cases b
  · exact iteF (h2 rfl)
  · exact iteT (h1 rfl)
theorem dec_int {i j : Int} : decide (V.int i = V.int j) = decide (i = j) := by
  by_cases h : i = j
  · rw [decide_eq_true h, decide_eq_true (congrArg V.int h)]
  · rw [decide_eq_false h, decide_eq_false fun e => h (V.int.inj e)]
theorem dec_str {i j : Str} : decide (V.str i = V.str j) = decide (i = j) := by
  by_cases h : i = j
  · rw [decide_eq_true h, decide_eq_true (congrArg V.str h)]
  · rw [decide_eq_false h, decide_eq_false fun e => h (V.str.inj e)]
theorem dec_bl {i j : Bool} : decide (V.bl i = V.bl j) = decide (i = j) := by
  by_cases h : i = j
  · rw [decide_eq_true h, decide_eq_true (congrArg V.bl h)]
  · rw [decide_eq_false h, decide_eq_false fun e => h (V.bl.inj e)]
theorem eqI (h : Q (.bl (decide (i = j))) H) : rEq (.int i) (.int j) H Q := ⟨rfl, by rw [dec_int]; exact h⟩
theorem neI (h : Q (.bl (!decide (i = j))) H) : rNe (.int i) (.int j) H Q := ⟨rfl, by rw [dec_int]; exact h⟩
theorem eqT {a b : Str} (h : Q (.bl (decide (a = b))) H) : rEq (.str a) (.str b) H Q := ⟨rfl, by rw [dec_str]; exact h⟩
theorem neT {a b : Str} (h : Q (.bl (!decide (a = b))) H) : rNe (.str a) (.str b) H Q := ⟨rfl, by rw [dec_str]; exact h⟩
theorem eqB {a b : Bool} (h : Q (.bl (decide (a = b))) H) : rEq (.bl a) (.bl b) H Q := ⟨rfl, by rw [dec_bl]; exact h⟩
theorem neB {a b : Bool} (h : Q (.bl (!decide (a = b))) H) : rNe (.bl a) (.bl b) H Q := ⟨rfl, by rw [dec_bl]; exact h⟩
end
/-! ### numbers of a known number of bits -/
theorem sz2 : (2 : Nat) ≤ sizeLine := by rw [sizeLine_eq]; decide
theorem sz {n : Nat} (h : n ≤ 1000000) : n ≤ sizeLine := by rw [sizeLine_eq]; omega
end WP
namespace WP
open PySem PySem.Spec PyProof.Rows L2
section
variable {X : Cx} {x : Str} {v : V} {pos : Pos}
theorem pe_const (hg : Gl X x) (h : ∃ u, X.mg x = some u ∧ RelV v u) (hd : (x == ("__debug__" : Str)) = false := by decide) : PE X (.Name x pos) (tC v) := by
  obtain ⟨u, hm, r⟩ := h
  exact pe_glob hg hm r hd
end
/-- a number of at most a bits -/
def Bt (i : Int) (a : Nat) : Prop := i.natAbs < 2 ^ a
theorem Bt.mono {i : Int} {a b : Nat} (h : Bt i a) (l : a ≤ b) : Bt i b := Nat.lt_of_lt_of_le h (Nat.pow_le_pow_right (by decide) l)
theorem Bt.mul {i j : Int} {a b : Nat} (h : Bt i a) (k : Bt j b) : Bt (i * j) (a + b) := wide_lt h k
theorem Bt.neg {i : Int} {a : Nat} (h : Bt i a) : Bt (-i) a := by unfold Bt at *; rw [Int.natAbs_neg]; exact h
theorem Bt.add {i j : Int} {a : Nat} (h : Bt i a) (k : Bt j a) : Bt (i + j) (a + 1) := by
  unfold Bt at *
  have := Int.natAbs_add_le i j
  rw [Nat.pow_succ]; omega
theorem Bt.sub {i j : Int} {a : Nat} (h : Bt i a) (k : Bt j a) : Bt (i - j) (a + 1) := by
  rw [Int.sub_eq_add_neg]; exact h.add k.neg
theorem Bt.le {i j : Int} {a : Nat} (h : Bt i a) (k : j.natAbs ≤ i.natAbs) : Bt j a := Nat.lt_of_le_of_lt k h
theorem Bt.ten (n : Nat) : Bt (10 ^ n) (4 * n + 1) := by
  unfold Bt
  have e : ((10 : Int) ^ n).natAbs = 10 ^ n := by rw [Int.natAbs_pow]; rfl
  rw [e]
  have h : 10 ^ n ≤ 16 ^ n := Nat.pow_le_pow_left (by decide) n
  have h2 : (16 : Nat) ^ n = 2 ^ (4 * n) := by rw [show (16 : Nat) = 2 ^ 4 from rfl, ← Nat.pow_mul]
  rw [h2] at h
  rw [Nat.pow_succ]
  have : 0 < 2 ^ (4 * n) := Nat.pow_pos (by decide)
  omega
theorem Bt.w {i j : Int} {a b : Nat} (h : Bt i a) (k : Bt j b) (l : a + b ≤ 999998 := by omega) : CMulW i j :=
  wide_mul (h.mono (Nat.le_succ a)) (k.mono (Nat.le_succ b)) (Nat.succ_pos _) (Nat.succ_pos _) (by omega)
theorem Bt.d {j : Int} {b : Nat} (h : 0 < j) (k : Bt j b) (l : b ≤ 8999 := by omega) : CDivW 0 j := wide_div h (k.mono (Nat.le_succ b)) (Nat.succ_pos _) (by omega)
theorem Bt.d' {i j : Int} {b : Nat} (h : 0 < j) (k : Bt j b) (l : b ≤ 8999 := by omega) : CDivW i j := Bt.d h k l
theorem ten_pos (n : Nat) : (0 : Int) < 10 ^ n := Int.pow_pos (by decide)
end WP
namespace WP
open PySem PySem.Spec PyProof.Rows L2
/-! ### what comes back -/
def RetT (xs : List V) (H : Hp) (Q : VK) : Prop := ∀ p H', Same H H' → H' p = some (.tup xs) → Q (.ref p) H'
def RetL (xs : List V) (H : Hp) (Q : VK) : Prop := ∀ p H', H p = none → Same H H' → H' p = some (.lst xs) → Q (.ref p) H'
def RetV (v : V) (H : Hp) (Q : VK) : Prop := ∀ H', Same H H' → Q v H'
theorem same_new {H : Hp} {p : Addr} {o : HO} (h : H p = none) : Same H (upd H p o) := fun b u e => by
  rw [upd_ne (ne_of_none e h)]; exact e
theorem same_mut {H H' : Hp} {p : Addr} {o : HO} (e : Same H H') (h : H p = none) : Same H (upd H' p o) := fun a u ha => by
  rw [upd_ne (ne_of_none ha h)]; exact e a u ha
theorem sqt {K : PySem.W.Frag} {H H' : Hp} {a : Addr} {xs : List V} (e : Same H H') (h : SqT K H a xs) : SqT K H' a xs := by
  rcases h with (h | ⟨o, h⟩) | h
  · exact .inl (.inl (e _ _ h))
  · exact .inl (.inr ⟨o, e _ _ h⟩)
  · exact .inr h
theorem RetT.new {xs : List V} {H H' : Hp} {Q : VK} (k : RetT xs H Q) (e : Same H H') : ∀ p, H' p = none → Q (.ref p) (upd H' p (.tup xs)) := fun p hp =>
  k p _ (e.trans (same_new hp)) upd_same
theorem RetL.new {xs : List V} {H H' : Hp} {Q : VK} (k : RetL xs H Q) (e : Same H H') : ∀ p, H' p = none → Q (.ref p) (upd H' p (.lst xs)) := fun p hp =>
  k p _ (e.free hp) (e.trans (same_new hp)) upd_same
/-- a decimal's two parts -/
abbrev dv (u : Int) (s : Nat) : List V := [.int u, .int (s : Int)]
theorem at0 {α : Type} {x : α} {xs : List α} : atI (x :: xs) (0 : Int) = some x := atI_nat (j := 0) rfl
theorem at1 {α : Type} {x y : α} {xs : List α} : atI (x :: y :: xs) (1 : Int) = some y := atI_nat (j := 1) rfl
theorem at2 {α : Type} {x y z : α} {xs : List α} : atI (x :: y :: z :: xs) (2 : Int) = some z := atI_nat (j := 2) rfl
theorem at3 {α : Type} {x y z u : α} {xs : List α} : atI (x :: y :: z :: u :: xs) (3 : Int) = some u := atI_nat (j := 3) rfl
theorem at4 {α : Type} {x y z u v : α} {xs : List α} : atI (x :: y :: z :: u :: v :: xs) (4 : Int) = some v := atI_nat (j := 4) rfl
section
variable {K : PySem.W.Frag} {H : Hp} {p : Addr} {xs : List V} {v : V} {i : Int} {Q : VK}
theorem ixT (h : SqT K H p xs) (a : atI xs i = some v) (q : Q v H) : rIxT K (.ref p) (.int i) H Q := ⟨p, xs, i, v, rfl, rfl, h, a, q⟩
theorem ixL (h : SqL K H p xs) (a : atI xs i = some v) (q : Q v H) : rIxL K (.ref p) (.int i) H Q := ⟨p, xs, i, v, rfl, rfl, h, a, q⟩
theorem unT {n : Nat} {t : TGs} {σ : L2.St} {QS : L2.St → Hp → Prop} (h : SqT K H p xs) (l : xs.length = n) (q : t xs σ H QS) : gTup K n t (.ref p) σ H QS := ⟨p, xs, rfl, h, l, q⟩
theorem gsCons {g : TG} {gs : TGs} {x : V} {r : List V} {σ : L2.St} {QS : L2.St → Hp → Prop} (q : g x σ H fun σ' H' => gs r σ' H' QS) : gCons g gs (x :: r) σ H QS := ⟨x, r, rfl, q⟩
theorem gsNil {σ : L2.St} {QS : L2.St → Hp → Prop} (q : QS σ H) : gNil [] σ H QS := ⟨rfl, q⟩
end
end WP
namespace WP
open PySem PySem.Spec PyProof.Rows L2
section
variable {K : PySem.W.Frag} {H : Hp} {p : Addr} {xs : List V} {v x : V} {i : Int} {Q : VK} {σ : L2.St} {D : Ends}
theorem forl {wi : TI} {g : TG} {tb : TS} (h : wi σ H fun J H1 => ∃ W : Nat → Nat → L2.St → Hp → Prop, (∃ m, W 0 m σ H1) ∧ ∀ i m σ H, W i m σ H →
  (J.stop i H ∧ D.nx σ H) ∨ (J.go i H ∧ ∃ N : L2.St → Hp → Prop, (∀ σ' H', N σ' H' → ∃ m', m' < m ∧ W (i + 1) m' σ' H') ∧ ∀ x H', J.yld i H x H' → g x σ H' fun σ2 H2 => tb { D with nx := N, ct := N, bk := D.nx } σ2 H2)) : tFor wi g tb D σ H := h
theorem rng1 {ta : TA} {R : It → Hp → Prop} (h : ta σ H fun vs H1 => ∃ j : Int, vs = [.int j] ∧ -(2 ^ 62) ≤ j ∧ j < 2 ^ 62 ∧ R (Itr 0 j.toNat) H1) : iRng1 ta σ H R := h
theorem rng2 {ta : TA} {R : It → Hp → Prop} (h : ta σ H fun vs H1 => ∃ i j : Int, vs = [.int i, .int j] ∧ (-(2 ^ 62) ≤ i ∧ i < 2 ^ 62 ∧ -(2 ^ 62) ≤ j ∧ j < 2 ^ 62) ∧ R (Itr i (j - i).toNat) H1) : iRng2 ta σ H R := h
theorem walkL {tl : TE} {R : It → Hp → Prop} (h : tl σ H fun x H1 => ∃ a, x = .ref a ∧ (∃ xs, SqL K H1 a xs) ∧ R (Itl K a) H1) : iList K tl σ H R := h
theorem walkT {tl : TE} {R : It → Hp → Prop} (h : tl σ H fun x H1 => ∃ a, x = .ref a ∧ (∃ xs, SqT K H1 a xs) ∧ R (Itt K a) H1) : iTup K tl σ H R := h
theorem isT {t n : String} {b : Bool} (ty : TyX K H x (.type t)) (q : Q (.bl b) H) (hb : kitB t n = some b := by decide +kernel) : rIsi K [x, .ty n] H Q :=
  ⟨x, .ty n, _, _, b, rfl, ClsV.ty n, ty, kit_ty hb, q⟩
theorem isY {t n : String} (ty : TyX K H x (.type t)) (q : Q (.bl true) H) (hb : kitB t n = some true := by decide +kernel) : rIsi K [x, .ty n] H Q := isT ty q hb
theorem isN {t n : String} (ty : TyX K H x (.type t)) (q : Q (.bl false) H) (hb : kitB t n = some false := by decide +kernel) : rIsi K [x, .ty n] H Q := isT ty q hb
def rLen (K : PySem.W.Frag) : List V → Hp → VK → Prop := fun xs H Q => ∃ x n, xs = [x] ∧ LenV K x H n ∧ Q (.int (n : Nat)) H
theorem c_len {X : Cx} : CallR X (.builtin "len") (rLen X.K) := call_len
theorem lenL (h : SqL K H p xs) (q : Q (.int (xs.length : Int)) H) : rLen K [V.ref p] H Q := ⟨_, _, rfl, .inl ⟨xs, h, rfl⟩, q⟩
theorem lenT (h : SqT K H p xs) (q : Q (.int (xs.length : Int)) H) : rLen K [V.ref p] H Q := ⟨_, _, rfl, .inr ⟨xs, h, rfl⟩, q⟩
theorem lenS {z : Str} (h : z.length ≤ sizeLine) (q : Q (.int (z.length : Int)) H) : rLen K [V.str z] H Q := ⟨_, _, rfl, ⟨h, rfl⟩, q⟩
def rInt1 : List V → Hp → VK → Prop := fun xs H Q => (∃ i, xs = [.int i] ∧ Q (.int i) H) ∨ ∃ k, xs = [.bl k] ∧ Q (.int (if k then 1 else 0)) H
theorem c_int1 {X : Cx} : CallR X (.type "int") rInt1 := call_int1
theorem intI (q : Q (.int i) H) : rInt1 [V.int i] H Q := .inl ⟨i, rfl, q⟩
theorem intB {b : Bool} (q : Q (.int (if b then 1 else 0)) H) : rInt1 [V.bl b] H Q := .inr ⟨b, rfl, q⟩
def rAbs : List V → Hp → VK → Prop := fun xs H Q => ∃ i, xs = [.int i] ∧ Q (.int (if i < 0 then -i else i)) H
theorem c_abs {X : Cx} : CallR X (.builtin "abs") rAbs := call_abs
theorem absI (q : Q (.int (i.natAbs : Int)) H) : rAbs [V.int i] H Q := ⟨i, rfl, by
  have e : (if i < 0 then -i else i) = (i.natAbs : Int) := by split <;> omega
  rw [e]; exact q⟩
def rMax2 : List V → Hp → VK → Prop := fun xs H Q => ∃ i j, xs = [.int i, .int j] ∧ Q (.int (if j > i then j else i)) H
def rMin2 : List V → Hp → VK → Prop := fun xs H Q => ∃ i j, xs = [.int i, .int j] ∧ Q (.int (if j < i then j else i)) H
theorem c_max2 {X : Cx} (hc : X.calm = true) : CallR X (.builtin "max") rMax2 := call_max2 hc
theorem c_min2 {X : Cx} (hc : X.calm = true) : CallR X (.builtin "min") rMin2 := call_min2 hc
theorem maxI {j : Int} (q : Q (.int (max i j)) H) : rMax2 [V.int i, V.int j] H Q := ⟨i, j, rfl, by
  have e : (if j > i then j else i) = max i j := by split <;> omega
  rw [e]; exact q⟩
theorem minI {j : Int} (q : Q (.int (min i j)) H) : rMin2 [V.int i, V.int j] H Q := ⟨i, j, rfl, by
  have e : (if j < i then j else i) = min i j := by split <;> omega
  rw [e]; exact q⟩
def rStrI : List V → Hp → VK → Prop := fun xs H Q => ∃ i : Int, xs = [.int i] ∧ i.natAbs.log2 < 1920 ∧ Q (.str (toString i)) H
theorem c_str {X : Cx} : CallR X (.type "str") rStrI := call_str_int
theorem strI (h : i.natAbs.log2 < 1920) (q : Q (.str (toString i)) H) : rStrI [V.int i] H Q := ⟨i, rfl, h, q⟩
def rListOf (K : PySem.W.Frag) : List V → Hp → VK → Prop := fun xs H Q => ∃ p ys, xs = [.ref p] ∧ (SqL K H p ys ∨ SqT K H p ys) ∧ ∀ l, H l = none → Q (.ref l) (upd H l (.lst ys))
theorem c_listOf {X : Cx} : CallR X (.type "list") (rListOf X.K) := call_list_of
theorem listL (h : SqL K H p xs) (q : ∀ l, H l = none → Q (.ref l) (upd H l (.lst xs))) : rListOf K [V.ref p] H Q := ⟨p, xs, rfl, .inl h, q⟩
theorem listT (h : SqT K H p xs) (q : ∀ l, H l = none → Q (.ref l) (upd H l (.lst xs))) : rListOf K [V.ref p] H Q := ⟨p, xs, rfl, .inr h, q⟩
def rTupOf (K : PySem.W.Frag) : List V → Hp → VK → Prop := fun xs H Q => ∃ p ys, xs = [.ref p] ∧ ((SqL K H p ys ∧ ∀ l, H l = none → Q (.ref l) (upd H l (.tup ys))) ∨ (SqT K H p ys ∧ Q (.ref p) H))
theorem c_tupOf {X : Cx} : CallR X (.type "tuple") (rTupOf X.K) := call_tuple_of
theorem tupL (h : SqL K H p xs) (q : ∀ l, H l = none → Q (.ref l) (upd H l (.tup xs))) : rTupOf K [V.ref p] H Q := ⟨p, xs, rfl, .inl ⟨h, q⟩⟩
def rOrd : List V → Hp → VK → Prop := fun xs H Q => ∃ x : Str, xs = [.str x] ∧ x.length = 1 ∧ Q (.int (x.cps.getD 0 0 : Nat)) H
theorem c_ord {X : Cx} : CallR X (.builtin "ord") rOrd := call_ord
theorem ordS {z : Str} (h : z.length = 1) (q : Q (.int (z.cps.getD 0 0 : Nat)) H) : rOrd [V.str z] H Q := ⟨z, rfl, h, q⟩
def rDivmod : List V → Hp → VK → Prop := fun xs H Q => ∃ i j, xs = [.int i, .int j] ∧ CDiv i j ∧ ∀ p, H p = none → Q (.ref p) (upd H p (.tup [.int (i / j), .int (i % j)]))
theorem c_divmod {X : Cx} : CallR X (.builtin "divmod") rDivmod := call_divmod
theorem sql {H' : Hp} {a : Addr} (e : Same H H') (h : SqL K H a xs) : SqL K H' a xs := e.seq h
theorem at_ints {ns : List Int} (h0 : 0 ≤ i) (h1 : i < (ns.length : Int)) : atI (ns.map V.int) i = some (.int (ns.getD i.toNat 0)) := by
  have e : i = ((i.toNat : Nat) : Int) := (Int.toNat_of_nonneg h0).symm
  rw [e]
  refine atI_nat ?_
  have hl : i.toNat < ns.length := by omega
  rw [List.getElem?_map, List.getElem?_eq_getElem hl, Int.toNat_natCast, List.getD_eq_getElem?_getD, List.getElem?_eq_getElem hl]
  rfl
end
end WP
namespace WP
open PySem PySem.Spec PyProof.Rows L2
section
variable {X : Cx}
theorem cut {t u : TS} {D : Ends} {σ : L2.St} {H : Hp} (Mid : L2.St → Hp → Prop) (h : t { D with nx := Mid } σ H) (k : ∀ σ' H', Mid σ' H' → u D σ' H') : Evl.tCut t u D σ H := ⟨Mid, h, k⟩
end
/-! ### == of data -/
section
variable {K : PySem.W.Frag} {H : Hp} {x y : V} {d e : PyData} {Q : VK}
theorem eqD (a : Dp K H x d) (b : Dp K H y e) (h : Q (.bl (PyData.eqv d e)) H) (s1 : SeqAt.shaped d = true := by rfl) (s2 : SeqAt.shaped e = true := by rfl) : rEqD K x y H Q := ⟨d, e, a, b, s1, s2, h⟩
theorem neD (a : Dp K H x d) (b : Dp K H y e) (h : Q (.bl (!PyData.eqv d e)) H) (s1 : SeqAt.shaped d = true := by rfl) (s2 : SeqAt.shaped e = true := by rfl) : rNeD K x y H Q := ⟨d, e, a, b, s1, s2, h⟩
theorem dpv {p : Addr} {u : Int} {s : Nat} (h : SqT K H p (dv u s)) : Dp K H (.ref p) (.tuple [.int u, .int (s : Int)]) := .tup h (.cons (.int _) (.cons (.int _) .nil))
end
end WP

namespace MD
open WP
/-- the least scale: zeros at the end are dropped -/
def nrm : Int → Nat → Int × Nat
  | u, 0 => (u, 0)
  | u, s + 1 => if u % 10 = 0 then nrm (u / 10) s else (u, s + 1)
theorem nrm_le : ∀ (s : Nat) (u : Int), (nrm u s).2 ≤ s
  | 0, u => Nat.le_refl _
  | s + 1, u => by
    unfold nrm
    split
    · exact Nat.le_succ_of_le (nrm_le s _)
    · exact Nat.le_refl _
theorem nrm_val : ∀ (s : Nat) (u : Int), (nrm u s).1 * 10 ^ (s - (nrm u s).2) = u
  | 0, u => by unfold nrm; simp
  | s + 1, u => by
    unfold nrm
    split
    · rename_i h
      have ih := nrm_val s (u / 10)
      have l := nrm_le s (u / 10)
      have e : s + 1 - (nrm (u / 10) s).2 = (s - (nrm (u / 10) s).2) + 1 := by omega
      rw [e, Int.pow_succ, ← Int.mul_assoc, ih]
      omega
    · simp
/-- a decimal: the scale is the least one -/
def Dec (u : Int) (s : Nat) : Prop := s = 0 ∨ u % 10 ≠ 0
theorem nrm_dec : ∀ (s : Nat) (u : Int), Dec (nrm u s).1 (nrm u s).2
  | 0, u => .inl rfl
  | s + 1, u => by
    unfold nrm
    split
    · exact nrm_dec s _
    · rename_i h; exact .inr h
theorem nrm_self {u : Int} {s : Nat} (h : Dec u s) : nrm u s = (u, s) := by
  cases s with
  | zero => rfl
  | succ s =>
    unfold nrm
    rcases h with h | h
    · cases h
    · rw [if_neg h]
theorem nrm_up : ∀ (m s : Nat) (u : Int), nrm (u * 10 ^ m) (s + m) = nrm u s
  | 0, s, u => by simp
  | m + 1, s, u => by
    have e : u * 10 ^ (m + 1) = u * 10 ^ m * 10 := by rw [Int.pow_succ, Int.mul_assoc]
    rw [← Nat.add_assoc, e]
    show (if (u * 10 ^ m * 10) % 10 = 0 then nrm (u * 10 ^ m * 10 / 10) (s + m) else _) = _
    rw [if_pos (Int.mul_emod_left _ _), Int.mul_ediv_cancel _ (by decide)]
    exact nrm_up m s u
theorem nrm_abs : ∀ (s : Nat) (u : Int), (nrm u s).1.natAbs ≤ u.natAbs
  | 0, u => Nat.le_refl _
  | s + 1, u => by
    unfold nrm
    split
    · have := nrm_abs s (u / 10)
      omega
    · exact Nat.le_refl _
theorem nrm_bt {u : Int} {s a : Nat} (h : Bt u a) : Bt (nrm u s).1 a := h.le (nrm_abs s u)
end MD
namespace MD
theorem nrm_eq (u : Int) (s : Nat) : (nrm u s).1 * 10 ^ s = u * 10 ^ (nrm u s).2 := by
  have h := nrm_val s u
  have l := nrm_le s u
  have e : (10 : Int) ^ s = 10 ^ (s - (nrm u s).2) * 10 ^ (nrm u s).2 := by rw [← Int.pow_add]; congr 1; omega
  rw [e, ← Int.mul_assoc, h]
end MD

namespace D
open PySem PySem.Spec PyProof.Rows L2
local macro_rules | `(tactic| k_memK) => `(tactic| first
  | (with_reducible refine WP.seq ?_) | (with_reducible refine WP.asg ?_) | (with_reducible refine WP.name ?_)
  | ((with_reducible show tVar _ _ _ _); refine WP.var rfl ?_) | (with_reducible refine WP.con ?_) | (with_reducible refine WP.op ?_) | (with_reducible refine WP.i0 ?_)
  | (with_reducible refine WP.un ?_) | (with_reducible refine WP.rU_ ?_)
  | (with_reducible refine WP.ifS ?_) | (with_reducible refine WP.ifE ?_) | (with_reducible refine WP.test ?_) | (with_reducible refine WP.bt ?_) | (with_reducible refine WP.isbV ?_)
  | (with_reducible refine WP.ret ?_) | (with_reducible refine WP.retN ?_) | (with_reducible refine WP.drop ?_) | (with_reducible refine WP.next ?_) | (with_reducible refine WP.brk ?_) | (with_reducible refine WP.cont ?_)
  | (with_reducible refine WP.cb ?_) | (with_reducible refine WP.call ?_) | (with_reducible refine WP.cons ?_) | (with_reducible refine WP.nil ?_) | (with_reducible refine WP.tup ?_) | (with_reducible refine WP.lst ?_)
  | (with_reducible refine WP.eqI ?_) | (with_reducible refine WP.neI ?_) | (with_reducible refine WP.eqT ?_) | (with_reducible refine WP.neT ?_) | (with_reducible refine WP.eqB ?_) | (with_reducible refine WP.neB ?_)
  | (with_reducible refine WP.notT ?_) | (with_reducible refine WP.andT ?_) | (with_reducible refine WP.orT ?_) | (with_reducible refine WP.andV ?_) | (with_reducible refine WP.orV ?_) | (with_reducible refine WP.notV ?_)
  | (with_reducible refine WP.sl ?_) | (with_reducible refine WP.noPart ?_) | (with_reducible refine WP.part ?_) | (with_reducible refine WP.isi ?_) | (with_reducible refine WP.isbV ?_) | (with_reducible refine WP.gsCons ?_) | (with_reducible refine WP.gsNil ?_) | (with_reducible refine WP.forl ?_) | (with_reducible refine WP.rng1 ?_) | (with_reducible refine WP.rng2 ?_) | (with_reducible refine WP.walkL ?_) | (with_reducible refine WP.walkT ?_))
local macro_rules | `(tactic| k_updF) => `(tactic| repeat k_memK)

def top (i : Nat) : Stmt := PySem.Challenge.pw_cardwright_k02_decimals_are_exact.main.body.getD i (.Pass ⟨0, 0, 0, 0⟩)
structure Blt (K : PySem.W.Frag) (mg : Str → Option Value) : Prop where
  b_abs : mg "abs" = none
  b_bool : mg "bool" = none
  b_int : mg "int" = none
  b_isinstance : mg "isinstance" = none
  b_len : mg "len" = none
  b_max : mg "max" = none
  b_min : mg "min" = none
  b_range : mg "range" = none
  b_tuple : mg "tuple" = none
abbrev s__law_rich : Stmt := top 12
abbrev N__law_rich : List Str := ["cell", "k", "mixed"]
theorem sc__law_rich : FnScope N__law_rich ["cell", "k"] (defScope s__law_rich) := ⟨rfl, rfl, rfl, by decide +kernel, rfl, by decide +kernel, by decide +kernel⟩
def sp__law_rich (K : PySem.W.Frag) : Sp := fun vs H Q _ => ∃ c k : Int, vs = [.int c, .int k] ∧ ∀ r : Int, 0 ≤ r → Q (.int r) H
section
variable {P : Program} {w : World} {K : PySem.W.Frag} {mg : Str → Option Value} {base : Heap}
theorem ok__law_rich {f : Addr} {fd : FuncData} (F : Fun K "_law_rich" "_law_rich" s__law_rich f fd) (B : Blt K mg)  : FnOk P w K mg base CX0 1 f fd ["cell", "k"] (sp__law_rich K) := by
  refine F.ok sc__law_rich (fun vs H Q E h => ?_) (fun cdv A outer s H vs Q E hr h => ?_)
  · first | (obtain ⟨_, rfl, _⟩ := h; rfl) | (obtain ⟨_, _, rfl, _⟩ := h; rfl) | (obtain ⟨_, _, _, rfl, _⟩ := h; rfl) | (obtain ⟨_, _, _, _, rfl, _⟩ := h; rfl) | (obtain ⟨_, _, _, _, _, rfl, _⟩ := h; rfl) | (obtain ⟨_, _, _, _, _, _, rfl, _⟩ := h; rfl) | (obtain ⟨_, _, _, _, _, _, _, rfl, _⟩ := h; rfl) | (obtain ⟨_, _, _, _, _, _, _, _, rfl, _⟩ := h; rfl) | (obtain ⟨rfl, _⟩ := h; rfl)
  · obtain ⟨c, i, rfl, k⟩ := h
    refine ⟨_, (pss_cons (ps_if (pt_cmpR op_ge (pv 0) (pe_op op_pow pe_int pe_int) (nomark _)) (pss_one (ps_ret (pe_callTy WP.c_int1 (by rfl) B.b_int (by decide +kernel) (pa_cons (pv 0) pa_nil)))) pss_nil)
      (pss_cons (ps_set (i := 2) sc__law_rich.nd rfl (Or.inl rfl) (pe_op op_mod (pe_callTy WP.c_int1 (by rfl) B.b_int (by decide +kernel) (pa_cons (pe_op op_add (pe_op op_add (pe_op op_mul (pv 0) pe_int) (pe_op op_mul (pv 1) pe_int)) pe_int) pa_nil)) pe_int))
      (pss_one (ps_ret (pe_op op_add (pe_op op_mul (pv 2) pe_int) (pe_op op_mod (pe_callTy WP.c_int1 (by rfl) B.b_int (by decide +kernel) (pa_cons (pe_op op_add (pe_op op_mul (pv 2) pe_int) (pv 0)) pa_nil)) pe_int)))))), ?_⟩
    k_updF
    refine WP.iC ⟨by decide, by decide, by decide⟩ ?_
    k_updF
    refine WP.br (fun g => ?_) (fun g => ?_)
    · k_updF
      refine WP.intI (k _ ?_)
      have : (0 : Int) ≤ 10 ^ (18 : Int).toNat := by decide
      omega
    · k_updF
      refine WP.iC (.inr (by decide)) ?_
      k_updF
      refine WP.iC (.inr (by decide)) ?_
      k_updF
      refine WP.intI ?_
      k_updF
      refine WP.iC (by decide) ?_
      k_updF
      refine WP.iC (.inr (by decide)) ?_
      k_updF
      refine WP.iC (.inr (by decide)) ?_
      k_updF
      refine WP.intI ?_
      k_updF
      refine WP.iC (by decide) ?_
      k_updF
      refine k _ ?_
      have h1 := Int.emod_nonneg (c * 48271 + i * 69621 + 11) (show (2147483647 : Int) ≠ 0 by decide)
      have h2 := Int.emod_nonneg ((c * 48271 + i * 69621 + 11) % 2147483647 * 16807 + c) (show (2147483629 : Int) ≠ 0 by decide)
      omega
end
abbrev s__law_decimal : Stmt := top 13
abbrev N__law_decimal : List Str := ["units", "scale", "k"]
theorem sc__law_decimal : FnScope N__law_decimal ["units", "scale"] (defScope s__law_decimal) := ⟨rfl, rfl, rfl, by decide +kernel, rfl, by decide +kernel, by decide +kernel⟩
def sp__law_decimal (K : PySem.W.Frag) : Sp := fun vs H Q _ => ∃ (u : Int) (s : Int), vs = [.int u, .int s] ∧ 0 ≤ s ∧ s ≤ 5000 ∧ WP.RetT (WP.dv (MD.nrm u s.toNat).1 (MD.nrm u s.toNat).2) H Q
section
variable {P : Program} {w : World} {K : PySem.W.Frag} {mg : Str → Option Value} {base : Heap}
theorem ok__law_decimal {f : Addr} {fd : FuncData} (F : Fun K "_law_decimal" "_law_decimal" s__law_decimal f fd) (B : Blt K mg)  : FnOk P w K mg base CX0 1 f fd ["units", "scale"] (sp__law_decimal K) := by
  refine F.ok sc__law_decimal (fun vs H Q E h => ?_) (fun cdv A outer s H vs Q E hr h => ?_)
  · first | (obtain ⟨_, rfl, _⟩ := h; rfl) | (obtain ⟨_, _, rfl, _⟩ := h; rfl) | (obtain ⟨_, _, _, rfl, _⟩ := h; rfl) | (obtain ⟨_, _, _, _, rfl, _⟩ := h; rfl) | (obtain ⟨_, _, _, _, _, rfl, _⟩ := h; rfl) | (obtain ⟨_, _, _, _, _, _, rfl, _⟩ := h; rfl) | (obtain ⟨_, _, _, _, _, _, _, rfl, _⟩ := h; rfl) | (obtain ⟨_, _, _, _, _, _, _, _, rfl, _⟩ := h; rfl) | (obtain ⟨rfl, _⟩ := h; rfl)
  · obtain ⟨u, s', rfl, hs, hs2, k⟩ := h
    refine ⟨_, (pss_cons (ps_for PassesOwn.never rfl (pi_range1 rfl B.b_range (pa_cons (pv 1) pa_nil)) (pg_name (i := 2) sc__law_decimal.nd rfl (Or.inl rfl)) (pss_one (ps_if (pt_cmpR op_eq (pe_op op_mod (pe_callTy WP.c_int1 (by rfl) B.b_int (by decide +kernel) (pa_cons (pv 0) pa_nil)) pe_int) pe_int (nomark _)) (pss_cons (ps_set (i := 0) sc__law_decimal.nd rfl (Or.inl rfl) (pe_op op_fdiv (pv 0) pe_int))
      (pss_one (ps_set (i := 1) sc__law_decimal.nd rfl (Or.inl rfl) (pe_op op_sub (pv 1) pe_int)))) (pss_one (ps_ret (pe_tup (pa_cons (pv 0) (pa_cons (pv 1) pa_nil))))))))
      (pss_one (ps_ret (pe_tup (pa_cons (pv 0) (pa_cons (pv 1) pa_nil)))))), ?_⟩
    k_updF
    refine ⟨_, rfl, by omega, by omega, for_range (lo := 0) (n := s'.toNat) (fun i σ' H' => ∃ (a : Int) (n : Nat) (z : Option V), σ' = [some (.int a), some (.int (n : Int)), z] ∧ H' = H ∧ n + i = s'.toNat ∧ MD.nrm a n = MD.nrm u s'.toNat)
      ⟨u, s'.toNat, none, by rw [Int.toNat_of_nonneg hs]; rfl, rfl, by omega, rfl⟩ ?_ ?_⟩
    · rintro i σ' H' hi ⟨a, n, z, rfl, rfl, hn, e⟩
      obtain ⟨n', rfl⟩ : ∃ n', n = n' + 1 := ⟨n - 1, by omega⟩
      k_updF
      refine WP.intI ?_
      k_updF
      refine WP.iC (show (0 : Int) < 10 by decide) ?_
      k_updF
      refine WP.br (fun c => ?_) (fun c => ?_)
      · k_updF
        refine WP.iC ⟨by decide, by decide⟩ ?_
        k_updF
        refine ⟨a / 10, n', some (.int (0 + (i : Int))), ?_, rfl, by omega, ?_⟩
        · rw [show ((n' + 1 : Nat) : Int) - 1 = (n' : Int) by omega]; rfl
        · rw [← e]
          show _ = if a % 10 = 0 then _ else _
          rw [if_pos c]
      · k_updF
        refine ⟨WP.sz2, ?_⟩
        rw [← e, MD.nrm_self (.inr c)] at k
        exact k.new (Same.refl _)
    · rintro σ' H' ⟨a, n, z, rfl, rfl, hn, e⟩
      obtain rfl : n = 0 := by omega
      k_updF
      refine ⟨WP.sz2, ?_⟩
      rw [← e] at k
      exact k.new (Same.refl _)
end
abbrev s__law_number : Stmt := top 14
abbrev N__law_number : List Str := ["rich", "choice", "rest"]
theorem sc__law_number : FnScope N__law_number ["rich"] (defScope s__law_number) := ⟨rfl, rfl, rfl, by decide +kernel, rfl, by decide +kernel, by decide +kernel⟩
/-- some decimal of at most 18 figures -/
def sp__law_number (K : PySem.W.Frag) : Sp := fun vs H Q _ => ∃ r : Int, vs = [.int r] ∧ ∀ (u : Int) (s : Nat), MD.Dec u s → s ≤ 18 → u.natAbs ≤ 10 ^ 18 → WP.RetT (WP.dv u s) H Q
section
variable {P : Program} {w : World} {K : PySem.W.Frag} {mg : Str → Option Value} {base : Heap}
theorem ok__law_number {f : Addr} {fd : FuncData} (F : Fun K "_law_number" "_law_number" s__law_number f fd) (B : Blt K mg) (c__law_decimal : WP.Callee P w K mg base CX0 1 "_law_decimal" ["units", "scale"] (sp__law_decimal K)) : FnOk P w K mg base CX0 2 f fd ["rich"] (sp__law_number K) := by
  refine F.ok sc__law_number (fun vs H Q E h => ?_) (fun cdv A outer s H vs Q E hr h => ?_)
  · first | (obtain ⟨_, rfl, _⟩ := h; rfl) | (obtain ⟨_, _, rfl, _⟩ := h; rfl) | (obtain ⟨_, _, _, rfl, _⟩ := h; rfl) | (obtain ⟨_, _, _, _, rfl, _⟩ := h; rfl) | (obtain ⟨_, _, _, _, _, rfl, _⟩ := h; rfl) | (obtain ⟨_, _, _, _, _, _, rfl, _⟩ := h; rfl) | (obtain ⟨_, _, _, _, _, _, _, rfl, _⟩ := h; rfl) | (obtain ⟨_, _, _, _, _, _, _, _, rfl, _⟩ := h; rfl) | (obtain ⟨rfl, _⟩ := h; rfl)
  · obtain ⟨r, rfl, k⟩ := h
    refine ⟨_, (pss_cons (ps_set (i := 1) sc__law_number.nd rfl (Or.inl rfl) (pe_op op_mod (pv 0) pe_int))
      (pss_cons (ps_set (i := 2) sc__law_number.nd rfl (Or.inl rfl) (pe_op op_fdiv (pv 0) pe_int))
      (pss_cons (ps_if (pt_cmpR op_eq (pv 1) pe_int (nomark _)) (pss_one (ps_ret (WP.pe_callC c__law_decimal hr rfl pass0 (pa_cons (pe_ix ix_list (pe_lst (pa_cons pe_int (pa_cons pe_int (pa_cons (pe_un un_neg pe_int) (pa_cons pe_int (pa_cons (pe_un un_neg pe_int) (pa_cons pe_int pa_nil))))))) (pe_op op_mod (pv 2) pe_int) (fun _ _ => rfl)) (pa_cons (pe_op op_mod (pe_op op_fdiv (pv 2) pe_int) pe_int) pa_nil))))) pss_nil)
      (pss_cons (ps_if (pt_cmpR op_lt (pv 1) pe_int (nomark _)) (pss_one (ps_ret (WP.pe_callC c__law_decimal hr rfl pass0 (pa_cons (pe_op op_sub (pe_op op_mod (pv 2) pe_int) pe_int) (pa_cons (pe_op op_mod (pe_op op_fdiv (pv 2) pe_int) pe_int) pa_nil))))) pss_nil)
      (pss_one (ps_ret (WP.pe_callC c__law_decimal hr rfl pass0 (pa_cons (pe_op op_sub (pe_op op_mod (pv 2) (pe_op op_mul pe_int (pe_op op_pow pe_int pe_int))) (pe_op op_pow pe_int pe_int)) (pa_cons (pe_op op_mod (pe_op op_fdivW (pv 2) (pe_op op_pow pe_int pe_int)) pe_int) pa_nil))))))))), ?_⟩
    have fin : ∀ (u s : Int) (H' : Hp), Same H H' → u.natAbs ≤ 10 ^ 18 → 0 ≤ s → s ≤ 18 → WP.RetT (WP.dv (MD.nrm u s.toNat).1 (MD.nrm u s.toNat).2) H' Q := fun u s H' e hu h0 h1 p H2 e2 hp =>
      k _ _ (MD.nrm_dec _ _) (by have := MD.nrm_le s.toNat u; omega) (Nat.le_trans (MD.nrm_abs _ _) hu) p H2 (e.trans e2) hp
    k_updF
    refine WP.iC (by decide) ?_
    k_updF
    refine WP.iC ⟨by decide, by decide⟩ ?_
    k_updF
    refine WP.br (fun c => ?_) (fun c => ?_)
    · k_updF
      refine ⟨by show 6 ≤ sizeLine; exact WP.sz (by decide), fun l hl => ?_⟩
      k_updF
      refine WP.iC (by decide) ?_
      have hm := Int.emod_nonneg (r / 6) (show (6 : Int) ≠ 0 by decide)
      have hm2 := Int.emod_lt_of_pos (r / 6) (show (0 : Int) < 6 by decide)
      refine WP.ixL (xs := [0, 1, -1, 10, -100, 5].map V.int) (SqL.of upd_same) (WP.at_ints hm hm2) ?_
      k_updF
      refine WP.iC ⟨by decide, by decide⟩ ?_
      k_updF
      refine WP.iC (by decide) ?_
      k_updF
      refine ⟨_, _, rfl, Int.emod_nonneg _ (by decide), by have := Int.emod_lt_of_pos (r / 6 / 6) (show (0 : Int) < 3 by decide); omega, fin _ _ _ (WP.same_new hl) ?_ (Int.emod_nonneg _ (by decide)) (by have := Int.emod_lt_of_pos (r / 6 / 6) (show (0 : Int) < 3 by decide); omega)⟩
      have : ∀ j : Nat, j < 6 → ([0, 1, -1, 10, -100, 5] : List Int).getD j 0 ∈ ([0, 1, -1, 10, -100, 5] : List Int) := by decide
      have m := this (r / 6 % 6).toNat (by omega)
      have : ∀ x ∈ ([0, 1, -1, 10, -100, 5] : List Int), x.natAbs ≤ 10 ^ 18 := by decide
      exact this _ m
    · k_updF
      refine WP.br (fun c => ?_) (fun c => ?_)
      · k_updF
        refine WP.iC (by decide) ?_
        k_updF
        refine WP.iC ⟨by decide, by decide⟩ ?_
        k_updF
        refine WP.iC (by decide) ?_
        k_updF
        have a1 := Int.emod_nonneg (r / 6) (show (20001 : Int) ≠ 0 by decide)
        have a2 := Int.emod_lt_of_pos (r / 6) (show (0 : Int) < 20001 by decide)
        have b1 := Int.emod_nonneg (r / 6 / 20001) (show (5 : Int) ≠ 0 by decide)
        have b2 := Int.emod_lt_of_pos (r / 6 / 20001) (show (0 : Int) < 5 by decide)
        exact ⟨_, _, rfl, b1, by omega, fin _ _ _ (Same.refl _) (by omega) b1 (by omega)⟩
      · k_updF
        refine WP.iC ⟨by decide, by decide, by decide⟩ ?_
        refine WP.iC (.inl (by decide)) ?_
        refine WP.iC (by decide) ?_
        k_updF
        refine WP.iC ⟨by decide, by decide, by decide⟩ ?_
        k_updF
        refine WP.iC ⟨by decide, by decide, by decide⟩ ?_
        refine WP.iC (WP.Bt.d' (b := 60) (by decide) (by unfold WP.Bt; decide)) ?_
        k_updF
        refine WP.iC (by decide) ?_
        k_updF
        have e1 : (2 * 10 ^ (18 : Int).toNat : Int) = 2000000000000000000 := by decide
        have e2 : (10 ^ (18 : Int).toNat : Int) = 1000000000000000000 := by decide
        rw [e1, e2]
        have a1 := Int.emod_nonneg (r / 6) (show (2000000000000000000 : Int) ≠ 0 by decide)
        have a2 := Int.emod_lt_of_pos (r / 6) (show (0 : Int) < 2000000000000000000 by decide)
        have b1 := Int.emod_nonneg (r / 6 / (10 ^ (15 : Int).toNat)) (show (19 : Int) ≠ 0 by decide)
        have b2 := Int.emod_lt_of_pos (r / 6 / (10 ^ (15 : Int).toNat)) (show (0 : Int) < 19 by decide)
        exact ⟨_, _, rfl, b1, by omega, fin _ _ _ (Same.refl _) (by omega) b1 (by omega)⟩
end
abbrev s__law_cell : Stmt := top 11
abbrev N__law_cell : List Str := ["script", "k"]
theorem sc__law_cell : FnScope N__law_cell ["script", "k"] (defScope s__law_cell) := ⟨rfl, rfl, rfl, by decide +kernel, rfl, by decide +kernel, by decide +kernel⟩
def sp__law_cell (K : PySem.W.Frag) : Sp := fun vs H Q _ => ∃ (a : Addr) (ns : List Int) (k : Int), vs = [.ref a, .int k] ∧ SqL K H a (ns.map V.int) ∧ 0 ≤ k ∧ ∀ c : Int, Q (.int c) H
section
variable {P : Program} {w : World} {K : PySem.W.Frag} {mg : Str → Option Value} {base : Heap}
theorem ok__law_cell {f : Addr} {fd : FuncData} (F : Fun K "_law_cell" "_law_cell" s__law_cell f fd) (B : Blt K mg)  : FnOk P w K mg base CX0 1 f fd ["script", "k"] (sp__law_cell K) := by
  refine F.ok sc__law_cell (fun vs H Q E h => ?_) (fun cdv A outer s H vs Q E hr h => ?_)
  · first | (obtain ⟨_, rfl, _⟩ := h; rfl) | (obtain ⟨_, _, rfl, _⟩ := h; rfl) | (obtain ⟨_, _, _, rfl, _⟩ := h; rfl) | (obtain ⟨_, _, _, _, rfl, _⟩ := h; rfl) | (obtain ⟨_, _, _, _, _, rfl, _⟩ := h; rfl) | (obtain ⟨_, _, _, _, _, _, rfl, _⟩ := h; rfl) | (obtain ⟨_, _, _, _, _, _, _, rfl, _⟩ := h; rfl) | (obtain ⟨_, _, _, _, _, _, _, _, rfl, _⟩ := h; rfl) | (obtain ⟨rfl, _⟩ := h; rfl)
  · obtain ⟨a, ns, i, rfl, ha, hi, k⟩ := h
    refine ⟨_, (pss_cons (ps_if (pt_cmpR op_lt (pv 1) (pe_callB WP.c_len (by rfl) B.b_len (by decide +kernel) (pa_cons (pv 0) pa_nil)) (nomark _)) (pss_one (ps_ret (pe_callTy WP.c_int1 (by rfl) B.b_int (by decide +kernel) (pa_cons (pe_ix ix_list (pv 0) (pv 1) (fun _ _ => rfl)) pa_nil)))) pss_nil)
      (pss_one (ps_ret pe_int))), ?_⟩
    k_updF
    refine WP.lenL ha ?_
    k_updF
    refine WP.br (fun c => ?_) (fun c => ?_)
    · k_updF
      rw [List.length_map] at c
      refine WP.ixL ha (WP.at_ints hi c) ?_
      k_updF
      exact WP.intI (k _)
    · k_updF
      exact k 0
end
abbrev s__law_ten : Stmt := top 16
abbrev N__law_ten : List Str := ["scale", "result", "k"]
theorem sc__law_ten : FnScope N__law_ten ["scale"] (defScope s__law_ten) := ⟨rfl, rfl, rfl, by decide +kernel, rfl, by decide +kernel, by decide +kernel⟩
def sp__law_ten (K : PySem.W.Frag) : Sp := fun vs H Q _ => ∃ n : Int, vs = [.int n] ∧ n ≤ 5000 ∧ -5000 ≤ n ∧ Q (.int (10 ^ n.toNat)) H
section
variable {P : Program} {w : World} {K : PySem.W.Frag} {mg : Str → Option Value} {base : Heap}
theorem ok__law_ten {f : Addr} {fd : FuncData} (F : Fun K "_law_ten" "_law_ten" s__law_ten f fd) (B : Blt K mg)  : FnOk P w K mg base CX0 1 f fd ["scale"] (sp__law_ten K) := by
  refine F.ok sc__law_ten (fun vs H Q E h => ?_) (fun cdv A outer s H vs Q E hr h => ?_)
  · first | (obtain ⟨_, rfl, _⟩ := h; rfl) | (obtain ⟨_, _, rfl, _⟩ := h; rfl) | (obtain ⟨_, _, _, rfl, _⟩ := h; rfl) | (obtain ⟨_, _, _, _, rfl, _⟩ := h; rfl) | (obtain ⟨_, _, _, _, _, rfl, _⟩ := h; rfl) | (obtain ⟨_, _, _, _, _, _, rfl, _⟩ := h; rfl) | (obtain ⟨_, _, _, _, _, _, _, rfl, _⟩ := h; rfl) | (obtain ⟨_, _, _, _, _, _, _, _, rfl, _⟩ := h; rfl) | (obtain ⟨rfl, _⟩ := h; rfl)
  · obtain ⟨n, rfl, h1, h2, k⟩ := h
    refine ⟨_, (pss_cons (ps_set (i := 1) sc__law_ten.nd rfl (Or.inl rfl) pe_int)
      (pss_cons (ps_for PassesOwn.never rfl (pi_range1 rfl B.b_range (pa_cons (pv 0) pa_nil)) (pg_name (i := 2) sc__law_ten.nd rfl (Or.inl rfl)) (pss_one (ps_set (i := 1) sc__law_ten.nd rfl (Or.inl rfl) (pe_op op_mul (pv 1) pe_int))))
      (pss_one (ps_ret (pv 1))))), ?_⟩
    k_updF
    refine ⟨_, rfl, by omega, by omega, for_range (lo := 0) (n := n.toNat) (fun i σ' H' => ∃ z, σ' = [some (.int n), some (.int (10 ^ i)), z] ∧ H' = H) ⟨none, rfl, rfl⟩ ?_ ?_⟩
    · rintro i σ' H' hi ⟨z, rfl, rfl⟩
      k_updF
      refine WP.iC (.inr (by decide)) ?_
      k_updF
      exact ⟨some (.int (0 + (i : Int))), by rw [Int.pow_succ]; rfl, rfl⟩
    · rintro σ' H' ⟨z, rfl, rfl⟩
      k_updF
      exact k
end
abbrev s__law_is_decimal : Stmt := top 15
abbrev N__law_is_decimal : List Str := ["value", "part"]
theorem sc__law_is_decimal : FnScope N__law_is_decimal ["value"] (defScope s__law_is_decimal) := ⟨rfl, rfl, rfl, by decide +kernel, rfl, by decide +kernel, by decide +kernel⟩
def sp__law_is_decimal (K : PySem.W.Frag) : Sp := fun vs H Q _ => ∃ (p : Addr) (u : Int) (s : Nat), vs = [.ref p] ∧ H p = some (.tup (WP.dv u s)) ∧ MD.Dec u s ∧ Q (.bl true) H
section
variable {P : Program} {w : World} {K : PySem.W.Frag} {mg : Str → Option Value} {base : Heap}
theorem ok__law_is_decimal {f : Addr} {fd : FuncData} (F : Fun K "_law_is_decimal" "_law_is_decimal" s__law_is_decimal f fd) (B : Blt K mg)  : FnOk P w K mg base CX0 1 f fd ["value"] (sp__law_is_decimal K) := by
  refine F.ok sc__law_is_decimal (fun vs H Q E h => ?_) (fun cdv A outer s H vs Q E hr h => ?_)
  · first | (obtain ⟨_, rfl, _⟩ := h; rfl) | (obtain ⟨_, _, rfl, _⟩ := h; rfl) | (obtain ⟨_, _, _, rfl, _⟩ := h; rfl) | (obtain ⟨_, _, _, _, rfl, _⟩ := h; rfl) | (obtain ⟨_, _, _, _, _, rfl, _⟩ := h; rfl) | (obtain ⟨_, _, _, _, _, _, rfl, _⟩ := h; rfl) | (obtain ⟨_, _, _, _, _, _, _, rfl, _⟩ := h; rfl) | (obtain ⟨_, _, _, _, _, _, _, _, rfl, _⟩ := h; rfl) | (obtain ⟨rfl, _⟩ := h; rfl)
  · obtain ⟨p, u, s', rfl, hp, hd, k⟩ := h
    refine ⟨_, (pss_cons (ps_if (PW.pt (pw_or (pt_not (pt_val (pe_callB call_isi (by rfl) B.b_isinstance (by decide +kernel) (pa_cons (pv 0) (pa_cons (pe_bltn (v := .ty "tuple") rfl B.b_tuple (by decide +kernel) rfl) pa_nil))))) (pw_or1 (pt_cmpR op_ne (pe_callB WP.c_len (by rfl) B.b_len (by decide +kernel) (pa_cons (pv 0) pa_nil)) pe_int (nomark _))))) (pss_one (ps_ret pe_bl)) pss_nil)
      (pss_cons (ps_for PassesOwn.never rfl (pi_tup (pv 0)) (pg_name (i := 1) sc__law_is_decimal.nd rfl (Or.inl rfl)) (pss_one (ps_if (PW.pt (pw_or (pt_not (pt_val (pe_callB call_isi (by rfl) B.b_isinstance (by decide +kernel) (pa_cons (pv 1) (pa_cons (pe_bltn (v := .ty "int") rfl B.b_int (by decide +kernel) rfl) pa_nil))))) (pw_or1 (pt_val (pe_callB call_isi (by rfl) B.b_isinstance (by decide +kernel) (pa_cons (pv 1) (pa_cons (pe_bltn (v := .ty "bool") rfl B.b_bool (by decide +kernel) rfl) pa_nil))))))) (pss_one (ps_ret pe_bl)) pss_nil)))
      (pss_one (ps_ret (pe_or (pe_cmpR op_eq (pe_ix ix_tup (pv 0) pe_int (fun _ _ => rfl)) pe_int (nomark _)) (pe_one (pe_and (pe_cmpR op_gt (pe_ix ix_tup (pv 0) pe_int (fun _ _ => rfl)) pe_int (nomark _)) (pe_one (pe_cmpR op_ne (pe_op op_mod (pe_callTy WP.c_int1 (by rfl) B.b_int (by decide +kernel) (pa_cons (pe_ix ix_tup (pv 0) pe_int (fun _ _ => rfl)) pa_nil)) pe_int) pe_int (nomark _)))))))))), ?_⟩
    have hq := SqT.of (K := K) hp
    k_updF
    refine WP.isY (.base (.tup hp)) ?_
    k_updF
    refine WP.brF rfl ?_
    k_updF
    refine WP.lenT hq ?_
    k_updF
    refine WP.brN (fun c => absurd rfl c) (fun _ => ?_)
    k_updF
    refine ⟨_, rfl, ⟨_, hq⟩, for_tup (K := K) (a := p) (xs := WP.dv u s') (fun i σ' H' => ∃ z, σ' = [some (.ref p), z] ∧ H' = H) ⟨none, rfl, rfl⟩ (by rintro i σ' H' _ ⟨z, rfl, rfl⟩; exact hq) ?_ ?_⟩
    · rintro i x σ' H' hi ⟨z, rfl, rfl⟩
      obtain ⟨n, rfl⟩ : ∃ n : Int, x = .int n := by
        match i, hi with
        | 0, h => exact ⟨u, (Option.some.inj h).symm⟩
        | 1, h => exact ⟨s', (Option.some.inj h).symm⟩
      k_updF
      refine WP.isY (.base (.int _)) ?_
      k_updF
      refine WP.brF rfl ?_
      k_updF
      refine WP.isN (.base (.int _)) ?_
      k_updF
      refine WP.brF rfl ?_
      k_updF
      exact ⟨_, rfl, rfl⟩
    · rintro σ' H' ⟨z, rfl, rfl⟩
      k_updF
      refine WP.ixT hq WP.at1 ?_
      k_updF
      refine WP.br (fun c => ?_) (fun c => ?_)
      · exact (show V.bl (decide ((s' : Int) = 0)) = V.bl true by rw [decide_eq_true c]) ▸ k
      · k_updF
        refine WP.ixT hq WP.at1 ?_
        k_updF
        refine WP.brT (decide_eq_true (by omega)) ?_
        k_updF
        refine WP.ixT hq WP.at0 ?_
        k_updF
        refine WP.intI ?_
        k_updF
        refine WP.iC (by decide) ?_
        k_updF
        have : u % 10 ≠ 0 := by
          rcases hd with e | e
          · omega
          · exact e
        rw [decide_eq_false this]
        exact k
end
abbrev s__law_is : Stmt := top 17
abbrev N__law_is : List Str := ["value", "units", "scale"]
theorem sc__law_is : FnScope N__law_is ["value", "units", "scale"] (defScope s__law_is) := ⟨rfl, rfl, rfl, by decide +kernel, rfl, by decide +kernel, by decide +kernel⟩
def sp__law_is (K : PySem.W.Frag) : Sp := fun vs H Q _ => ∃ (p : Addr) (u : Int) (s : Nat) (x scale : Int), vs = [.ref p, .int x, .int scale] ∧ H p = some (.tup (WP.dv u s)) ∧ MD.Dec u s ∧ s ≤ 5000 ∧ 0 ≤ scale ∧ scale ≤ 5000 ∧ WP.Bt u 200000 ∧ WP.Bt x 200000 ∧
  u * 10 ^ scale.toNat = x * 10 ^ s ∧ Q (.bl true) H
section
variable {P : Program} {w : World} {K : PySem.W.Frag} {mg : Str → Option Value} {base : Heap}
theorem ok__law_is {f : Addr} {fd : FuncData} (F : Fun K "_law_is" "_law_is" s__law_is f fd) (B : Blt K mg) (c__law_is_decimal : WP.Callee P w K mg base CX0 1 "_law_is_decimal" ["value"] (sp__law_is_decimal K)) (c__law_ten : WP.Callee P w K mg base CX0 1 "_law_ten" ["scale"] (sp__law_ten K)) : FnOk P w K mg base CX0 2 f fd ["value", "units", "scale"] (sp__law_is K) := by
  refine F.ok sc__law_is (fun vs H Q E h => ?_) (fun cdv A outer s H vs Q E hr h => ?_)
  · first | (obtain ⟨_, rfl, _⟩ := h; rfl) | (obtain ⟨_, _, rfl, _⟩ := h; rfl) | (obtain ⟨_, _, _, rfl, _⟩ := h; rfl) | (obtain ⟨_, _, _, _, rfl, _⟩ := h; rfl) | (obtain ⟨_, _, _, _, _, rfl, _⟩ := h; rfl) | (obtain ⟨_, _, _, _, _, _, rfl, _⟩ := h; rfl) | (obtain ⟨_, _, _, _, _, _, _, rfl, _⟩ := h; rfl) | (obtain ⟨_, _, _, _, _, _, _, _, rfl, _⟩ := h; rfl) | (obtain ⟨rfl, _⟩ := h; rfl)
  · obtain ⟨p, u, s', x, scale, rfl, hp, hd, h1, h2, h3, hu, hx, e, k⟩ := h
    have hq := SqT.of (K := K) hp
    refine ⟨_, (pss_one (ps_ret (pe_and (WP.pe_callC c__law_is_decimal hr rfl pass0 (pa_cons (pv 0) pa_nil)) (pe_one (pe_cmpR op_eq (pe_op op_mulW (pe_ix ix_tup (pv 0) pe_int (fun _ _ => rfl)) (WP.pe_callC c__law_ten hr rfl pass0 (pa_cons (pv 2) pa_nil))) (pe_op op_mulW (pv 1) (WP.pe_callC c__law_ten hr rfl pass0 (pa_cons (pe_ix ix_tup (pv 0) pe_int (fun _ _ => rfl)) pa_nil))) (nomark _)))))), ?_⟩
    k_updF
    refine ⟨p, u, s', rfl, hp, hd, ?_⟩
    k_updF
    refine WP.brT rfl ?_
    k_updF
    refine WP.ixT hq WP.at0 ?_
    k_updF
    refine ⟨_, rfl, h3, by omega, ?_⟩
    refine WP.iC (hu.w (WP.Bt.ten _)) ?_
    k_updF
    refine WP.ixT hq WP.at1 ?_
    k_updF
    refine ⟨_, rfl, by omega, by omega, ?_⟩
    refine WP.iC (hx.w (WP.Bt.ten _)) ?_
    k_updF
    rw [Int.toNat_natCast, decide_eq_true e]
    exact k
end
abbrev s_power : Stmt := top 1
abbrev N_power : List Str := ["exponent", "result", "factor", "rest"]
theorem sc_power : FnScope N_power ["exponent"] (defScope s_power) := ⟨rfl, rfl, rfl, by decide +kernel, rfl, by decide +kernel, by decide +kernel⟩
/-- power(e): 10 to the power of e -/
def sp_power (K : PySem.W.Frag) : Sp := fun vs H Q _ => ∃ e : Int, vs = [.int e] ∧ e ≤ 3000 ∧ Q (.int (10 ^ e.toNat)) H
section
variable {P : Program} {w : World} {K : PySem.W.Frag} {mg : Str → Option Value} {base : Heap}
theorem ok_power {f : Addr} {fd : FuncData} (F : Fun K "power" "power" s_power f fd) (B : Blt K mg)  : FnOk P w K mg base CX0 1 f fd ["exponent"] (sp_power K) := by
  refine F.ok sc_power (fun vs H Q E h => ?_) (fun cdv A outer s H vs Q E hr h => ?_)
  · first | (obtain ⟨_, rfl, _⟩ := h; rfl) | (obtain ⟨_, _, rfl, _⟩ := h; rfl) | (obtain ⟨_, _, _, rfl, _⟩ := h; rfl) | (obtain ⟨_, _, _, _, rfl, _⟩ := h; rfl) | (obtain ⟨_, _, _, _, _, rfl, _⟩ := h; rfl) | (obtain ⟨_, _, _, _, _, _, rfl, _⟩ := h; rfl) | (obtain ⟨_, _, _, _, _, _, _, rfl, _⟩ := h; rfl) | (obtain ⟨_, _, _, _, _, _, _, _, rfl, _⟩ := h; rfl) | (obtain ⟨rfl, _⟩ := h; rfl)
  · obtain ⟨e, rfl, he, k⟩ := h
    refine ⟨_, (pss_cons (ps_set (i := 1) sc_power.nd rfl (Or.inl rfl) pe_int)
      (pss_cons (ps_set (i := 2) sc_power.nd rfl (Or.inl rfl) pe_int)
      (pss_cons (ps_set (i := 3) sc_power.nd rfl (Or.inl rfl) (pv 0))
      (pss_cons (ps_while PassesOwn.never (pt_cmpR op_gt (pv 3) pe_int (nomark _)) (pss_cons (ps_if (pt_cmpR op_eq (pe_op op_mod (pv 3) pe_int) pe_int (nomark _)) (pss_one (ps_set (i := 1) sc_power.nd rfl (Or.inl rfl) (pe_op op_mulW (pv 1) (pv 2)))) pss_nil)
      (pss_cons (ps_set (i := 2) sc_power.nd rfl (Or.inl rfl) (pe_op op_mulW (pv 2) (pv 2)))
      (pss_one (ps_set (i := 3) sc_power.nd rfl (Or.inl rfl) (pe_op op_fdiv (pv 3) pe_int))))))
      (pss_one (ps_ret (pv 1))))))), ?_⟩
    k_updF
    refine ⟨fun m σ H' => ∃ (r b : Nat) (rest : Int), σ = [some (.int e), some (.int (10 ^ r)), some (.int (10 ^ b)), some (.int rest)] ∧ H' = H ∧ m = rest.toNat ∧ (rest ≤ 0 → r = e.toNat) ∧ (0 < rest → r + b * rest.toNat = e.toNat) ∧ 1 ≤ b,
      ⟨e.toNat, 0, 1, e, rfl, rfl, rfl, by omega, by omega, by omega⟩, ?_⟩
    rintro m σ H' ⟨r, b, rest, rfl, rfl, rfl, h1, h2, h3⟩
    k_updF
    refine WP.br (fun c => ?_) (fun c => ?_)
    · have e1 := h2 c
      have hb : b ≤ 3000 := by
        have : b * 1 ≤ b * rest.toNat := Nat.mul_le_mul_left b (by omega)
        omega
      have hrr : r ≤ 3000 := by omega
      have ed : rest.toNat = 2 * (rest / 2).toNat + (rest % 2).toNat := by omega
      refine ⟨fun σ' H2 => ∃ m', m' < rest.toNat ∧ ∃ (r b : Nat) (rest : Int), σ' = [some (.int e), some (.int (10 ^ r)), some (.int (10 ^ b)), some (.int rest)] ∧ H2 = H' ∧ m' = rest.toNat ∧ (rest ≤ 0 → r = e.toNat) ∧ (0 < rest → r + b * rest.toNat = e.toNat) ∧ 1 ≤ b, fun _ _ x => x, ?_⟩
      have step : ∀ r', (rest / 2 ≤ 0 → r' = e.toNat) → (0 < rest / 2 → r' + (b + b) * (rest / 2).toNat = e.toNat) →
          ∃ m', m' < rest.toNat ∧ ∃ (r b' : Nat) (rest' : Int), [some (V.int e), some (.int (10 ^ r')), some (.int (10 ^ b * 10 ^ b)), some (.int (rest / 2))] = [some (.int e), some (.int (10 ^ r)), some (.int (10 ^ b')), some (.int rest')] ∧ H' = H' ∧ m' = rest'.toNat ∧ (rest' ≤ 0 → r = e.toNat) ∧ (0 < rest' → r + b' * rest'.toNat = e.toNat) ∧ 1 ≤ b' := fun r' q1 q2 =>
        ⟨(rest / 2).toNat, by omega, r', b + b, rest / 2, by rw [Int.pow_add], rfl, rfl, q1, q2, by omega⟩
      k_memK; k_memK; k_memK; k_memK; k_memK; k_memK; k_memK
      refine WP.iC (show (0 : Int) < 2 by decide) ?_
      k_updF
      refine WP.br (fun o => ?_) (fun o => ?_)
      · k_updF
        refine WP.iC ((WP.Bt.ten r).w (WP.Bt.ten b)) ?_
        k_updF
        refine WP.iC ((WP.Bt.ten b).w (WP.Bt.ten b)) ?_
        k_updF
        refine WP.iC ⟨by decide, by decide⟩ ?_
        k_updF
        have e2 : b * rest.toNat = (b + b) * (rest / 2).toNat + b := by rw [ed, show (rest % 2).toNat = 1 by omega, Nat.mul_add, ← Nat.mul_assoc, Nat.mul_comm b 2, Nat.two_mul, Nat.mul_one]
        have := step (r + b) (fun q => by rw [show (rest / 2).toNat = 0 by omega] at e2; omega) (fun q => by omega)
        rw [Int.pow_add] at this
        exact this
      · k_updF
        refine WP.iC ((WP.Bt.ten b).w (WP.Bt.ten b)) ?_
        k_updF
        refine WP.iC ⟨by decide, by decide⟩ ?_
        k_updF
        have e2 : b * rest.toNat = (b + b) * (rest / 2).toNat := by rw [ed, show (rest % 2).toNat = 0 by omega, Nat.add_zero, ← Nat.mul_assoc, Nat.mul_comm b 2, Nat.two_mul]
        exact step r (fun q => by omega) (fun q => by omega)
    · k_updF
      rw [h1 (by omega)]
      exact k
end
abbrev s_aligned : Stmt := top 3
abbrev N_aligned : List Str := ["a", "scale", "units", "own"]
theorem sc_aligned : FnScope N_aligned ["a", "scale"] (defScope s_aligned) := ⟨rfl, rfl, rfl, by decide +kernel, rfl, by decide +kernel, by decide +kernel⟩
def sp_aligned (K : PySem.W.Frag) : Sp := fun vs H Q _ => ∃ (p : Addr) (u : Int) (own : Nat) (scale : Int), vs = [.ref p, .int scale] ∧ SqT K H p (WP.dv u own) ∧ (own : Int) ≤ scale ∧ scale - own ≤ 3000 ∧ WP.Bt u 900000 ∧ Q (.int (u * 10 ^ (scale - own).toNat)) H
section
variable {P : Program} {w : World} {K : PySem.W.Frag} {mg : Str → Option Value} {base : Heap}
theorem ok_aligned {f : Addr} {fd : FuncData} (F : Fun K "aligned" "aligned" s_aligned f fd) (B : Blt K mg) (c_power : WP.Callee P w K mg base CX0 1 "power" ["exponent"] (sp_power K)) : FnOk P w K mg base CX0 2 f fd ["a", "scale"] (sp_aligned K) := by
  refine F.ok sc_aligned (fun vs H Q E h => ?_) (fun cdv A outer s H vs Q E hr h => ?_)
  · first | (obtain ⟨_, rfl, _⟩ := h; rfl) | (obtain ⟨_, _, rfl, _⟩ := h; rfl) | (obtain ⟨_, _, _, rfl, _⟩ := h; rfl) | (obtain ⟨_, _, _, _, rfl, _⟩ := h; rfl) | (obtain ⟨_, _, _, _, _, rfl, _⟩ := h; rfl) | (obtain ⟨_, _, _, _, _, _, rfl, _⟩ := h; rfl) | (obtain ⟨_, _, _, _, _, _, _, rfl, _⟩ := h; rfl) | (obtain ⟨_, _, _, _, _, _, _, _, rfl, _⟩ := h; rfl) | (obtain ⟨rfl, _⟩ := h; rfl)
  · obtain ⟨p, u, own, scale, rfl, hp, h1, h2, hu, k⟩ := h
    refine ⟨_, (pss_cons (ps_asg (pv 0) (pg_tup (by rfl) (pgs_cons (pg_name (i := 2) sc_aligned.nd rfl (Or.inl rfl)) (pgs_cons (pg_name (i := 3) sc_aligned.nd rfl (Or.inl rfl)) pgs_nil))))
      (pss_one (ps_ret (pe_op op_mulW (pv 2) (WP.pe_callC c_power hr rfl pass0 (pa_cons (pe_op op_sub (pv 1) (pv 3)) pa_nil)))))), ?_⟩
    k_updF
    refine WP.unT hp rfl ?_
    k_updF
    refine ⟨_, rfl, h2, ?_⟩
    refine WP.iC (hu.w (WP.Bt.ten _)) ?_
    exact k
end
abbrev s_compare : Stmt := top 8
abbrev N_compare : List Str := ["a", "b", "scale", "difference"]
theorem sc_compare : FnScope N_compare ["a", "b"] (defScope s_compare) := ⟨rfl, rfl, rfl, by decide +kernel, rfl, by decide +kernel, by decide +kernel⟩
/-- -1, 0 or 1 -/
def dcmp (u : Int) (s : Nat) (x : Int) (t : Nat) : Int :=
  let d := u * 10 ^ (max s t - s) - x * 10 ^ (max s t - t)
  if d < 0 then -1 else if 0 < d then 1 else 0
def sp_compare (K : PySem.W.Frag) : Sp := fun vs H Q _ => ∃ (p q : Addr) (u : Int) (s : Nat) (x : Int) (t : Nat), vs = [.ref p, .ref q] ∧ SqT K H p (WP.dv u s) ∧ SqT K H q (WP.dv x t) ∧ s ≤ 1000 ∧ t ≤ 1000 ∧ WP.Bt u 100000 ∧ WP.Bt x 100000 ∧
  Q (.int (dcmp u s x t)) H
section
variable {P : Program} {w : World} {K : PySem.W.Frag} {mg : Str → Option Value} {base : Heap}
theorem ok_compare {f : Addr} {fd : FuncData} (F : Fun K "compare" "compare" s_compare f fd) (B : Blt K mg) (c_aligned : WP.Callee P w K mg base CX0 2 "aligned" ["a", "scale"] (sp_aligned K)) : FnOk P w K mg base CX0 3 f fd ["a", "b"] (sp_compare K) := by
  refine F.ok sc_compare (fun vs H Q E h => ?_) (fun cdv A outer s H vs Q E hr h => ?_)
  · first | (obtain ⟨_, rfl, _⟩ := h; rfl) | (obtain ⟨_, _, rfl, _⟩ := h; rfl) | (obtain ⟨_, _, _, rfl, _⟩ := h; rfl) | (obtain ⟨_, _, _, _, rfl, _⟩ := h; rfl) | (obtain ⟨_, _, _, _, _, rfl, _⟩ := h; rfl) | (obtain ⟨_, _, _, _, _, _, rfl, _⟩ := h; rfl) | (obtain ⟨_, _, _, _, _, _, _, rfl, _⟩ := h; rfl) | (obtain ⟨_, _, _, _, _, _, _, _, rfl, _⟩ := h; rfl) | (obtain ⟨rfl, _⟩ := h; rfl)
  · obtain ⟨p, q, u, s', x, t, rfl, hp, hq, hs, ht, hu, hx, k⟩ := h
    refine ⟨_, (pss_cons (ps_set (i := 2) sc_compare.nd rfl (Or.inl rfl) (pe_callB (WP.c_max2 rfl) (by rfl) B.b_max (by decide +kernel) (pa_cons (pe_ix ix_tup (pv 0) pe_int (fun _ _ => rfl)) (pa_cons (pe_ix ix_tup (pv 1) pe_int (fun _ _ => rfl)) pa_nil))))
      (pss_cons (ps_set (i := 3) sc_compare.nd rfl (Or.inl rfl) (pe_op op_sub (WP.pe_callC c_aligned hr rfl pass0 (pa_cons (pv 0) (pa_cons (pv 2) pa_nil))) (WP.pe_callC c_aligned hr rfl pass0 (pa_cons (pv 1) (pa_cons (pv 2) pa_nil)))))
      (pss_cons (ps_if (pt_cmpR op_lt (pv 3) pe_int (nomark _)) (pss_one (ps_ret (pe_un un_neg pe_int))) pss_nil)
      (pss_one (ps_ret (pe_ifExp (pt_cmpR op_gt (pv 3) pe_int (nomark _)) pe_int pe_int)))))), ?_⟩
    k_updF
    refine WP.ixT hp WP.at1 ?_
    k_updF
    refine WP.ixT hq WP.at1 ?_
    k_updF
    refine WP.maxI ?_
    rw [show max (s' : Int) (t : Int) = ((max s' t : Nat) : Int) by omega]
    k_updF
    refine ⟨p, u, s', _, rfl, hp, by omega, by omega, hu.mono (by decide), ?_⟩
    k_updF
    refine ⟨q, x, t, _, rfl, hq, by omega, by omega, hx.mono (by decide), ?_⟩
    rw [show (((max s' t : Nat) : Int) - (s' : Int)).toNat = max s' t - s' by omega, show (((max s' t : Nat) : Int) - (t : Int)).toNat = max s' t - t by omega]
    unfold dcmp at k
    k_updF
    refine WP.br (fun c => ?_) (fun c => ?_)
    · k_updF
      rw [if_pos c] at k
      exact k
    · k_updF
      rw [if_neg c] at k
      refine WP.br (fun c => ?_) (fun c => ?_)
      · k_updF
        rw [if_pos c] at k
        exact k
      · k_updF
        rw [if_neg c] at k
        exact k
end
abbrev s_normal : Stmt := top 2
abbrev N_normal : List Str := ["units", "scale"]
theorem sc_normal : FnScope N_normal ["units", "scale"] (defScope s_normal) := ⟨rfl, rfl, rfl, by decide +kernel, rfl, by decide +kernel, by decide +kernel⟩
def sp_normal (K : PySem.W.Frag) : Sp := fun vs H Q _ => ∃ u s : Int, vs = [.int u, .int s] ∧ 0 ≤ s ∧ WP.RetT (WP.dv (MD.nrm u s.toNat).1 (MD.nrm u s.toNat).2) H Q
section
variable {P : Program} {w : World} {K : PySem.W.Frag} {mg : Str → Option Value} {base : Heap}
theorem ok_normal {f : Addr} {fd : FuncData} (F : Fun K "normal" "normal" s_normal f fd) (B : Blt K mg)  : FnOk P w K mg base CX0 1 f fd ["units", "scale"] (sp_normal K) := by
  refine F.ok sc_normal (fun vs H Q E h => ?_) (fun cdv A outer s H vs Q E hr h => ?_)
  · first | (obtain ⟨_, rfl, _⟩ := h; rfl) | (obtain ⟨_, _, rfl, _⟩ := h; rfl) | (obtain ⟨_, _, _, rfl, _⟩ := h; rfl) | (obtain ⟨_, _, _, _, rfl, _⟩ := h; rfl) | (obtain ⟨_, _, _, _, _, rfl, _⟩ := h; rfl) | (obtain ⟨_, _, _, _, _, _, rfl, _⟩ := h; rfl) | (obtain ⟨_, _, _, _, _, _, _, rfl, _⟩ := h; rfl) | (obtain ⟨_, _, _, _, _, _, _, _, rfl, _⟩ := h; rfl) | (obtain ⟨rfl, _⟩ := h; rfl)
  · obtain ⟨u, s', rfl, hs, k⟩ := h
    refine ⟨_, (pss_cons (ps_while PassesOwn.never (PW.pt (pw_and (pt_cmpR op_gt (pv 1) pe_int (nomark _)) (pw_and1 (pt_cmpR op_eq (pe_op op_mod (pv 0) pe_int) pe_int (nomark _))))) (pss_cons (ps_set (i := 0) sc_normal.nd rfl (Or.inl rfl) (pe_op op_fdiv (pv 0) pe_int))
      (pss_one (ps_set (i := 1) sc_normal.nd rfl (Or.inl rfl) (pe_op op_sub (pv 1) pe_int)))))
      (pss_one (ps_ret (pe_tup (pa_cons (pv 0) (pa_cons (pv 1) pa_nil)))))), ?_⟩
    k_updF
    refine ⟨fun m σ H' => ∃ (a : Int) (n : Nat), σ = [some (.int a), some (.int (n : Int))] ∧ H' = H ∧ n = m ∧ MD.nrm a n = MD.nrm u s'.toNat, ⟨s'.toNat, u, s'.toNat, by rw [Int.toNat_of_nonneg hs]; rfl, rfl, rfl, rfl⟩, ?_⟩
    rintro m σ H' ⟨a, n, rfl, rfl, rfl, e⟩
    k_updF
    refine WP.br (fun c => ?_) (fun c => ?_)
    · k_updF
      refine WP.iC (show (0 : Int) < 10 by decide) ?_
      k_updF
      obtain ⟨n', rfl⟩ : ∃ n', n = n' + 1 := ⟨n - 1, by omega⟩
      refine WP.br (fun z => ?_) (fun z => ?_)
      · refine ⟨fun σ' H2 => ∃ m', m' < n' + 1 ∧ ∃ (a : Int) (n : Nat), σ' = [some (.int a), some (.int (n : Int))] ∧ H2 = H' ∧ n = m' ∧ MD.nrm a n = MD.nrm u s'.toNat, fun _ _ x => x, ?_⟩
        k_updF
        refine WP.iC ⟨by decide, by decide⟩ ?_
        k_updF
        refine ⟨n', by omega, a / 10, n', ?_, rfl, rfl, ?_⟩
        · rw [show ((n' + 1 : Nat) : Int) - 1 = (n' : Int) by omega]; rfl
        · rw [← e]
          show _ = if a % 10 = 0 then _ else _
          rw [if_pos z]
      · k_updF
        refine ⟨by show 2 ≤ sizeLine; exact WP.sz2, ?_⟩
        rw [← e, MD.nrm_self (.inr z)] at k
        exact k.new (Same.refl _)
    · k_updF
      obtain rfl : n = 0 := by omega
      refine WP.brF rfl ?_
      k_updF
      refine ⟨WP.sz2, ?_⟩
      rw [← e] at k
      exact k.new (Same.refl _)
end
abbrev s_fits : Stmt := top 9
abbrev N_fits : List Str := ["units", "digits"]
theorem sc_fits : FnScope N_fits ["units", "digits"] (defScope s_fits) := ⟨rfl, rfl, rfl, by decide +kernel, rfl, by decide +kernel, by decide +kernel⟩
def sp_fits (K : PySem.W.Frag) : Sp := fun vs H Q _ => ∃ u d : Int, vs = [.int u, .int d] ∧ d ≤ 3000 ∧ Q (.bl (decide (u.natAbs < 10 ^ d.toNat))) H
section
variable {P : Program} {w : World} {K : PySem.W.Frag} {mg : Str → Option Value} {base : Heap}
theorem ok_fits {f : Addr} {fd : FuncData} (F : Fun K "fits" "fits" s_fits f fd) (B : Blt K mg) (c_power : WP.Callee P w K mg base CX0 1 "power" ["exponent"] (sp_power K)) : FnOk P w K mg base CX0 2 f fd ["units", "digits"] (sp_fits K) := by
  refine F.ok sc_fits (fun vs H Q E h => ?_) (fun cdv A outer s H vs Q E hr h => ?_)
  · first | (obtain ⟨_, rfl, _⟩ := h; rfl) | (obtain ⟨_, _, rfl, _⟩ := h; rfl) | (obtain ⟨_, _, _, rfl, _⟩ := h; rfl) | (obtain ⟨_, _, _, _, rfl, _⟩ := h; rfl) | (obtain ⟨_, _, _, _, _, rfl, _⟩ := h; rfl) | (obtain ⟨_, _, _, _, _, _, rfl, _⟩ := h; rfl) | (obtain ⟨_, _, _, _, _, _, _, rfl, _⟩ := h; rfl) | (obtain ⟨_, _, _, _, _, _, _, _, rfl, _⟩ := h; rfl) | (obtain ⟨rfl, _⟩ := h; rfl)
  · obtain ⟨u, d, rfl, hd, k⟩ := h
    refine ⟨_, (pss_one (ps_ret (pe_cmpR op_lt (pe_callB WP.c_abs (by rfl) B.b_abs (by decide +kernel) (pa_cons (pv 0) pa_nil)) (WP.pe_callC c_power hr rfl pass0 (pa_cons (pv 1) pa_nil)) (nomark _)))), ?_⟩
    k_updF
    refine WP.absI ?_
    k_updF
    refine ⟨_, rfl, hd, ?_⟩
    have e : decide ((u.natAbs : Int) < (10 : Int) ^ d.toNat) = decide (u.natAbs < 10 ^ d.toNat) := by
      have c : ((10 : Int) ^ d.toNat) = ((10 ^ d.toNat : Nat) : Int) := by rw [Int.natCast_pow]; rfl
      rw [c]
      congr 1
      exact propext (by omega)
    k_updF
    rw [e]
    exact k
end
abbrev s_add : Stmt := top 4
abbrev N_add : List Str := ["a", "b", "scale"]
theorem sc_add : FnScope N_add ["a", "b"] (defScope s_add) := ⟨rfl, rfl, rfl, by decide +kernel, rfl, by decide +kernel, by decide +kernel⟩
/-- the sum, at the greater scale -/
def dsum (u : Int) (s : Nat) (x : Int) (t : Nat) : Int × Nat := MD.nrm (u * 10 ^ (max s t - s) + x * 10 ^ (max s t - t)) (max s t)
def sp_add (K : PySem.W.Frag) : Sp := fun vs H Q _ => ∃ (p q : Addr) (u : Int) (s : Nat) (x : Int) (t : Nat), vs = [.ref p, .ref q] ∧ SqT K H p (WP.dv u s) ∧ SqT K H q (WP.dv x t) ∧ s ≤ 1000 ∧ t ≤ 1000 ∧ WP.Bt u 100000 ∧ WP.Bt x 100000 ∧
  WP.RetT (WP.dv (dsum u s x t).1 (dsum u s x t).2) H Q
section
variable {P : Program} {w : World} {K : PySem.W.Frag} {mg : Str → Option Value} {base : Heap}
theorem ok_add {f : Addr} {fd : FuncData} (F : Fun K "add" "add" s_add f fd) (B : Blt K mg) (c_normal : WP.Callee P w K mg base CX0 1 "normal" ["units", "scale"] (sp_normal K)) (c_aligned : WP.Callee P w K mg base CX0 2 "aligned" ["a", "scale"] (sp_aligned K)) : FnOk P w K mg base CX0 3 f fd ["a", "b"] (sp_add K) := by
  refine F.ok sc_add (fun vs H Q E h => ?_) (fun cdv A outer s H vs Q E hr h => ?_)
  · first | (obtain ⟨_, rfl, _⟩ := h; rfl) | (obtain ⟨_, _, rfl, _⟩ := h; rfl) | (obtain ⟨_, _, _, rfl, _⟩ := h; rfl) | (obtain ⟨_, _, _, _, rfl, _⟩ := h; rfl) | (obtain ⟨_, _, _, _, _, rfl, _⟩ := h; rfl) | (obtain ⟨_, _, _, _, _, _, rfl, _⟩ := h; rfl) | (obtain ⟨_, _, _, _, _, _, _, rfl, _⟩ := h; rfl) | (obtain ⟨_, _, _, _, _, _, _, _, rfl, _⟩ := h; rfl) | (obtain ⟨rfl, _⟩ := h; rfl)
  · obtain ⟨p, q, u, s', x, t, rfl, hp, hq, hs, ht, hu, hx, k⟩ := h
    refine ⟨_, (pss_cons (ps_set (i := 2) sc_add.nd rfl (Or.inl rfl) (pe_callB (WP.c_max2 rfl) (by rfl) B.b_max (by decide +kernel) (pa_cons (pe_ix ix_tup (pv 0) pe_int (fun _ _ => rfl)) (pa_cons (pe_ix ix_tup (pv 1) pe_int (fun _ _ => rfl)) pa_nil))))
      (pss_one (ps_ret (WP.pe_callC c_normal hr rfl pass0 (pa_cons (pe_op op_add (WP.pe_callC c_aligned hr rfl pass0 (pa_cons (pv 0) (pa_cons (pv 2) pa_nil))) (WP.pe_callC c_aligned hr rfl pass0 (pa_cons (pv 1) (pa_cons (pv 2) pa_nil)))) (pa_cons (pv 2) pa_nil)))))), ?_⟩
    k_updF
    refine WP.ixT hp WP.at1 ?_
    k_updF
    refine WP.ixT hq WP.at1 ?_
    k_updF
    refine WP.maxI ?_
    rw [show max (s' : Int) (t : Int) = ((max s' t : Nat) : Int) by omega]
    k_updF
    refine ⟨p, u, s', _, rfl, hp, by omega, by omega, hu.mono (by decide), ?_⟩
    k_updF
    refine ⟨q, x, t, _, rfl, hq, by omega, by omega, hx.mono (by decide), ?_⟩
    k_updF
    refine ⟨_, _, rfl, by omega, ?_⟩
    rw [show (((max s' t : Nat) : Int) - (s' : Int)).toNat = max s' t - s' by omega, show (((max s' t : Nat) : Int) - (t : Int)).toNat = max s' t - t by omega, Int.toNat_natCast]
    exact k
end
abbrev s_negative : Stmt := top 7
abbrev N_negative : List Str := ["a", "units", "scale"]
theorem sc_negative : FnScope N_negative ["a"] (defScope s_negative) := ⟨rfl, rfl, rfl, by decide +kernel, rfl, by decide +kernel, by decide +kernel⟩
def sp_negative (K : PySem.W.Frag) : Sp := fun vs H Q _ => ∃ (p : Addr) (u : Int) (s : Nat), vs = [.ref p] ∧ SqT K H p (WP.dv u s) ∧ WP.RetT (WP.dv (-u) s) H Q
section
variable {P : Program} {w : World} {K : PySem.W.Frag} {mg : Str → Option Value} {base : Heap}
theorem ok_negative {f : Addr} {fd : FuncData} (F : Fun K "negative" "negative" s_negative f fd) (B : Blt K mg)  : FnOk P w K mg base CX0 1 f fd ["a"] (sp_negative K) := by
  refine F.ok sc_negative (fun vs H Q E h => ?_) (fun cdv A outer s H vs Q E hr h => ?_)
  · first | (obtain ⟨_, rfl, _⟩ := h; rfl) | (obtain ⟨_, _, rfl, _⟩ := h; rfl) | (obtain ⟨_, _, _, rfl, _⟩ := h; rfl) | (obtain ⟨_, _, _, _, rfl, _⟩ := h; rfl) | (obtain ⟨_, _, _, _, _, rfl, _⟩ := h; rfl) | (obtain ⟨_, _, _, _, _, _, rfl, _⟩ := h; rfl) | (obtain ⟨_, _, _, _, _, _, _, rfl, _⟩ := h; rfl) | (obtain ⟨_, _, _, _, _, _, _, _, rfl, _⟩ := h; rfl) | (obtain ⟨rfl, _⟩ := h; rfl)
  · obtain ⟨p, u, s', rfl, hp, k⟩ := h
    refine ⟨_, (pss_cons (ps_asg (pv 0) (pg_tup (by rfl) (pgs_cons (pg_name (i := 1) sc_negative.nd rfl (Or.inl rfl)) (pgs_cons (pg_name (i := 2) sc_negative.nd rfl (Or.inl rfl)) pgs_nil))))
      (pss_one (ps_ret (pe_tup (pa_cons (pe_un un_neg (pv 1)) (pa_cons (pv 2) pa_nil)))))), ?_⟩
    k_updF
    refine WP.unT hp rfl ?_
    k_updF
    exact ⟨WP.sz2, k.new (Same.refl _)⟩
end
abbrev s_subtract : Stmt := top 5
abbrev N_subtract : List Str := ["a", "b"]
theorem sc_subtract : FnScope N_subtract ["a", "b"] (defScope s_subtract) := ⟨rfl, rfl, rfl, by decide +kernel, rfl, by decide +kernel, by decide +kernel⟩
def sp_subtract (K : PySem.W.Frag) : Sp := fun vs H Q _ => ∃ (p q : Addr) (u : Int) (s : Nat) (x : Int) (t : Nat), vs = [.ref p, .ref q] ∧ SqT K H p (WP.dv u s) ∧ SqT K H q (WP.dv x t) ∧ s ≤ 1000 ∧ t ≤ 1000 ∧ WP.Bt u 100000 ∧ WP.Bt x 100000 ∧
  WP.RetT (WP.dv (dsum u s (-x) t).1 (dsum u s (-x) t).2) H Q
section
variable {P : Program} {w : World} {K : PySem.W.Frag} {mg : Str → Option Value} {base : Heap}
theorem ok_subtract {f : Addr} {fd : FuncData} (F : Fun K "subtract" "subtract" s_subtract f fd) (B : Blt K mg) (c_add : WP.Callee P w K mg base CX0 3 "add" ["a", "b"] (sp_add K)) (c_negative : WP.Callee P w K mg base CX0 1 "negative" ["a"] (sp_negative K)) : FnOk P w K mg base CX0 4 f fd ["a", "b"] (sp_subtract K) := by
  refine F.ok sc_subtract (fun vs H Q E h => ?_) (fun cdv A outer s H vs Q E hr h => ?_)
  · first | (obtain ⟨_, rfl, _⟩ := h; rfl) | (obtain ⟨_, _, rfl, _⟩ := h; rfl) | (obtain ⟨_, _, _, rfl, _⟩ := h; rfl) | (obtain ⟨_, _, _, _, rfl, _⟩ := h; rfl) | (obtain ⟨_, _, _, _, _, rfl, _⟩ := h; rfl) | (obtain ⟨_, _, _, _, _, _, rfl, _⟩ := h; rfl) | (obtain ⟨_, _, _, _, _, _, _, rfl, _⟩ := h; rfl) | (obtain ⟨_, _, _, _, _, _, _, _, rfl, _⟩ := h; rfl) | (obtain ⟨rfl, _⟩ := h; rfl)
  · obtain ⟨p, q, u, s', x, t, rfl, hp, hq, hs, ht, hu, hx, k⟩ := h
    refine ⟨_, (pss_one (ps_ret (WP.pe_callC c_add hr rfl pass0 (pa_cons (pv 0) (pa_cons (WP.pe_callC c_negative hr rfl pass0 (pa_cons (pv 1) pa_nil)) pa_nil))))), ?_⟩
    k_updF
    refine ⟨q, x, t, rfl, hq, fun r H' e hr' => ?_⟩
    refine ⟨p, r, u, s', -x, t, rfl, WP.sqt e hp, SqT.of hr', hs, ht, hu, hx.neg, fun r2 H2 e2 h2 => k r2 H2 (e.trans e2) h2⟩
end
abbrev s_multiply : Stmt := top 6
abbrev N_multiply : List Str := ["a", "b"]
theorem sc_multiply : FnScope N_multiply ["a", "b"] (defScope s_multiply) := ⟨rfl, rfl, rfl, by decide +kernel, rfl, by decide +kernel, by decide +kernel⟩
def sp_multiply (K : PySem.W.Frag) : Sp := fun vs H Q _ => ∃ (p q : Addr) (u : Int) (s : Nat) (x : Int) (t : Nat), vs = [.ref p, .ref q] ∧ SqT K H p (WP.dv u s) ∧ SqT K H q (WP.dv x t) ∧ WP.Bt u 100000 ∧ WP.Bt x 100000 ∧
  WP.RetT (WP.dv (MD.nrm (u * x) (s + t)).1 (MD.nrm (u * x) (s + t)).2) H Q
section
variable {P : Program} {w : World} {K : PySem.W.Frag} {mg : Str → Option Value} {base : Heap}
theorem ok_multiply {f : Addr} {fd : FuncData} (F : Fun K "multiply" "multiply" s_multiply f fd) (B : Blt K mg) (c_normal : WP.Callee P w K mg base CX0 1 "normal" ["units", "scale"] (sp_normal K)) : FnOk P w K mg base CX0 2 f fd ["a", "b"] (sp_multiply K) := by
  refine F.ok sc_multiply (fun vs H Q E h => ?_) (fun cdv A outer s H vs Q E hr h => ?_)
  · first | (obtain ⟨_, rfl, _⟩ := h; rfl) | (obtain ⟨_, _, rfl, _⟩ := h; rfl) | (obtain ⟨_, _, _, rfl, _⟩ := h; rfl) | (obtain ⟨_, _, _, _, rfl, _⟩ := h; rfl) | (obtain ⟨_, _, _, _, _, rfl, _⟩ := h; rfl) | (obtain ⟨_, _, _, _, _, _, rfl, _⟩ := h; rfl) | (obtain ⟨_, _, _, _, _, _, _, rfl, _⟩ := h; rfl) | (obtain ⟨_, _, _, _, _, _, _, _, rfl, _⟩ := h; rfl) | (obtain ⟨rfl, _⟩ := h; rfl)
  · obtain ⟨p, q, u, s', x, t, rfl, hp, hq, hu, hx, k⟩ := h
    refine ⟨_, (pss_one (ps_ret (WP.pe_callC c_normal hr rfl pass0 (pa_cons (pe_op op_mulW (pe_ix ix_tup (pv 0) pe_int (fun _ _ => rfl)) (pe_ix ix_tup (pv 1) pe_int (fun _ _ => rfl))) (pa_cons (pe_op op_add (pe_ix ix_tup (pv 0) pe_int (fun _ _ => rfl)) (pe_ix ix_tup (pv 1) pe_int (fun _ _ => rfl))) pa_nil))))), ?_⟩
    k_updF
    refine WP.ixT hp WP.at0 ?_
    k_updF
    refine WP.ixT hq WP.at0 ?_
    refine WP.iC (hu.w hx) ?_
    k_updF
    refine WP.ixT hp WP.at1 ?_
    k_updF
    refine WP.ixT hq WP.at1 ?_
    k_updF
    refine ⟨_, _, rfl, by omega, ?_⟩
    rw [show ((s' : Int) + (t : Int)).toNat = s' + t by omega]
    exact k
end
abbrev s_law : Stmt := top 18
abbrev N_law : List Str := ["script", "k", "rich", "a", "b", "scale", "left", "right", "sign", "more", "digits"]
theorem sc_law : FnScope N_law ["script"] (defScope s_law) := ⟨rfl, rfl, rfl, by decide +kernel, rfl, by decide +kernel, by decide +kernel⟩
def sp_law (K : PySem.W.Frag) : Sp := fun vs H Q _ => ∃ (a : Addr) (ns : List Int), vs = [.ref a] ∧ SqL K H a (ns.map V.int) ∧ ns.length ≤ 63 ∧ ∀ H', Q (.bl true) H'
theorem bt18 {u : Int} (h : u.natAbs ≤ 10 ^ 18) : WP.Bt u 60 := Nat.lt_of_le_of_lt h (by decide)
theorem dcmp_swap (u : Int) (s : Nat) (x : Int) (t : Nat) : dcmp x t u s = -dcmp u s x t := by
  unfold dcmp
  rw [Nat.max_comm t s]
  simp only
  split <;> split <;> (try split) <;> (try split) <;> omega
theorem dcmp_self (u : Int) (s : Nat) : dcmp u s u s = 0 := by
  unfold dcmp
  simp
section
variable {P : Program} {w : World} {K : PySem.W.Frag} {mg : Str → Option Value} {base : Heap}
theorem ok_law {f : Addr} {fd : FuncData} (F : Fun K "law" "law" s_law f fd) (B : Blt K mg) (c__law_rich : WP.Callee P w K mg base CX0 1 "_law_rich" ["cell", "k"] (sp__law_rich K)) (c__law_number : WP.Callee P w K mg base CX0 2 "_law_number" ["rich"] (sp__law_number K)) (c__law_cell : WP.Callee P w K mg base CX0 1 "_law_cell" ["script", "k"] (sp__law_cell K)) (c__law_ten : WP.Callee P w K mg base CX0 1 "_law_ten" ["scale"] (sp__law_ten K)) (c__law_is : WP.Callee P w K mg base CX0 2 "_law_is" ["value", "units", "scale"] (sp__law_is K)) (c_compare : WP.Callee P w K mg base CX0 3 "compare" ["a", "b"] (sp_compare K)) (c_normal : WP.Callee P w K mg base CX0 1 "normal" ["units", "scale"] (sp_normal K)) (c_aligned : WP.Callee P w K mg base CX0 2 "aligned" ["a", "scale"] (sp_aligned K)) (c_power : WP.Callee P w K mg base CX0 1 "power" ["exponent"] (sp_power K)) (c_fits : WP.Callee P w K mg base CX0 2 "fits" ["units", "digits"] (sp_fits K)) (c_add : WP.Callee P w K mg base CX0 3 "add" ["a", "b"] (sp_add K)) (c_subtract : WP.Callee P w K mg base CX0 4 "subtract" ["a", "b"] (sp_subtract K)) (c_multiply : WP.Callee P w K mg base CX0 2 "multiply" ["a", "b"] (sp_multiply K)) (c_negative : WP.Callee P w K mg base CX0 1 "negative" ["a"] (sp_negative K)) : FnOk P w K mg base CX0 5 f fd ["script"] (sp_law K) := by
  refine F.ok sc_law (fun vs H Q E h => ?_) (fun cdv A outer s H vs Q E hr h => ?_)
  · first | (obtain ⟨_, rfl, _⟩ := h; rfl) | (obtain ⟨_, _, rfl, _⟩ := h; rfl) | (obtain ⟨_, _, _, rfl, _⟩ := h; rfl) | (obtain ⟨_, _, _, _, rfl, _⟩ := h; rfl) | (obtain ⟨_, _, _, _, _, rfl, _⟩ := h; rfl) | (obtain ⟨_, _, _, _, _, _, rfl, _⟩ := h; rfl) | (obtain ⟨_, _, _, _, _, _, _, rfl, _⟩ := h; rfl) | (obtain ⟨_, _, _, _, _, _, _, _, rfl, _⟩ := h; rfl) | (obtain ⟨rfl, _⟩ := h; rfl)
  · obtain ⟨a, ns, rfl, ha, hl, k⟩ := h
    refine ⟨_, (pss_cons (ps_for PassesOwn.never rfl (pi_range1 rfl B.b_range (pa_cons (pe_callB (WP.c_max2 rfl) (by rfl) B.b_max (by decide +kernel) (pa_cons pe_int (pa_cons (pe_callB (WP.c_min2 rfl) (by rfl) B.b_min (by decide +kernel) (pa_cons pe_int (pa_cons (pe_callB WP.c_len (by rfl) B.b_len (by decide +kernel) (pa_cons (pv 0) pa_nil)) pa_nil))) pa_nil))) pa_nil)) (pg_name (i := 1) sc_law.nd rfl (Or.inl rfl)) (pss_cons (ps_set (i := 2) sc_law.nd rfl (Or.inl rfl) (WP.pe_callC c__law_rich hr rfl pass0 (pa_cons (WP.pe_callC c__law_cell hr rfl pass0 (pa_cons (pv 0) (pa_cons (pv 1) pa_nil))) (pa_cons (pv 1) pa_nil))))
      (pss_cons (ps_set (i := 3) sc_law.nd rfl (Or.inl rfl) (WP.pe_callC c__law_number hr rfl pass0 (pa_cons (pv 2) pa_nil)))
      (pss_cons (ps_set (i := 4) sc_law.nd rfl (Or.inl rfl) (WP.pe_callC c__law_number hr rfl pass0 (pa_cons (pe_op op_add (pe_op op_fdiv (pv 2) pe_int) (pe_op op_mul pe_int (pv 1))) pa_nil)))
      (Evl.pss_cut (ps_if (pt_cmpR op_eq (pe_op op_mod (pv 2) pe_int) pe_int (nomark _)) (pss_one (ps_set (i := 4) sc_law.nd rfl (Or.inl rfl) (pe_tup (pa_cons (pe_un un_neg (pe_ix ix_tup (pv 3) pe_int (fun _ _ => rfl))) (pa_cons (pe_ix ix_tup (pv 3) pe_int (fun _ _ => rfl)) pa_nil))))) pss_nil)
      (pss_cons (ps_set (i := 5) sc_law.nd rfl (Or.inl rfl) (pe_callB (WP.c_max2 rfl) (by rfl) B.b_max (by decide +kernel) (pa_cons (pe_ix ix_tup (pv 3) pe_int (fun _ _ => rfl)) (pa_cons (pe_ix ix_tup (pv 4) pe_int (fun _ _ => rfl)) pa_nil))))
      (pss_cons (ps_set (i := 6) sc_law.nd rfl (Or.inl rfl) (pe_op op_mulW (pe_ix ix_tup (pv 3) pe_int (fun _ _ => rfl)) (WP.pe_callC c__law_ten hr rfl pass0 (pa_cons (pe_op op_sub (pv 5) (pe_ix ix_tup (pv 3) pe_int (fun _ _ => rfl))) pa_nil))))
      (pss_cons (ps_set (i := 7) sc_law.nd rfl (Or.inl rfl) (pe_op op_mulW (pe_ix ix_tup (pv 4) pe_int (fun _ _ => rfl)) (WP.pe_callC c__law_ten hr rfl pass0 (pa_cons (pe_op op_sub (pv 5) (pe_ix ix_tup (pv 4) pe_int (fun _ _ => rfl))) pa_nil))))
      (pss_cons (ps_if (PW.pt (pw_or (pt_not (pt_val (WP.pe_callC c__law_is hr rfl pass0 (pa_cons (WP.pe_callC c_add hr rfl pass0 (pa_cons (pv 3) (pa_cons (pv 4) pa_nil))) (pa_cons (pe_op op_add (pv 6) (pv 7)) (pa_cons (pv 5) pa_nil)))))) (pw_or1 (pt_not (pt_val (WP.pe_callC c__law_is hr rfl pass0 (pa_cons (WP.pe_callC c_subtract hr rfl pass0 (pa_cons (pv 3) (pa_cons (pv 4) pa_nil))) (pa_cons (pe_op op_sub (pv 6) (pv 7)) (pa_cons (pv 5) pa_nil))))))))) (pss_one (ps_ret pe_bl)) pss_nil)
      (pss_cons (ps_if (PW.pt (pw_or (pt_not (pt_val (WP.pe_callC c__law_is hr rfl pass0 (pa_cons (WP.pe_callC c_multiply hr rfl pass0 (pa_cons (pv 3) (pa_cons (pv 4) pa_nil))) (pa_cons (pe_op op_mulW (pe_ix ix_tup (pv 3) pe_int (fun _ _ => rfl)) (pe_ix ix_tup (pv 4) pe_int (fun _ _ => rfl))) (pa_cons (pe_op op_add (pe_ix ix_tup (pv 3) pe_int (fun _ _ => rfl)) (pe_ix ix_tup (pv 4) pe_int (fun _ _ => rfl))) pa_nil)))))) (pw_or1 (pt_not (pt_val (WP.pe_callC c__law_is hr rfl pass0 (pa_cons (WP.pe_callC c_negative hr rfl pass0 (pa_cons (pv 3) pa_nil)) (pa_cons (pe_un un_neg (pe_ix ix_tup (pv 3) pe_int (fun _ _ => rfl))) (pa_cons (pe_ix ix_tup (pv 3) pe_int (fun _ _ => rfl)) pa_nil))))))))) (pss_one (ps_ret pe_bl)) pss_nil)
      (pss_cons (ps_set (i := 8) sc_law.nd rfl (Or.inl rfl) pe_int)
      (Evl.pss_cut (ps_if (pt_cmpR op_ne (pv 6) (pv 7) (nomark _)) (pss_one (ps_set (i := 8) sc_law.nd rfl (Or.inl rfl) (pe_ifExp (pt_cmpR op_gt (pv 6) (pv 7) (nomark _)) pe_int (pe_un un_neg pe_int)))) pss_nil)
      (pss_cons (ps_if (PW.pt (pw_or (pt_cmpR op_ne (WP.pe_callC c_compare hr rfl pass0 (pa_cons (pv 3) (pa_cons (pv 4) pa_nil))) (pv 8) (nomark _)) (pw_or (pt_cmpR op_ne (WP.pe_callC c_compare hr rfl pass0 (pa_cons (pv 4) (pa_cons (pv 3) pa_nil))) (pe_un un_neg (pv 8)) (nomark _)) (pw_or1 (pt_cmpR op_ne (WP.pe_callC c_compare hr rfl pass0 (pa_cons (pv 3) (pa_cons (pv 3) pa_nil))) pe_int (nomark _)))))) (pss_one (ps_ret pe_bl)) pss_nil)
      (pss_cons (ps_set (i := 9) sc_law.nd rfl (Or.inl rfl) (pe_op op_mod (pe_op op_fdiv (pv 2) pe_int) pe_int))
      (pss_cons (ps_if (PW.pt (pw_or (pt_cmpR (op_neD hr.units) (WP.pe_callC c_normal hr rfl pass0 (pa_cons (pe_op op_mulW (pe_ix ix_tup (pv 3) pe_int (fun _ _ => rfl)) (WP.pe_callC c__law_ten hr rfl pass0 (pa_cons (pv 9) pa_nil))) (pa_cons (pe_op op_add (pe_ix ix_tup (pv 3) pe_int (fun _ _ => rfl)) (pv 9)) pa_nil))) (pv 3) (nomark _)) (pw_or1 (pt_cmpR op_ne (WP.pe_callC c_aligned hr rfl pass0 (pa_cons (pv 3) (pa_cons (pe_op op_add (pe_ix ix_tup (pv 3) pe_int (fun _ _ => rfl)) (pv 9)) pa_nil))) (pe_op op_mulW (pe_ix ix_tup (pv 3) pe_int (fun _ _ => rfl)) (WP.pe_callC c__law_ten hr rfl pass0 (pa_cons (pv 9) pa_nil))) (nomark _))))) (pss_one (ps_ret pe_bl)) pss_nil)
      (pss_cons (ps_set (i := 10) sc_law.nd rfl (Or.inl rfl) (pe_op op_mod (pe_op op_fdiv (pv 2) pe_int) pe_int))
      (pss_one (ps_if (PW.pt (pw_or (pt_cmpR op_ne (WP.pe_callC c_power hr rfl pass0 (pa_cons (pv 10) pa_nil)) (WP.pe_callC c__law_ten hr rfl pass0 (pa_cons (pv 10) pa_nil)) (nomark _)) (pw_or1 (pt_cmpR op_ne (WP.pe_callC c_fits hr rfl pass0 (pa_cons (pe_ix ix_tup (pv 3) pe_int (fun _ _ => rfl)) (pa_cons (pv 10) pa_nil))) (pe_cmpR op_lt (pe_callB WP.c_abs (by rfl) B.b_abs (by decide +kernel) (pa_cons (pe_ix ix_tup (pv 3) pe_int (fun _ _ => rfl)) pa_nil)) (WP.pe_callC c__law_ten hr rfl pass0 (pa_cons (pv 10) pa_nil)) (nomark _)) (nomark _))))) (pss_one (ps_ret pe_bl)) pss_nil))))))))))))))))))
      (pss_one (ps_ret pe_bl))), ?_⟩
    k_updF
    refine WP.lenL ha ?_
    k_updF
    refine WP.minI ?_
    k_updF
    refine WP.maxI ?_
    k_updF
    rw [List.length_map]
    refine ⟨_, rfl, by omega, by omega, for_range (lo := 0) (n := _) (fun i σ' H' => (∃ z1 z2 z3 z4 z5 z6 z7 z8 z9 z10, σ' = [some (.ref a), z1, z2, z3, z4, z5, z6, z7, z8, z9, z10]) ∧ Same H H') ⟨⟨_, _, _, _, _, _, _, _, _, _, rfl⟩, Same.refl _⟩ ?_ ?_⟩
    rotate_left
    · rintro σ' H' ⟨_, _⟩
      k_updF
      exact k _
    rintro i σ' H1 hi ⟨⟨z1, z2, z3, z4, z5, z6, z7, z8, z9, z10, rfl⟩, e1⟩
    k_updF
    refine ⟨a, ns, _, rfl, WP.sql e1 ha, by omega, fun c => ?_⟩
    k_updF
    refine ⟨c, _, rfl, fun rich hr0 => ?_⟩
    k_updF
    refine ⟨_, rfl, fun ua sa da la ba p H2 e2 hp => ?_⟩
    k_updF
    refine WP.iC ⟨by decide, by decide⟩ ?_
    k_updF
    refine WP.iC (.inl (by decide)) ?_
    k_updF
    refine ⟨_, rfl, fun ub sb db lb bb q H3 e3 hq => ?_⟩
    k_updF
    refine WP.cut (fun σ' H' => ∃ (q : Addr) (ub : Int) (sb : Nat), σ' = [some (.ref a), some (.int (0 + (i : Int))), some (.int rich), some (.ref p), some (.ref q), z5, z6, z7, z8, z9, z10] ∧ Same H3 H' ∧ H' q = some (.tup (WP.dv ub sb)) ∧ MD.Dec ub sb ∧ sb ≤ 18 ∧ ub.natAbs ≤ 10 ^ 18) ?_ ?_
    · k_updF
      refine WP.iC (by decide) ?_
      k_updF
      refine WP.br (fun c => ?_) (fun c => ?_)
      · k_updF
        refine WP.ixT (SqT.of (e3 _ _ hp)) WP.at0 ?_
        k_updF
        refine WP.ixT (SqT.of (e3 _ _ hp)) WP.at1 ?_
        k_updF
        refine ⟨WP.sz2, fun r hr => ?_⟩
        k_updF
        refine ⟨r, -ua, sa, rfl, WP.same_new hr, upd_same, ?_, la, by rw [Int.natAbs_neg]; exact ba⟩
        rcases da with h | h
        · exact .inl h
        · exact .inr (by omega)
      · k_updF
        exact ⟨q, ub, sb, rfl, Same.refl _, hq, db, lb, bb⟩
    clear hq db lb bb q ub sb
    rintro σ' H4 ⟨q, ub, sb, rfl, e4, hq, db, lb, bb⟩
    have hp4 : H4 p = some (.tup (WP.dv ua sa)) := e4 _ _ (e3 _ _ hp)
    have tp := SqT.of (K := K) hp4
    have tq := SqT.of (K := K) hq
    have Ba := bt18 ba
    have Bb := bt18 bb
    k_updF
    refine WP.ixT tp WP.at1 ?_
    k_updF
    refine WP.ixT tq WP.at1 ?_
    k_updF
    refine WP.maxI ?_
    rw [show max (sa : Int) (sb : Int) = ((max sa sb : Nat) : Int) by omega]
    generalize hm : max sa sb = m
    have hma : sa ≤ m := by omega
    have hmb : sb ≤ m := by omega
    have hm18 : m ≤ 18 := by omega
    k_updF
    refine WP.ixT tp WP.at0 ?_
    k_updF
    refine WP.ixT tp WP.at1 ?_
    k_updF
    refine ⟨_, rfl, by omega, by omega, ?_⟩
    rw [show ((m : Int) - (sa : Int)).toNat = m - sa by omega]
    refine WP.iC (Ba.w (WP.Bt.ten _)) ?_
    k_updF
    refine WP.ixT tq WP.at0 ?_
    k_updF
    refine WP.ixT tq WP.at1 ?_
    k_updF
    refine ⟨_, rfl, by omega, by omega, ?_⟩
    rw [show ((m : Int) - (sb : Int)).toNat = m - sb by omega]
    refine WP.iC (Bb.w (WP.Bt.ten _)) ?_
    have BL : WP.Bt (ua * 10 ^ (m - sa)) 200 := (Ba.mul (WP.Bt.ten _)).mono (by omega)
    have BR : WP.Bt (ub * 10 ^ (m - sb)) 200 := (Bb.mul (WP.Bt.ten _)).mono (by omega)
    have BRn : WP.Bt (-ub * 10 ^ (m - sb)) 200 := (Bb.neg.mul (WP.Bt.ten _)).mono (by omega)
    have eC : dcmp ua sa ub sb = if ua * 10 ^ (m - sa) - ub * 10 ^ (m - sb) < 0 then -1 else if 0 < ua * 10 ^ (m - sa) - ub * 10 ^ (m - sb) then 1 else 0 := by unfold dcmp; rw [hm]
    have eS : dsum ua sa ub sb = MD.nrm (ua * 10 ^ (m - sa) + ub * 10 ^ (m - sb)) m := by unfold dsum; rw [hm]
    have eD : dsum ua sa (-ub) sb = MD.nrm (ua * 10 ^ (m - sa) - ub * 10 ^ (m - sb)) m := by unfold dsum; rw [hm, Int.neg_mul, ← Int.sub_eq_add_neg]
    generalize hL : ua * 10 ^ (m - sa) = L at *
    generalize hR : ub * 10 ^ (m - sb) = R at *
    k_updF
    refine ⟨p, q, ua, sa, ub, sb, rfl, tp, tq, by omega, by omega, Ba.mono (by decide), Bb.mono (by decide), ?_⟩
    rw [eS]
    intro r5 H5 e5 h5
    k_updF
    have l1 := MD.nrm_le m (L + R)
    refine ⟨r5, _, _, _, _, rfl, h5, MD.nrm_dec _ _, by omega, by omega, by omega, (MD.nrm_bt (BL.add BR)).mono (by omega), (BL.add BR).mono (by decide), MD.nrm_eq _ _, ?_⟩
    k_updF
    refine WP.brF rfl ?_
    k_updF
    refine ⟨p, q, ua, sa, ub, sb, rfl, WP.sqt e5 tp, WP.sqt e5 tq, by omega, by omega, Ba.mono (by decide), Bb.mono (by decide), ?_⟩
    rw [eD]
    intro r6 H6 e6 h6
    k_updF
    have l2 := MD.nrm_le m (L - R)
    refine ⟨r6, _, _, _, _, rfl, h6, MD.nrm_dec _ _, by omega, by omega, by omega, (MD.nrm_bt (BL.sub BR)).mono (by omega), (BL.sub BR).mono (by decide), MD.nrm_eq _ _, ?_⟩
    k_updF
    refine WP.brF rfl ?_
    have e46 := e5.trans e6
    have tp6 := WP.sqt e46 tp
    have tq6 := WP.sqt e46 tq
    k_updF
    refine ⟨p, q, ua, sa, ub, sb, rfl, tp6, tq6, Ba.mono (by decide), Bb.mono (by decide), fun r7 H7 e7 h7 => ?_⟩
    k_updF
    refine WP.ixT (WP.sqt e7 tp6) WP.at0 ?_
    k_updF
    refine WP.ixT (WP.sqt e7 tq6) WP.at0 ?_
    refine WP.iC (Ba.w Bb) ?_
    k_updF
    refine WP.ixT (WP.sqt e7 tp6) WP.at1 ?_
    k_updF
    refine WP.ixT (WP.sqt e7 tq6) WP.at1 ?_
    k_updF
    have l3 := MD.nrm_le (sa + sb) (ua * ub)
    have Bab := Ba.mul Bb
    refine ⟨r7, _, _, _, _, rfl, h7, MD.nrm_dec _ _, by omega, by omega, by omega, (MD.nrm_bt Bab).mono (by omega), Bab.mono (by decide), ?_, ?_⟩
    · rw [show ((sa : Int) + (sb : Int)).toNat = sa + sb by omega]; exact MD.nrm_eq _ _
    k_updF
    refine WP.brF rfl ?_
    have tp7 := WP.sqt e7 tp6
    have tq7 := WP.sqt e7 tq6
    k_updF
    refine ⟨p, ua, sa, rfl, tp7, fun r8 H8 e8 h8 => ?_⟩
    have tp8 := WP.sqt e8 tp7
    have tq8 := WP.sqt e8 tq7
    k_updF
    refine WP.ixT tp8 WP.at0 ?_
    k_updF
    refine WP.ixT tp8 WP.at1 ?_
    k_updF
    have dn : MD.Dec (-ua) sa := by
      rcases da with h | h
      · exact .inl h
      · exact .inr (by omega)
    refine ⟨r8, _, _, _, _, rfl, h8, dn, by omega, by omega, by omega, Ba.neg.mono (by decide), Ba.neg.mono (by decide), by rw [Int.toNat_natCast], ?_⟩
    k_updF
    refine WP.brF rfl ?_
    k_updF
    refine WP.cut (fun σ' H' => H' = H8 ∧ ∃ z9 z10, σ' = [some (.ref a), some (.int (0 + (i : Int))), some (.int rich), some (.ref p), some (.ref q), some (.int (m : Int)), some (.int L), some (.int R), some (.int (dcmp ua sa ub sb)), z9, z10]) ?_ ?_
    · k_updF
      refine WP.brN (fun c => ?_) (fun c => ?_)
      · k_updF
        refine WP.br (fun c2 => ?_) (fun c2 => ?_)
        · k_updF
          refine ⟨rfl, z9, z10, ?_⟩
          rw [eC, if_neg (by omega), if_pos (by omega)]
          rfl
        · k_updF
          refine ⟨rfl, z9, z10, ?_⟩
          rw [eC, if_pos (by omega)]
          rfl
      · k_updF
        refine ⟨rfl, z9, z10, ?_⟩
        rw [eC, if_neg (by omega), if_neg (by omega)]
        rfl
    rintro σ' H9 ⟨rfl, y9, y10, rfl⟩
    k_updF
    refine ⟨p, q, ua, sa, ub, sb, rfl, tp8, tq8, by omega, by omega, Ba.mono (by decide), Bb.mono (by decide), ?_⟩
    k_updF
    k_updF
    refine WP.brF (by simp) ?_
    k_updF
    refine ⟨q, p, ub, sb, ua, sa, rfl, tq8, tp8, by omega, by omega, Bb.mono (by decide), Ba.mono (by decide), ?_⟩
    k_updF
    k_updF
    refine WP.brF (by rw [dcmp_swap]; simp) ?_
    k_updF
    refine ⟨p, p, ua, sa, ua, sa, rfl, tp8, tp8, by omega, by omega, Ba.mono (by decide), Ba.mono (by decide), ?_⟩
    k_updF
    k_updF
    refine WP.brF (by rw [dcmp_self]; rfl) ?_
    k_updF
    refine WP.iC ⟨by decide, by decide⟩ ?_
    k_updF
    refine WP.iC (by decide) ?_
    have m0 := Int.emod_nonneg (rich / 5) (show (9 : Int) ≠ 0 by decide)
    have m1 := Int.emod_lt_of_pos (rich / 5) (show (0 : Int) < 9 by decide)
    obtain ⟨mo, hmo⟩ : ∃ mo : Nat, rich / 5 % 9 = (mo : Int) := ⟨(rich / 5 % 9).toNat, by omega⟩
    rw [hmo] at m0 m1 ⊢
    k_updF
    refine WP.ixT tp8 WP.at0 ?_
    k_updF
    refine ⟨_, rfl, by omega, by omega, ?_⟩
    rw [Int.toNat_natCast]
    refine WP.iC (Ba.w (WP.Bt.ten _)) ?_
    k_updF
    refine WP.ixT tp8 WP.at1 ?_
    k_updF
    refine ⟨_, _, rfl, by omega, ?_⟩
    rw [show ((sa : Int) + (mo : Int)).toNat = sa + mo by omega, MD.nrm_up, MD.nrm_self da]
    intro r10 H10 e10 h10
    have tp10 := WP.sqt e10 tp8
    have tq10 := WP.sqt e10 tq8
    k_updF
    refine WP.neD (WP.dpv (SqT.of h10)) (WP.dpv tp10) ?_
    k_updF
    k_updF
    refine WP.brF (by rw [SeqAt.eqv_refl _ (by rfl)]; rfl) ?_
    k_updF
    refine WP.ixT tp10 WP.at1 ?_
    k_updF
    refine ⟨p, ua, sa, _, rfl, tp10, by omega, by omega, Ba.mono (by decide), ?_⟩
    rw [show ((sa : Int) + (mo : Int) - (sa : Int)).toNat = mo by omega]
    k_updF
    refine WP.ixT tp10 WP.at0 ?_
    k_updF
    refine ⟨_, rfl, by omega, by omega, ?_⟩
    rw [Int.toNat_natCast]
    refine WP.iC (Ba.w (WP.Bt.ten _)) ?_
    k_updF
    k_updF
    refine WP.brF (by simp) ?_
    k_updF
    refine WP.iC ⟨by decide, by decide⟩ ?_
    k_updF
    refine WP.iC (by decide) ?_
    have d0 := Int.emod_nonneg (rich / 45) (show (20 : Int) ≠ 0 by decide)
    have d1 := Int.emod_lt_of_pos (rich / 45) (show (0 : Int) < 20 by decide)
    k_updF
    refine ⟨_, rfl, by omega, ?_⟩
    k_updF
    refine ⟨_, rfl, by omega, by omega, ?_⟩
    k_updF
    k_updF
    refine WP.brF (by simp) ?_
    k_updF
    refine WP.ixT tp10 WP.at0 ?_
    k_updF
    refine ⟨_, _, rfl, by omega, ?_⟩
    k_updF
    refine WP.ixT tp10 WP.at0 ?_
    k_updF
    refine WP.absI ?_
    k_updF
    refine ⟨_, rfl, by omega, by omega, ?_⟩
    k_updF
    have e : decide ((ua.natAbs : Int) < (10 : Int) ^ (rich / 45 % 20).toNat) = decide (ua.natAbs < 10 ^ (rich / 45 % 20).toNat) := by
      have c : ((10 : Int) ^ (rich / 45 % 20).toNat) = ((10 ^ (rich / 45 % 20).toNat : Nat) : Int) := by rw [Int.natCast_pow]; rfl
      rw [c]
      congr 1
      exact propext (by omega)
    rw [e]
    k_updF
    refine WP.brF (by simp) ?_
    k_updF
    exact ⟨⟨_, _, _, _, _, _, _, _, _, _, rfl⟩, e1.trans (e2.trans (e3.trans (e4.trans (e46.trans (e7.trans (e8.trans e10))))))⟩
end
theorem all_mk {l : PySem.W.OpenLaw} {w : World} {K : PySem.W.Frag} {h : Heap} {mg : Str → Option Value} {fa : Addr} (X : K.In h) (G : h.Ns mainGlobals mg) (hfa : mg "law" = some (.ref fa))
    {fx0 : Addr} {odx0 anx0 : Option Addr} {slx0 : Array (Option Value)} {ocx0 kVx0 dcx0 pmx0 cdx0 ctx0 : Value}
    (ax0 : PySem.W.nsIn K mainGlobals "_law_rich" = some (some (.ref fx0))) (lx0 : K.lookup fx0 = some ⟨ocx0, odx0, .func (PySem.W.fnOf "_law_rich" "_law_rich" (defArgs s__law_rich) (defBody s__law_rich) (defScope s__law_rich) .none kVx0 dcx0 pmx0 anx0 cdx0 ctx0), slx0⟩) (cx0 : PySem.W.codeIn K cdx0 "_law_rich" = true) (kx0 : PySem.W.keepIn K (.ref fx0) = true)
    {fx1 : Addr} {odx1 anx1 : Option Addr} {slx1 : Array (Option Value)} {ocx1 kVx1 dcx1 pmx1 cdx1 ctx1 : Value}
    (ax1 : PySem.W.nsIn K mainGlobals "_law_decimal" = some (some (.ref fx1))) (lx1 : K.lookup fx1 = some ⟨ocx1, odx1, .func (PySem.W.fnOf "_law_decimal" "_law_decimal" (defArgs s__law_decimal) (defBody s__law_decimal) (defScope s__law_decimal) .none kVx1 dcx1 pmx1 anx1 cdx1 ctx1), slx1⟩) (cx1 : PySem.W.codeIn K cdx1 "_law_decimal" = true) (kx1 : PySem.W.keepIn K (.ref fx1) = true)
    {fx2 : Addr} {odx2 anx2 : Option Addr} {slx2 : Array (Option Value)} {ocx2 kVx2 dcx2 pmx2 cdx2 ctx2 : Value}
    (ax2 : PySem.W.nsIn K mainGlobals "_law_number" = some (some (.ref fx2))) (lx2 : K.lookup fx2 = some ⟨ocx2, odx2, .func (PySem.W.fnOf "_law_number" "_law_number" (defArgs s__law_number) (defBody s__law_number) (defScope s__law_number) .none kVx2 dcx2 pmx2 anx2 cdx2 ctx2), slx2⟩) (cx2 : PySem.W.codeIn K cdx2 "_law_number" = true) (kx2 : PySem.W.keepIn K (.ref fx2) = true)
    {fx3 : Addr} {odx3 anx3 : Option Addr} {slx3 : Array (Option Value)} {ocx3 kVx3 dcx3 pmx3 cdx3 ctx3 : Value}
    (ax3 : PySem.W.nsIn K mainGlobals "_law_cell" = some (some (.ref fx3))) (lx3 : K.lookup fx3 = some ⟨ocx3, odx3, .func (PySem.W.fnOf "_law_cell" "_law_cell" (defArgs s__law_cell) (defBody s__law_cell) (defScope s__law_cell) .none kVx3 dcx3 pmx3 anx3 cdx3 ctx3), slx3⟩) (cx3 : PySem.W.codeIn K cdx3 "_law_cell" = true) (kx3 : PySem.W.keepIn K (.ref fx3) = true)
    {fx4 : Addr} {odx4 anx4 : Option Addr} {slx4 : Array (Option Value)} {ocx4 kVx4 dcx4 pmx4 cdx4 ctx4 : Value}
    (ax4 : PySem.W.nsIn K mainGlobals "_law_ten" = some (some (.ref fx4))) (lx4 : K.lookup fx4 = some ⟨ocx4, odx4, .func (PySem.W.fnOf "_law_ten" "_law_ten" (defArgs s__law_ten) (defBody s__law_ten) (defScope s__law_ten) .none kVx4 dcx4 pmx4 anx4 cdx4 ctx4), slx4⟩) (cx4 : PySem.W.codeIn K cdx4 "_law_ten" = true) (kx4 : PySem.W.keepIn K (.ref fx4) = true)
    {fx5 : Addr} {odx5 anx5 : Option Addr} {slx5 : Array (Option Value)} {ocx5 kVx5 dcx5 pmx5 cdx5 ctx5 : Value}
    (ax5 : PySem.W.nsIn K mainGlobals "_law_is_decimal" = some (some (.ref fx5))) (lx5 : K.lookup fx5 = some ⟨ocx5, odx5, .func (PySem.W.fnOf "_law_is_decimal" "_law_is_decimal" (defArgs s__law_is_decimal) (defBody s__law_is_decimal) (defScope s__law_is_decimal) .none kVx5 dcx5 pmx5 anx5 cdx5 ctx5), slx5⟩) (cx5 : PySem.W.codeIn K cdx5 "_law_is_decimal" = true) (kx5 : PySem.W.keepIn K (.ref fx5) = true)
    {fx6 : Addr} {odx6 anx6 : Option Addr} {slx6 : Array (Option Value)} {ocx6 kVx6 dcx6 pmx6 cdx6 ctx6 : Value}
    (ax6 : PySem.W.nsIn K mainGlobals "_law_is" = some (some (.ref fx6))) (lx6 : K.lookup fx6 = some ⟨ocx6, odx6, .func (PySem.W.fnOf "_law_is" "_law_is" (defArgs s__law_is) (defBody s__law_is) (defScope s__law_is) .none kVx6 dcx6 pmx6 anx6 cdx6 ctx6), slx6⟩) (cx6 : PySem.W.codeIn K cdx6 "_law_is" = true) (kx6 : PySem.W.keepIn K (.ref fx6) = true)
    {fx7 : Addr} {odx7 anx7 : Option Addr} {slx7 : Array (Option Value)} {ocx7 kVx7 dcx7 pmx7 cdx7 ctx7 : Value}
    (ax7 : PySem.W.nsIn K mainGlobals "power" = some (some (.ref fx7))) (lx7 : K.lookup fx7 = some ⟨ocx7, odx7, .func (PySem.W.fnOf "power" "power" (defArgs s_power) (defBody s_power) (defScope s_power) .none kVx7 dcx7 pmx7 anx7 cdx7 ctx7), slx7⟩) (cx7 : PySem.W.codeIn K cdx7 "power" = true) (kx7 : PySem.W.keepIn K (.ref fx7) = true)
    {fx8 : Addr} {odx8 anx8 : Option Addr} {slx8 : Array (Option Value)} {ocx8 kVx8 dcx8 pmx8 cdx8 ctx8 : Value}
    (ax8 : PySem.W.nsIn K mainGlobals "aligned" = some (some (.ref fx8))) (lx8 : K.lookup fx8 = some ⟨ocx8, odx8, .func (PySem.W.fnOf "aligned" "aligned" (defArgs s_aligned) (defBody s_aligned) (defScope s_aligned) .none kVx8 dcx8 pmx8 anx8 cdx8 ctx8), slx8⟩) (cx8 : PySem.W.codeIn K cdx8 "aligned" = true) (kx8 : PySem.W.keepIn K (.ref fx8) = true)
    {fx9 : Addr} {odx9 anx9 : Option Addr} {slx9 : Array (Option Value)} {ocx9 kVx9 dcx9 pmx9 cdx9 ctx9 : Value}
    (ax9 : PySem.W.nsIn K mainGlobals "compare" = some (some (.ref fx9))) (lx9 : K.lookup fx9 = some ⟨ocx9, odx9, .func (PySem.W.fnOf "compare" "compare" (defArgs s_compare) (defBody s_compare) (defScope s_compare) .none kVx9 dcx9 pmx9 anx9 cdx9 ctx9), slx9⟩) (cx9 : PySem.W.codeIn K cdx9 "compare" = true) (kx9 : PySem.W.keepIn K (.ref fx9) = true)
    {fx10 : Addr} {odx10 anx10 : Option Addr} {slx10 : Array (Option Value)} {ocx10 kVx10 dcx10 pmx10 cdx10 ctx10 : Value}
    (ax10 : PySem.W.nsIn K mainGlobals "normal" = some (some (.ref fx10))) (lx10 : K.lookup fx10 = some ⟨ocx10, odx10, .func (PySem.W.fnOf "normal" "normal" (defArgs s_normal) (defBody s_normal) (defScope s_normal) .none kVx10 dcx10 pmx10 anx10 cdx10 ctx10), slx10⟩) (cx10 : PySem.W.codeIn K cdx10 "normal" = true) (kx10 : PySem.W.keepIn K (.ref fx10) = true)
    {fx11 : Addr} {odx11 anx11 : Option Addr} {slx11 : Array (Option Value)} {ocx11 kVx11 dcx11 pmx11 cdx11 ctx11 : Value}
    (ax11 : PySem.W.nsIn K mainGlobals "fits" = some (some (.ref fx11))) (lx11 : K.lookup fx11 = some ⟨ocx11, odx11, .func (PySem.W.fnOf "fits" "fits" (defArgs s_fits) (defBody s_fits) (defScope s_fits) .none kVx11 dcx11 pmx11 anx11 cdx11 ctx11), slx11⟩) (cx11 : PySem.W.codeIn K cdx11 "fits" = true) (kx11 : PySem.W.keepIn K (.ref fx11) = true)
    {fx12 : Addr} {odx12 anx12 : Option Addr} {slx12 : Array (Option Value)} {ocx12 kVx12 dcx12 pmx12 cdx12 ctx12 : Value}
    (ax12 : PySem.W.nsIn K mainGlobals "add" = some (some (.ref fx12))) (lx12 : K.lookup fx12 = some ⟨ocx12, odx12, .func (PySem.W.fnOf "add" "add" (defArgs s_add) (defBody s_add) (defScope s_add) .none kVx12 dcx12 pmx12 anx12 cdx12 ctx12), slx12⟩) (cx12 : PySem.W.codeIn K cdx12 "add" = true) (kx12 : PySem.W.keepIn K (.ref fx12) = true)
    {fx13 : Addr} {odx13 anx13 : Option Addr} {slx13 : Array (Option Value)} {ocx13 kVx13 dcx13 pmx13 cdx13 ctx13 : Value}
    (ax13 : PySem.W.nsIn K mainGlobals "negative" = some (some (.ref fx13))) (lx13 : K.lookup fx13 = some ⟨ocx13, odx13, .func (PySem.W.fnOf "negative" "negative" (defArgs s_negative) (defBody s_negative) (defScope s_negative) .none kVx13 dcx13 pmx13 anx13 cdx13 ctx13), slx13⟩) (cx13 : PySem.W.codeIn K cdx13 "negative" = true) (kx13 : PySem.W.keepIn K (.ref fx13) = true)
    {fx14 : Addr} {odx14 anx14 : Option Addr} {slx14 : Array (Option Value)} {ocx14 kVx14 dcx14 pmx14 cdx14 ctx14 : Value}
    (ax14 : PySem.W.nsIn K mainGlobals "subtract" = some (some (.ref fx14))) (lx14 : K.lookup fx14 = some ⟨ocx14, odx14, .func (PySem.W.fnOf "subtract" "subtract" (defArgs s_subtract) (defBody s_subtract) (defScope s_subtract) .none kVx14 dcx14 pmx14 anx14 cdx14 ctx14), slx14⟩) (cx14 : PySem.W.codeIn K cdx14 "subtract" = true) (kx14 : PySem.W.keepIn K (.ref fx14) = true)
    {fx15 : Addr} {odx15 anx15 : Option Addr} {slx15 : Array (Option Value)} {ocx15 kVx15 dcx15 pmx15 cdx15 ctx15 : Value}
    (ax15 : PySem.W.nsIn K mainGlobals "multiply" = some (some (.ref fx15))) (lx15 : K.lookup fx15 = some ⟨ocx15, odx15, .func (PySem.W.fnOf "multiply" "multiply" (defArgs s_multiply) (defBody s_multiply) (defScope s_multiply) .none kVx15 dcx15 pmx15 anx15 cdx15 ctx15), slx15⟩) (cx15 : PySem.W.codeIn K cdx15 "multiply" = true) (kx15 : PySem.W.keepIn K (.ref fx15) = true)
    {fx16 : Addr} {odx16 anx16 : Option Addr} {slx16 : Array (Option Value)} {ocx16 kVx16 dcx16 pmx16 cdx16 ctx16 : Value}
    (ax16 : PySem.W.nsIn K mainGlobals "law" = some (some (.ref fx16))) (lx16 : K.lookup fx16 = some ⟨ocx16, odx16, .func (PySem.W.fnOf "law" "law" (defArgs s_law) (defBody s_law) (defScope s_law) .none kVx16 dcx16 pmx16 anx16 cdx16 ctx16), slx16⟩) (cx16 : PySem.W.codeIn K cdx16 "law" = true) (kx16 : PySem.W.keepIn K (.ref fx16) = true)
    (z_abs : PySem.W.nsIn K mainGlobals "abs" = some none)
    (z_bool : PySem.W.nsIn K mainGlobals "bool" = some none)
    (z_int : PySem.W.nsIn K mainGlobals "int" = some none)
    (z_isinstance : PySem.W.nsIn K mainGlobals "isinstance" = some none)
    (z_len : PySem.W.nsIn K mainGlobals "len" = some none)
    (z_max : PySem.W.nsIn K mainGlobals "max" = some none)
    (z_min : PySem.W.nsIn K mainGlobals "min" = some none)
    (z_range : PySem.W.nsIn K mainGlobals "range" = some none)
    (z_tuple : PySem.W.nsIn K mainGlobals "tuple" = some none)
    : ∃ fd : FuncData, (∀ (s : Shared) (v : Value), BindsTo s fd ⟨[v], []⟩ [("script", v)]) ∧ ∀ base : Heap, K.In base → base.Ns mainGlobals mg → FnOk l.prog w K mg base CX0 5 fa fd ["script"] (sp_law K) := by
  have e := hfa.symm.trans (PySem.W.mg_of X G ax16)
  cases e
  have B : Blt K mg := ⟨PySem.W.mg_none_of X G z_abs, PySem.W.mg_none_of X G z_bool, PySem.W.mg_none_of X G z_int, PySem.W.mg_none_of X G z_isinstance, PySem.W.mg_none_of X G z_len, PySem.W.mg_none_of X G z_max, PySem.W.mg_none_of X G z_min, PySem.W.mg_none_of X G z_range, PySem.W.mg_none_of X G z_tuple⟩
  have Fx0 := fun_mk (st := s__law_rich) lx0 cx0 kx0
  have bx0 := Fx0.binds (ps := ["cell", "k"]) fun _ _ _ _ _ _ us hl => match us, hl with | [_, _], _ => rfl
  have Cx0 : ∀ base : Heap, K.In base → base.Ns mainGlobals mg → WP.Callee l.prog w K mg base CX0 1 "_law_rich" ["cell", "k"] (sp__law_rich K) := fun base p1 p2 => WP.Callee.mk' (ok__law_rich Fx0 B ) (PySem.W.mg_of X G ax0) kx0 bx0
  have Fx1 := fun_mk (st := s__law_decimal) lx1 cx1 kx1
  have bx1 := Fx1.binds (ps := ["units", "scale"]) fun _ _ _ _ _ _ us hl => match us, hl with | [_, _], _ => rfl
  have Cx1 : ∀ base : Heap, K.In base → base.Ns mainGlobals mg → WP.Callee l.prog w K mg base CX0 1 "_law_decimal" ["units", "scale"] (sp__law_decimal K) := fun base p1 p2 => WP.Callee.mk' (ok__law_decimal Fx1 B ) (PySem.W.mg_of X G ax1) kx1 bx1
  have Fx2 := fun_mk (st := s__law_number) lx2 cx2 kx2
  have bx2 := Fx2.binds (ps := ["rich"]) fun _ _ _ _ _ _ us hl => match us, hl with | [_], _ => rfl
  have Cx2 : ∀ base : Heap, K.In base → base.Ns mainGlobals mg → WP.Callee l.prog w K mg base CX0 2 "_law_number" ["rich"] (sp__law_number K) := fun base p1 p2 => WP.Callee.mk' (ok__law_number Fx2 B (Cx1 base p1 p2)) (PySem.W.mg_of X G ax2) kx2 bx2
  have Fx3 := fun_mk (st := s__law_cell) lx3 cx3 kx3
  have bx3 := Fx3.binds (ps := ["script", "k"]) fun _ _ _ _ _ _ us hl => match us, hl with | [_, _], _ => rfl
  have Cx3 : ∀ base : Heap, K.In base → base.Ns mainGlobals mg → WP.Callee l.prog w K mg base CX0 1 "_law_cell" ["script", "k"] (sp__law_cell K) := fun base p1 p2 => WP.Callee.mk' (ok__law_cell Fx3 B ) (PySem.W.mg_of X G ax3) kx3 bx3
  have Fx4 := fun_mk (st := s__law_ten) lx4 cx4 kx4
  have bx4 := Fx4.binds (ps := ["scale"]) fun _ _ _ _ _ _ us hl => match us, hl with | [_], _ => rfl
  have Cx4 : ∀ base : Heap, K.In base → base.Ns mainGlobals mg → WP.Callee l.prog w K mg base CX0 1 "_law_ten" ["scale"] (sp__law_ten K) := fun base p1 p2 => WP.Callee.mk' (ok__law_ten Fx4 B ) (PySem.W.mg_of X G ax4) kx4 bx4
  have Fx5 := fun_mk (st := s__law_is_decimal) lx5 cx5 kx5
  have bx5 := Fx5.binds (ps := ["value"]) fun _ _ _ _ _ _ us hl => match us, hl with | [_], _ => rfl
  have Cx5 : ∀ base : Heap, K.In base → base.Ns mainGlobals mg → WP.Callee l.prog w K mg base CX0 1 "_law_is_decimal" ["value"] (sp__law_is_decimal K) := fun base p1 p2 => WP.Callee.mk' (ok__law_is_decimal Fx5 B ) (PySem.W.mg_of X G ax5) kx5 bx5
  have Fx6 := fun_mk (st := s__law_is) lx6 cx6 kx6
  have bx6 := Fx6.binds (ps := ["value", "units", "scale"]) fun _ _ _ _ _ _ us hl => match us, hl with | [_, _, _], _ => rfl
  have Cx6 : ∀ base : Heap, K.In base → base.Ns mainGlobals mg → WP.Callee l.prog w K mg base CX0 2 "_law_is" ["value", "units", "scale"] (sp__law_is K) := fun base p1 p2 => WP.Callee.mk' (ok__law_is Fx6 B (Cx5 base p1 p2) (Cx4 base p1 p2)) (PySem.W.mg_of X G ax6) kx6 bx6
  have Fx7 := fun_mk (st := s_power) lx7 cx7 kx7
  have bx7 := Fx7.binds (ps := ["exponent"]) fun _ _ _ _ _ _ us hl => match us, hl with | [_], _ => rfl
  have Cx7 : ∀ base : Heap, K.In base → base.Ns mainGlobals mg → WP.Callee l.prog w K mg base CX0 1 "power" ["exponent"] (sp_power K) := fun base p1 p2 => WP.Callee.mk' (ok_power Fx7 B ) (PySem.W.mg_of X G ax7) kx7 bx7
  have Fx8 := fun_mk (st := s_aligned) lx8 cx8 kx8
  have bx8 := Fx8.binds (ps := ["a", "scale"]) fun _ _ _ _ _ _ us hl => match us, hl with | [_, _], _ => rfl
  have Cx8 : ∀ base : Heap, K.In base → base.Ns mainGlobals mg → WP.Callee l.prog w K mg base CX0 2 "aligned" ["a", "scale"] (sp_aligned K) := fun base p1 p2 => WP.Callee.mk' (ok_aligned Fx8 B (Cx7 base p1 p2)) (PySem.W.mg_of X G ax8) kx8 bx8
  have Fx9 := fun_mk (st := s_compare) lx9 cx9 kx9
  have bx9 := Fx9.binds (ps := ["a", "b"]) fun _ _ _ _ _ _ us hl => match us, hl with | [_, _], _ => rfl
  have Cx9 : ∀ base : Heap, K.In base → base.Ns mainGlobals mg → WP.Callee l.prog w K mg base CX0 3 "compare" ["a", "b"] (sp_compare K) := fun base p1 p2 => WP.Callee.mk' (ok_compare Fx9 B (Cx8 base p1 p2)) (PySem.W.mg_of X G ax9) kx9 bx9
  have Fx10 := fun_mk (st := s_normal) lx10 cx10 kx10
  have bx10 := Fx10.binds (ps := ["units", "scale"]) fun _ _ _ _ _ _ us hl => match us, hl with | [_, _], _ => rfl
  have Cx10 : ∀ base : Heap, K.In base → base.Ns mainGlobals mg → WP.Callee l.prog w K mg base CX0 1 "normal" ["units", "scale"] (sp_normal K) := fun base p1 p2 => WP.Callee.mk' (ok_normal Fx10 B ) (PySem.W.mg_of X G ax10) kx10 bx10
  have Fx11 := fun_mk (st := s_fits) lx11 cx11 kx11
  have bx11 := Fx11.binds (ps := ["units", "digits"]) fun _ _ _ _ _ _ us hl => match us, hl with | [_, _], _ => rfl
  have Cx11 : ∀ base : Heap, K.In base → base.Ns mainGlobals mg → WP.Callee l.prog w K mg base CX0 2 "fits" ["units", "digits"] (sp_fits K) := fun base p1 p2 => WP.Callee.mk' (ok_fits Fx11 B (Cx7 base p1 p2)) (PySem.W.mg_of X G ax11) kx11 bx11
  have Fx12 := fun_mk (st := s_add) lx12 cx12 kx12
  have bx12 := Fx12.binds (ps := ["a", "b"]) fun _ _ _ _ _ _ us hl => match us, hl with | [_, _], _ => rfl
  have Cx12 : ∀ base : Heap, K.In base → base.Ns mainGlobals mg → WP.Callee l.prog w K mg base CX0 3 "add" ["a", "b"] (sp_add K) := fun base p1 p2 => WP.Callee.mk' (ok_add Fx12 B (Cx10 base p1 p2) (Cx8 base p1 p2)) (PySem.W.mg_of X G ax12) kx12 bx12
  have Fx13 := fun_mk (st := s_negative) lx13 cx13 kx13
  have bx13 := Fx13.binds (ps := ["a"]) fun _ _ _ _ _ _ us hl => match us, hl with | [_], _ => rfl
  have Cx13 : ∀ base : Heap, K.In base → base.Ns mainGlobals mg → WP.Callee l.prog w K mg base CX0 1 "negative" ["a"] (sp_negative K) := fun base p1 p2 => WP.Callee.mk' (ok_negative Fx13 B ) (PySem.W.mg_of X G ax13) kx13 bx13
  have Fx14 := fun_mk (st := s_subtract) lx14 cx14 kx14
  have bx14 := Fx14.binds (ps := ["a", "b"]) fun _ _ _ _ _ _ us hl => match us, hl with | [_, _], _ => rfl
  have Cx14 : ∀ base : Heap, K.In base → base.Ns mainGlobals mg → WP.Callee l.prog w K mg base CX0 4 "subtract" ["a", "b"] (sp_subtract K) := fun base p1 p2 => WP.Callee.mk' (ok_subtract Fx14 B (Cx12 base p1 p2) (Cx13 base p1 p2)) (PySem.W.mg_of X G ax14) kx14 bx14
  have Fx15 := fun_mk (st := s_multiply) lx15 cx15 kx15
  have bx15 := Fx15.binds (ps := ["a", "b"]) fun _ _ _ _ _ _ us hl => match us, hl with | [_, _], _ => rfl
  have Cx15 : ∀ base : Heap, K.In base → base.Ns mainGlobals mg → WP.Callee l.prog w K mg base CX0 2 "multiply" ["a", "b"] (sp_multiply K) := fun base p1 p2 => WP.Callee.mk' (ok_multiply Fx15 B (Cx10 base p1 p2)) (PySem.W.mg_of X G ax15) kx15 bx15
  have Fx16 := fun_mk (st := s_law) lx16 cx16 kx16
  exact ⟨PySem.W.fnOf "law" "law" (defArgs s_law) (defBody s_law) (defScope s_law) .none kVx16 dcx16 pmx16 anx16 cdx16 ctx16, fun s v => .of_eq rfl, fun base p1 p2 => ok_law Fx16 B (Cx0 base p1 p2) (Cx2 base p1 p2) (Cx3 base p1 p2) (Cx4 base p1 p2) (Cx6 base p1 p2) (Cx9 base p1 p2) (Cx10 base p1 p2) (Cx8 base p1 p2) (Cx7 base p1 p2) (Cx11 base p1 p2) (Cx12 base p1 p2) (Cx14 base p1 p2) (Cx15 base p1 p2) (Cx13 base p1 p2)⟩
theorem walk {l : PySem.W.OpenLaw} {q : Program} {loose : List Str} {XP : (Str → Option Value) → Heap → Prop} {YP : World → Heap → Prop} {d : DefRec} {K : Params → PySem.W.Frag} (hn : l.most = some 63) (hdf : d.params.defaults = [])
    (hY : ∀ (w : World) (h : Heap), YP w h → (K w.params).In h)
    (F : ∀ (w : World) (mg : Str → Option Value) (fa : Addr) (h : Heap), (K w.params).In h → h.Ns mainGlobals mg → mg d.name = some (.ref fa) →
      ∃ fd : FuncData, (∀ (s : Shared) (u : Value), BindsTo s fd ⟨[u], []⟩ [("script", u)]) ∧ ∀ base : Heap, (K w.params).In base → base.Ns mainGlobals mg → FnOk l.prog w (K w.params) mg base CX0 5 fa fd ["script"] (sp_law (K w.params))) :
    PySem.W.WalkO q loose XP YP l.row.toRowW d [] (fun f vs => PySem.call f vs) :=
  L2.walk_of (n := 63) (k := 5) (x := "script") (CX := fun _ => CX0) (sp := fun w => sp_law (K w.params)) hn (by decide) hdf ⟨rfl, by decide, by decide⟩ hY F (fun _ _ a ns hl _ hS => ⟨a, ns, rfl, hS, hl, fun _ => rfl⟩) fun _ _ _ _ _ z => z
end D
open PySem PySem.W PyProof.Rows
set_option maxRecDepth 100000 in
set_option maxHeartbeats 0 in
theorem PySem.Challenge.cw_cardwright_k02_decimals_are_exact_holds : PySem.Challenge.rw_cardwright_k02_decimals_are_exact.Holds := by
  w_on; o_law; k_head; (case hw => w_witness2)
  k_fill
  refine D.walk (l := PySem.Challenge.rw_cardwright_k02_decimals_are_exact) rfl rfl (fun w h Y => PySem.W.kIn_of Y) ?F
  case F =>
    intro w mg fa h KX G hmg
    refine' D.all_mk KX G hmg ?ax0 ?lx0 ?cx0 ?kx0 ?ax1 ?lx1 ?cx1 ?kx1 ?ax2 ?lx2 ?cx2 ?kx2 ?ax3 ?lx3 ?cx3 ?kx3 ?ax4 ?lx4 ?cx4 ?kx4 ?ax5 ?lx5 ?cx5 ?kx5 ?ax6 ?lx6 ?cx6 ?kx6 ?ax7 ?lx7 ?cx7 ?kx7 ?ax8 ?lx8 ?cx8 ?kx8 ?ax9 ?lx9 ?cx9 ?kx9 ?ax10 ?lx10 ?cx10 ?kx10 ?ax11 ?lx11 ?cx11 ?kx11 ?ax12 ?lx12 ?cx12 ?kx12 ?ax13 ?lx13 ?cx13 ?kx13 ?ax14 ?lx14 ?cx14 ?kx14 ?ax15 ?lx15 ?cx15 ?kx15 ?ax16 ?lx16 ?cx16 ?kx16 ?z_abs ?z_bool ?z_int ?z_isinstance ?z_len ?z_max ?z_min ?z_range ?z_tuple
    (case ax0 => k_is); (case lx0 => k_is); (case cx0 => k_is); (case kx0 => k_is); (case ax1 => k_is); (case lx1 => k_is)
    (case cx1 => k_is); (case kx1 => k_is); (case ax2 => k_is); (case lx2 => k_is); (case cx2 => k_is); (case kx2 => k_is)
    (case ax3 => k_is); (case lx3 => k_is); (case cx3 => k_is); (case kx3 => k_is); (case ax4 => k_is); (case lx4 => k_is)
    (case cx4 => k_is); (case kx4 => k_is); (case ax5 => k_is); (case lx5 => k_is); (case cx5 => k_is); (case kx5 => k_is)
    (case ax6 => k_is); (case lx6 => k_is); (case cx6 => k_is); (case kx6 => k_is); (case ax7 => k_is); (case lx7 => k_is)
    (case cx7 => k_is); (case kx7 => k_is); (case ax8 => k_is); (case lx8 => k_is); (case cx8 => k_is); (case kx8 => k_is)
    (case ax9 => k_is); (case lx9 => k_is); (case cx9 => k_is); (case kx9 => k_is); (case ax10 => k_is); (case lx10 => k_is)
    (case cx10 => k_is); (case kx10 => k_is); (case ax11 => k_is); (case lx11 => k_is); (case cx11 => k_is); (case kx11 => k_is)
    (case ax12 => k_is); (case lx12 => k_is); (case cx12 => k_is); (case kx12 => k_is); (case ax13 => k_is); (case lx13 => k_is)
    (case cx13 => k_is); (case kx13 => k_is); (case ax14 => k_is); (case lx14 => k_is); (case cx14 => k_is); (case kx14 => k_is)
    (case ax15 => k_is); (case lx15 => k_is); (case cx15 => k_is); (case kx15 => k_is); (case ax16 => k_is); (case lx16 => k_is)
    (case cx16 => k_is); (case kx16 => k_is); (case z_abs => k_is); (case z_bool => k_is); (case z_int => k_is); (case z_isinstance => k_is)
    (case z_len => k_is); (case z_max => k_is); (case z_min => k_is); (case z_range => k_is); (case z_tuple => k_is)
#print axioms PySem.Challenge.cw_cardwright_k02_decimals_are_exact_holds
