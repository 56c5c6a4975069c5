import PyProof.Rows.All
import Wide.All
import OpenK.AllK
import Wide.FinOn
import HandS.ForMost
import HandS.Wide
import HandS.IsInst
import HandS.Evl
import HandS.ForExc
import HandS.ExcIs
import HandS.WideBits
import HandS.Codes
import HandS.Iter
import HandS.MapJoin
import HandS.MapObj
import HandS.Rev
import HandS.RevTup
import HandS.StrMore
import PySem.Challenge.RW_cardwright_k05_decimals_without_bound
set_option Elab.async false
set_option linter.all false
set_option maxRecDepth 100000
set_option maxHeartbeats 4000000
namespace WP
open PySem PySem.Spec PyProof.Rows L2

/-! ### a def that may be called -/
structure Callee (P : Program) (w : World) (K : PySem.W.Frag) (mg : Str → Option Value) (base : Heap) (CX : CXT) (lv : Nat) (nm : Str) (ps : List Str) (sp : Sp) : Prop where
  ex : ∃ (f : Addr) (fd : FuncData), FnOk P w K mg base CX lv f fd ps sp ∧ mg nm = some (.ref f) ∧ PySem.W.keepIn K (.ref f) = true ∧ Binds K fd ps []
theorem Callee.mk' {P : Program} {w : World} {K : PySem.W.Frag} {mg : Str → Option Value} {base : Heap} {CX : CXT} {lv : Nat} {nm : Str} {ps : List Str} {sp : Sp} {f : Addr} {fd : FuncData}
    (h : FnOk P w K mg base CX lv f fd ps sp) (m : mg nm = some (.ref f)) (k : PySem.W.keepIn K (.ref f) = true) (b : Binds K fd ps []) : Callee P w K mg base CX lv nm ps sp := ⟨⟨f, fd, h, m, k, b⟩⟩
section
variable {X : Cx} {CX : CXT} {k j : Nat} {ps : List Str} {sp : Sp} {E : XK} {x : Str} {p pos : Pos} {e : Expr} {es : List Expr} {t : TA}
theorem pe_callC (C : Callee X.prog X.w X.K X.mg X.base CX k x ps sp) (hr : Room j X.A) (hg : Gl X x) (hx : Passes CX X E) (ha : PA X (e :: es) t) (hl : k ≤ j := by decide)
    (hdb : (x == ("__debug__" : Str)) = false := by decide) (he : starEach (e :: es) X.env = (false, eval e X.env) :: starEach es X.env := by rfl) (hpl : (backTo pos (starEach es X.env)).any (·.1) = false := by rfl) :
    PE X (.Call (.Name x p) (e :: es) [] pos) (tCall sp [] E t) := by
  obtain ⟨f, fd, F, hm, hk, hb⟩ := C.ex
  exact pe_call F (hr.mono hl) hg hm hk hb .nil hx ha hdb he hpl
theorem pe_callC0 (C : Callee X.prog X.w X.K X.mg X.base CX k x ps sp) (hr : Room j X.A) (hg : Gl X x) (hx : Passes CX X E) (hl : k ≤ j := by decide)
    (hdb : (x == ("__debug__" : Str)) = false := by decide) : PE X (.Call (.Name x p) [] [] pos) (tCall sp [] E tNil) := by
  obtain ⟨f, fd, F, hm, hk, hb⟩ := C.ex
  exact pe_call0 F (hr.mono hl) hg hm hk hb .nil hx hdb
end

/-! ### readings, a step at a time -/
section
variable {σ : L2.St} {H : Hp} {D : Ends} {t u : TS} {te ta tb : TE} {tt tu : TT} {g : TG} {Q : VK} {QB : Bool → Hp → Prop} {QA : List V → Hp → Prop} {r : R2} {i j : Int} {n : Nat} {v x y : V}
theorem seq (h : t { D with nx := u D } σ H) : tSeq t u D σ H := h
theorem asg (h : te σ H fun x H1 => g x σ H1 D.nx) : tAsg te g D σ H := h
theorem name {QS : L2.St → Hp → Prop} (h : QS (σ.set n (some v)) H) : gName n v σ H QS := h
theorem var (e : σ[n]? = some (some v)) (h : Q v H) : tVar n σ H Q := ⟨v, e, h⟩
theorem con (h : Q v H) : tC v σ H Q := h
theorem op (h : ta σ H fun x H1 => tb σ H1 fun y H2 => r x y H2 Q) : tOp r ta tb σ H Q := h
theorem un {ru : V → Hp → VK → Prop} (h : ta σ H fun x H1 => ru x H1 Q) : tUn ru ta σ H Q := h
theorem rU_ {g : Int → V} (h : Q (g i) H) : rU g (.int i) H Q := ⟨i, rfl, h⟩
theorem i0 {g : Int → Int → V} (h : Q (g i j) H) : rI0 g (.int i) (.int j) H Q := ⟨i, j, rfl, rfl, h⟩
theorem iC {C : Int → Int → Prop} {g : Int → Int → V} (c : C i j) (h : Q (g i j) H) : rI C g (.int i) (.int j) H Q := ⟨i, j, rfl, rfl, c, h⟩
theorem eqS (s : scal x y = true) (h : Q (.bl (decide (x = y))) H) : rEq x y H Q := ⟨s, h⟩
theorem neS (s : scal x y = true) (h : Q (.bl (!decide (x = y))) H) : rNe x y H Q := ⟨s, h⟩
theorem ifS (h : tt σ H fun b H1 => if b = true then t D σ H1 else u D σ H1) : tIfS tt t u D σ H := h
theorem ifE (h : tt σ H fun b H1 => if b = true then ta σ H1 Q else tb σ H1 Q) : tIf tt ta tb σ H Q := h
theorem test (h : te σ H fun x H1 => ∃ k, x = .bl k ∧ QB k H1) : tTest te σ H QB := h
theorem bt (h : te σ H fun x H1 => ∃ k, x = .bl k ∧ QB k H1) : tB te σ H QB := h
theorem isb {b : Bool} (h : QB b H) : ∃ k, V.bl b = V.bl k ∧ QB k H := ⟨b, rfl, h⟩
theorem ret (h : te σ H D.rt) : tRet te D σ H := h
theorem retN (h : D.rt .non H) : tRetN D σ H := h
theorem drop (h : te σ H fun _ H1 => D.nx σ H1) : tDrop te D σ H := h
theorem next (h : D.nx σ H) : tNext D σ H := h
theorem brk (h : D.bk σ H) : tBreak D σ H := h
theorem cont (h : D.ct σ H) : tCont D σ H := h
theorem cb {rc : List V → Hp → VK → Prop} {a : TA} (h : a σ H fun vs H1 => rc vs H1 Q) : tCB rc a σ H Q := h
theorem call {sp : Sp} {E : XK} {a : TA} (h : a σ H fun vs H1 => sp (vs ++ []) H1 Q E) : tCall sp [] E a σ H Q := h
theorem cons {a : TA} (h : te σ H fun x H1 => a σ H1 fun xs H2 => QA (x :: xs) H2) : tCons te a σ H QA := h
theorem nil (h : QA [] H) : tNil σ H QA := h
theorem tup {a : TA} (h : a σ H fun xs H1 => xs.length ≤ sizeLine ∧ ∀ p, H1 p = none → Q (.ref p) (upd H1 p (.tup xs))) : tTup a σ H Q := h
theorem lst {a : TA} (h : a σ H fun xs H1 => xs.length ≤ sizeLine ∧ ∀ p, H1 p = none → Q (.ref p) (upd H1 p (.lst xs))) : tLst a σ H Q := h
theorem notT (h : tt σ H fun c H1 => QB (!c) H1) : tNot tt σ H QB := h
theorem andT (h : tt σ H fun c H1 => if c = true then tu σ H1 QB else QB false H1) : tAnd tt tu σ H QB := h
theorem orT (h : tt σ H fun c H1 => if c = true then QB true H1 else tu σ H1 QB) : tOr tt tu σ H QB := h
theorem andV (h : ta σ H fun x H1 => ∃ c, x = .bl c ∧ if c = true then tb σ H1 Q else Q (.bl false) H1) : tAndV ta tb σ H Q := h
theorem orV (h : ta σ H fun x H1 => ∃ c, x = .bl c ∧ if c = true then Q (.bl true) H1 else tb σ H1 Q) : tOrV ta tb σ H Q := h
theorem notV (h : ta σ H fun x H1 => ∃ c, x = .bl c ∧ Q (.bl (!c)) H1) : tNotV ta σ H Q := h
theorem isbV {b : Bool} {R : Bool → Prop} (h : R b) : ∃ k, V.bl b = V.bl k ∧ R k := ⟨b, rfl, h⟩
theorem sl {r : V → Option Int → Option Int → Hp → VK → Prop} {tl th : TO} (h : te σ H fun x H1 => tl σ H1 fun l H2 => th σ H2 fun u H3 => r x l u H3 Q) : tSl r te tl th σ H Q := h
theorem noPart {QO : Option Int → Hp → Prop} (h : QO none H) : tNoPart σ H QO := h
theorem part {QO : Option Int → Hp → Prop} (h : te σ H fun x H1 => ∃ i, x = .int i ∧ QO (some i) H1) : tPart te σ H QO := h
theorem isi {R : Int → Prop} (h : R i) : ∃ k, V.int i = V.int k ∧ R k := ⟨i, rfl, h⟩
/-- tests -/
theorem br {c A B : Prop} [Decidable c] (h1 : c → A) (h2 : ¬ c → B) : if decide c = true then A else B := by
  by_cases h : c
  · rw [decide_eq_true h, if_pos rfl]; exact h1 h
  · rw [decide_eq_false h, if_neg Bool.false_ne_true]; exact h2 h
theorem brN {c A B : Prop} [Decidable c] (h1 : ¬ c → A) (h2 : c → B) : if (!decide c) = true then A else B := by
  by_cases h : c
  · rw [decide_eq_true h]; exact iteF (h2 h)
  · rw [decide_eq_false h]; exact iteT (h1 h)
theorem brT {b : Bool} {A B : Prop} (e : b = true) (h : A) : if b = true then A else B := by rw [if_pos e]; exact h
theorem brF {b : Bool} {A B : Prop} (e : b = false) (h : B) : if b = true then A else B := by rw [if_neg (by rw [e]; exact Bool.false_ne_true)]; exact h
theorem brB {b : Bool} {A B : Prop} (h1 : b = true → A) (h2 : b = false → B) : if b = true then A else B := by
  cases b
  · exact iteF (h2 rfl)
  · exact iteT (h1 rfl)
theorem dec_int {i j : Int} : decide (V.int i = V.int j) = decide (i = j) := by
  by_cases h : i = j
  · rw [decide_eq_true h, decide_eq_true (congrArg V.int h)]
  · rw [decide_eq_false h, decide_eq_false fun e => h (V.int.inj e)]
theorem dec_str {i j : Str} : decide (V.str i = V.str j) = decide (i = j) := by
  by_cases h : i = j
  · rw [decide_eq_true h, decide_eq_true (congrArg V.str h)]
  · rw [decide_eq_false h, decide_eq_false fun e => h (V.str.inj e)]
theorem dec_bl {i j : Bool} : decide (V.bl i = V.bl j) = decide (i = j) := by
  by_cases h : i = j
  · rw [decide_eq_true h, decide_eq_true (congrArg V.bl h)]
  · rw [decide_eq_false h, decide_eq_false fun e => h (V.bl.inj e)]
theorem eqI (h : Q (.bl (decide (i = j))) H) : rEq (.int i) (.int j) H Q := ⟨rfl, by rw [dec_int]; exact h⟩
theorem neI (h : Q (.bl (!decide (i = j))) H) : rNe (.int i) (.int j) H Q := ⟨rfl, by rw [dec_int]; exact h⟩
theorem eqT {a b : Str} (h : Q (.bl (decide (a = b))) H) : rEq (.str a) (.str b) H Q := ⟨rfl, by rw [dec_str]; exact h⟩
theorem neT {a b : Str} (h : Q (.bl (!decide (a = b))) H) : rNe (.str a) (.str b) H Q := ⟨rfl, by rw [dec_str]; exact h⟩
theorem eqB {a b : Bool} (h : Q (.bl (decide (a = b))) H) : rEq (.bl a) (.bl b) H Q := ⟨rfl, by rw [dec_bl]; exact h⟩
theorem neB {a b : Bool} (h : Q (.bl (!decide (a = b))) H) : rNe (.bl a) (.bl b) H Q := ⟨rfl, by rw [dec_bl]; exact h⟩
end
/-! ### numbers of a known number of bits -/
theorem sz2 : (2 : Nat) ≤ sizeLine := by rw [sizeLine_eq]; decide
theorem sz {n : Nat} (h : n ≤ 1000000) : n ≤ sizeLine := by rw [sizeLine_eq]; omega
end WP
namespace WP
open PySem PySem.Spec PyProof.Rows L2
section
variable {X : Cx} {x : Str} {v : V} {pos : Pos}
theorem pe_const (hg : Gl X x) (h : ∃ u, X.mg x = some u ∧ RelV v u) (hd : (x == ("__debug__" : Str)) = false := by decide) : PE X (.Name x pos) (tC v) := by
  obtain ⟨u, hm, r⟩ := h
  exact pe_glob hg hm r hd
end
/-- a number of at most a bits -/
def Bt (i : Int) (a : Nat) : Prop := i.natAbs < 2 ^ a
theorem Bt.mono {i : Int} {a b : Nat} (h : Bt i a) (l : a ≤ b) : Bt i b := Nat.lt_of_lt_of_le h (Nat.pow_le_pow_right (by decide) l)
theorem Bt.mul {i j : Int} {a b : Nat} (h : Bt i a) (k : Bt j b) : Bt (i * j) (a + b) := wide_lt h k
theorem Bt.neg {i : Int} {a : Nat} (h : Bt i a) : Bt (-i) a := by unfold Bt at *; rw [Int.natAbs_neg]; exact h
theorem Bt.add {i j : Int} {a : Nat} (h : Bt i a) (k : Bt j a) : Bt (i + j) (a + 1) := by
  unfold Bt at *
  have := Int.natAbs_add_le i j
  rw [Nat.pow_succ]; omega
theorem Bt.sub {i j : Int} {a : Nat} (h : Bt i a) (k : Bt j a) : Bt (i - j) (a + 1) := by
  rw [Int.sub_eq_add_neg]; exact h.add k.neg
theorem Bt.le {i j : Int} {a : Nat} (h : Bt i a) (k : j.natAbs ≤ i.natAbs) : Bt j a := Nat.lt_of_le_of_lt k h
theorem Bt.ten (n : Nat) : Bt (10 ^ n) (4 * n + 1) := by
  unfold Bt
  have e : ((10 : Int) ^ n).natAbs = 10 ^ n := by rw [Int.natAbs_pow]; rfl
  rw [e]
  have h : 10 ^ n ≤ 16 ^ n := Nat.pow_le_pow_left (by decide) n
  have h2 : (16 : Nat) ^ n = 2 ^ (4 * n) := by rw [show (16 : Nat) = 2 ^ 4 from rfl, ← Nat.pow_mul]
  rw [h2] at h
  rw [Nat.pow_succ]
  have : 0 < 2 ^ (4 * n) := Nat.pow_pos (by decide)
  omega
theorem Bt.w {i j : Int} {a b : Nat} (h : Bt i a) (k : Bt j b) (l : a + b ≤ 999998 := by omega) : CMulW i j :=
  wide_mul (h.mono (Nat.le_succ a)) (k.mono (Nat.le_succ b)) (Nat.succ_pos _) (Nat.succ_pos _) (by omega)
theorem Bt.d {j : Int} {b : Nat} (h : 0 < j) (k : Bt j b) (l : b ≤ 8999 := by omega) : CDivW 0 j := wide_div h (k.mono (Nat.le_succ b)) (Nat.succ_pos _) (by omega)
theorem Bt.d' {i j : Int} {b : Nat} (h : 0 < j) (k : Bt j b) (l : b ≤ 8999 := by omega) : CDivW i j := Bt.d h k l
theorem ten_pos (n : Nat) : (0 : Int) < 10 ^ n := Int.pow_pos (by decide)
end WP
namespace WP
open PySem PySem.Spec PyProof.Rows L2
/-! ### what comes back -/
def RetT (xs : List V) (H : Hp) (Q : VK) : Prop := ∀ p H', Same H H' → H' p = some (.tup xs) → Q (.ref p) H'
def RetL (xs : List V) (H : Hp) (Q : VK) : Prop := ∀ p H', H p = none → Same H H' → H' p = some (.lst xs) → Q (.ref p) H'
def RetV (v : V) (H : Hp) (Q : VK) : Prop := ∀ H', Same H H' → Q v H'
theorem same_new {H : Hp} {p : Addr} {o : HO} (h : H p = none) : Same H (upd H p o) := fun b u e => by
  rw [upd_ne (ne_of_none e h)]; exact e
theorem same_mut {H H' : Hp} {p : Addr} {o : HO} (e : Same H H') (h : H p = none) : Same H (upd H' p o) := fun a u ha => by
  rw [upd_ne (ne_of_none ha h)]; exact e a u ha
theorem sqt {K : PySem.W.Frag} {H H' : Hp} {a : Addr} {xs : List V} (e : Same H H') (h : SqT K H a xs) : SqT K H' a xs := by
  rcases h with (h | ⟨o, h⟩) | h
  · exact .inl (.inl (e _ _ h))
  · exact .inl (.inr ⟨o, e _ _ h⟩)
  · exact .inr h
theorem RetT.new {xs : List V} {H H' : Hp} {Q : VK} (k : RetT xs H Q) (e : Same H H') : ∀ p, H' p = none → Q (.ref p) (upd H' p (.tup xs)) := fun p hp =>
  k p _ (e.trans (same_new hp)) upd_same
theorem RetL.new {xs : List V} {H H' : Hp} {Q : VK} (k : RetL xs H Q) (e : Same H H') : ∀ p, H' p = none → Q (.ref p) (upd H' p (.lst xs)) := fun p hp =>
  k p _ (e.free hp) (e.trans (same_new hp)) upd_same
/-- a decimal's two parts -/
abbrev dv (u : Int) (s : Nat) : List V := [.int u, .int (s : Int)]
theorem at0 {α : Type} {x : α} {xs : List α} : atI (x :: xs) (0 : Int) = some x := atI_nat (j := 0) rfl
theorem at1 {α : Type} {x y : α} {xs : List α} : atI (x :: y :: xs) (1 : Int) = some y := atI_nat (j := 1) rfl
theorem at2 {α : Type} {x y z : α} {xs : List α} : atI (x :: y :: z :: xs) (2 : Int) = some z := atI_nat (j := 2) rfl
theorem at3 {α : Type} {x y z u : α} {xs : List α} : atI (x :: y :: z :: u :: xs) (3 : Int) = some u := atI_nat (j := 3) rfl
theorem at4 {α : Type} {x y z u v : α} {xs : List α} : atI (x :: y :: z :: u :: v :: xs) (4 : Int) = some v := atI_nat (j := 4) rfl
section
variable {K : PySem.W.Frag} {H : Hp} {p : Addr} {xs : List V} {v : V} {i : Int} {Q : VK}
theorem ixT (h : SqT K H p xs) (a : atI xs i = some v) (q : Q v H) : rIxT K (.ref p) (.int i) H Q := ⟨p, xs, i, v, rfl, rfl, h, a, q⟩
theorem ixL (h : SqL K H p xs) (a : atI xs i = some v) (q : Q v H) : rIxL K (.ref p) (.int i) H Q := ⟨p, xs, i, v, rfl, rfl, h, a, q⟩
theorem unT {n : Nat} {t : TGs} {σ : L2.St} {QS : L2.St → Hp → Prop} (h : SqT K H p xs) (l : xs.length = n) (q : t xs σ H QS) : gTup K n t (.ref p) σ H QS := ⟨p, xs, rfl, h, l, q⟩
theorem gsCons {g : TG} {gs : TGs} {x : V} {r : List V} {σ : L2.St} {QS : L2.St → Hp → Prop} (q : g x σ H fun σ' H' => gs r σ' H' QS) : gCons g gs (x :: r) σ H QS := ⟨x, r, rfl, q⟩
theorem gsNil {σ : L2.St} {QS : L2.St → Hp → Prop} (q : QS σ H) : gNil [] σ H QS := ⟨rfl, q⟩
end
end WP
namespace WP
open PySem PySem.Spec PyProof.Rows L2
section
variable {K : PySem.W.Frag} {H : Hp} {p : Addr} {xs : List V} {v x : V} {i : Int} {Q : VK} {σ : L2.St} {D : Ends}
theorem forl {wi : TI} {g : TG} {tb : TS} (h : wi σ H fun J H1 => ∃ W : Nat → Nat → L2.St → Hp → Prop, (∃ m, W 0 m σ H1) ∧ ∀ i m σ H, W i m σ H →
  (J.stop i H ∧ D.nx σ H) ∨ (J.go i H ∧ ∃ N : L2.St → Hp → Prop, (∀ σ' H', N σ' H' → ∃ m', m' < m ∧ W (i + 1) m' σ' H') ∧ ∀ x H', J.yld i H x H' → g x σ H' fun σ2 H2 => tb { D with nx := N, ct := N, bk := D.nx } σ2 H2)) : tFor wi g tb D σ H := h
theorem rng1 {ta : TA} {R : It → Hp → Prop} (h : ta σ H fun vs H1 => ∃ j : Int, vs = [.int j] ∧ -(2 ^ 62) ≤ j ∧ j < 2 ^ 62 ∧ R (Itr 0 j.toNat) H1) : iRng1 ta σ H R := h
theorem rng2 {ta : TA} {R : It → Hp → Prop} (h : ta σ H fun vs H1 => ∃ i j : Int, vs = [.int i, .int j] ∧ (-(2 ^ 62) ≤ i ∧ i < 2 ^ 62 ∧ -(2 ^ 62) ≤ j ∧ j < 2 ^ 62) ∧ R (Itr i (j - i).toNat) H1) : iRng2 ta σ H R := h
theorem walkL {tl : TE} {R : It → Hp → Prop} (h : tl σ H fun x H1 => ∃ a, x = .ref a ∧ (∃ xs, SqL K H1 a xs) ∧ R (Itl K a) H1) : iList K tl σ H R := h
theorem walkT {tl : TE} {R : It → Hp → Prop} (h : tl σ H fun x H1 => ∃ a, x = .ref a ∧ (∃ xs, SqT K H1 a xs) ∧ R (Itt K a) H1) : iTup K tl σ H R := h
theorem isT {t n : String} {b : Bool} (ty : TyX K H x (.type t)) (q : Q (.bl b) H) (hb : kitB t n = some b := by decide +kernel) : rIsi K [x, .ty n] H Q :=
  ⟨x, .ty n, _, _, b, rfl, ClsV.ty n, ty, kit_ty hb, q⟩
theorem isY {t n : String} (ty : TyX K H x (.type t)) (q : Q (.bl true) H) (hb : kitB t n = some true := by decide +kernel) : rIsi K [x, .ty n] H Q := isT ty q hb
theorem isN {t n : String} (ty : TyX K H x (.type t)) (q : Q (.bl false) H) (hb : kitB t n = some false := by decide +kernel) : rIsi K [x, .ty n] H Q := isT ty q hb
def rLen (K : PySem.W.Frag) : List V → Hp → VK → Prop := fun xs H Q => ∃ x n, xs = [x] ∧ LenV K x H n ∧ Q (.int (n : Nat)) H
theorem c_len {X : Cx} : CallR X (.builtin "len") (rLen X.K) := call_len
theorem lenL (h : SqL K H p xs) (q : Q (.int (xs.length : Int)) H) : rLen K [V.ref p] H Q := ⟨_, _, rfl, .inl ⟨xs, h, rfl⟩, q⟩
theorem lenT (h : SqT K H p xs) (q : Q (.int (xs.length : Int)) H) : rLen K [V.ref p] H Q := ⟨_, _, rfl, .inr ⟨xs, h, rfl⟩, q⟩
theorem lenS {z : Str} (h : z.length ≤ sizeLine) (q : Q (.int (z.length : Int)) H) : rLen K [V.str z] H Q := ⟨_, _, rfl, ⟨h, rfl⟩, q⟩
def rInt1 : List V → Hp → VK → Prop := fun xs H Q => (∃ i, xs = [.int i] ∧ Q (.int i) H) ∨ ∃ k, xs = [.bl k] ∧ Q (.int (if k then 1 else 0)) H
theorem c_int1 {X : Cx} : CallR X (.type "int") rInt1 := call_int1
theorem intI (q : Q (.int i) H) : rInt1 [V.int i] H Q := .inl ⟨i, rfl, q⟩
theorem intB {b : Bool} (q : Q (.int (if b then 1 else 0)) H) : rInt1 [V.bl b] H Q := .inr ⟨b, rfl, q⟩
def rAbs : List V → Hp → VK → Prop := fun xs H Q => ∃ i, xs = [.int i] ∧ Q (.int (if i < 0 then -i else i)) H
theorem c_abs {X : Cx} : CallR X (.builtin "abs") rAbs := call_abs
theorem absI (q : Q (.int (i.natAbs : Int)) H) : rAbs [V.int i] H Q := ⟨i, rfl, by
  have e : (if i < 0 then -i else i) = (i.natAbs : Int) := by split <;> omega
  rw [e]; exact q⟩
def rMax2 : List V → Hp → VK → Prop := fun xs H Q => ∃ i j, xs = [.int i, .int j] ∧ Q (.int (if j > i then j else i)) H
def rMin2 : List V → Hp → VK → Prop := fun xs H Q => ∃ i j, xs = [.int i, .int j] ∧ Q (.int (if j < i then j else i)) H
theorem c_max2 {X : Cx} (hc : X.calm = true) : CallR X (.builtin "max") rMax2 := call_max2 hc
theorem c_min2 {X : Cx} (hc : X.calm = true) : CallR X (.builtin "min") rMin2 := call_min2 hc
theorem maxI {j : Int} (q : Q (.int (max i j)) H) : rMax2 [V.int i, V.int j] H Q := ⟨i, j, rfl, by
  have e : (if j > i then j else i) = max i j := by split <;> omega
  rw [e]; exact q⟩
theorem minI {j : Int} (q : Q (.int (min i j)) H) : rMin2 [V.int i, V.int j] H Q := ⟨i, j, rfl, by
  have e : (if j < i then j else i) = min i j := by split <;> omega
  rw [e]; exact q⟩
def rStrI : List V → Hp → VK → Prop := fun xs H Q => ∃ i : Int, xs = [.int i] ∧ i.natAbs.log2 < 1920 ∧ Q (.str (toString i)) H
theorem c_str {X : Cx} : CallR X (.type "str") rStrI := call_str_int
theorem strI (h : i.natAbs.log2 < 1920) (q : Q (.str (toString i)) H) : rStrI [V.int i] H Q := ⟨i, rfl, h, q⟩
def rListOf (K : PySem.W.Frag) : List V → Hp → VK → Prop := fun xs H Q => ∃ p ys, xs = [.ref p] ∧ (SqL K H p ys ∨ SqT K H p ys) ∧ ∀ l, H l = none → Q (.ref l) (upd H l (.lst ys))
theorem c_listOf {X : Cx} : CallR X (.type "list") (rListOf X.K) := call_list_of
theorem listL (h : SqL K H p xs) (q : ∀ l, H l = none → Q (.ref l) (upd H l (.lst xs))) : rListOf K [V.ref p] H Q := ⟨p, xs, rfl, .inl h, q⟩
theorem listT (h : SqT K H p xs) (q : ∀ l, H l = none → Q (.ref l) (upd H l (.lst xs))) : rListOf K [V.ref p] H Q := ⟨p, xs, rfl, .inr h, q⟩
def rTupOf (K : PySem.W.Frag) : List V → Hp → VK → Prop := fun xs H Q => ∃ p ys, xs = [.ref p] ∧ ((SqL K H p ys ∧ ∀ l, H l = none → Q (.ref l) (upd H l (.tup ys))) ∨ (SqT K H p ys ∧ Q (.ref p) H))
theorem c_tupOf {X : Cx} : CallR X (.type "tuple") (rTupOf X.K) := call_tuple_of
theorem tupL (h : SqL K H p xs) (q : ∀ l, H l = none → Q (.ref l) (upd H l (.tup xs))) : rTupOf K [V.ref p] H Q := ⟨p, xs, rfl, .inl ⟨h, q⟩⟩
def rOrd : List V → Hp → VK → Prop := fun xs H Q => ∃ x : Str, xs = [.str x] ∧ x.length = 1 ∧ Q (.int (x.cps.getD 0 0 : Nat)) H
theorem c_ord {X : Cx} : CallR X (.builtin "ord") rOrd := call_ord
theorem ordS {z : Str} (h : z.length = 1) (q : Q (.int (z.cps.getD 0 0 : Nat)) H) : rOrd [V.str z] H Q := ⟨z, rfl, h, q⟩
def rDivmod : List V → Hp → VK → Prop := fun xs H Q => ∃ i j, xs = [.int i, .int j] ∧ CDiv i j ∧ ∀ p, H p = none → Q (.ref p) (upd H p (.tup [.int (i / j), .int (i % j)]))
theorem c_divmod {X : Cx} : CallR X (.builtin "divmod") rDivmod := call_divmod
theorem sql {H' : Hp} {a : Addr} (e : Same H H') (h : SqL K H a xs) : SqL K H' a xs := e.seq h
theorem at_ints {ns : List Int} (h0 : 0 ≤ i) (h1 : i < (ns.length : Int)) : atI (ns.map V.int) i = some (.int (ns.getD i.toNat 0)) := by
  have e : i = ((i.toNat : Nat) : Int) := (Int.toNat_of_nonneg h0).symm
  rw [e]
  refine atI_nat ?_
  have hl : i.toNat < ns.length := by omega
  rw [List.getElem?_map, List.getElem?_eq_getElem hl, Int.toNat_natCast, List.getD_eq_getElem?_getD, List.getElem?_eq_getElem hl]
  rfl
end
end WP
namespace WP
open PySem PySem.Spec PyProof.Rows L2
section
variable {X : Cx}
theorem cut {t u : TS} {D : Ends} {σ : L2.St} {H : Hp} (Mid : L2.St → Hp → Prop) (h : t { D with nx := Mid } σ H) (k : ∀ σ' H', Mid σ' H' → u D σ' H') : Evl.tCut t u D σ H := ⟨Mid, h, k⟩
end
/-! ### == of data -/
section
variable {K : PySem.W.Frag} {H : Hp} {x y : V} {d e : PyData} {Q : VK}
theorem eqD (a : Dp K H x d) (b : Dp K H y e) (h : Q (.bl (PyData.eqv d e)) H) (s1 : SeqAt.shaped d = true := by first | rfl | decide +kernel) (s2 : SeqAt.shaped e = true := by first | rfl | decide +kernel) : rEqD K x y H Q := ⟨d, e, a, b, s1, s2, h⟩
theorem neD (a : Dp K H x d) (b : Dp K H y e) (h : Q (.bl (!PyData.eqv d e)) H) (s1 : SeqAt.shaped d = true := by first | rfl | decide +kernel) (s2 : SeqAt.shaped e = true := by first | rfl | decide +kernel) : rNeD K x y H Q := ⟨d, e, a, b, s1, s2, h⟩
theorem dpv {p : Addr} {u : Int} {s : Nat} (h : SqT K H p (dv u s)) : Dp K H (.ref p) (.tuple [.int u, .int (s : Int)]) := .tup h (.cons (.int _) (.cons (.int _) .nil))
end
end WP
namespace WP
open PySem PySem.Spec PyProof.Rows L2
abbrev MG := Str → Option Value
/-- the address that a module's name holds -/
def ca (mg : MG) (nm : Str) : Addr := match mg nm with
  | some (.ref a) => a
  | _ => 0
theorem ca_of {mg : MG} {nm : Str} {a : Addr} (h : mg nm = some (.ref a)) : ca mg nm = a := by unfold ca; rw [h]
/-! ### own exceptions without an __init__ of their own -/
structure ExcAt (K : PySem.W.Frag) (C : Addr) : Prop where
  x : PySem.W.excIn K C [.type "ValueError", .type "Exception", .type "BaseException", .type "object"] "ValueError.__new__" = true
  k : PySem.W.keepIn K (.ref C) = true
  t : PySem.W.typeIn K (.ref C) = some (.type "type")
  c : ExcC K C
structure ExcOk (K : PySem.W.Frag) (mg : MG) (nm : Str) : Prop where
  m : mg nm = some (.ref (ca mg nm))
  a : ExcAt K (ca mg nm)
theorem ExcOk.mk' {K : PySem.W.Frag} {mg : MG} {nm : Str} {C : Addr} (h : mg nm = some (.ref C)) (x : ExcAt K C) : ExcOk K mg nm := by
  have e := ca_of h
  exact ⟨by rw [e]; exact h, by rw [e]; exact x⟩
theorem ExcAt.raises {X : Cx} {C : Addr} (x : ExcAt X.K C) : Raises X (.ref C) := raises_own x.c.hs x.t
theorem ExcAt.catches {K : PySem.W.Frag} {C : Addr} (x : ExcAt K C) {cls : Value} {b : Bool} (h : PySem.W.subIn K cls (.ref C) = some b) : PySem.W.exmOne K cls (.ref C) = some b := PySem.W.exm_ref x.c.hs x.c.hd x.t h
section
variable {X : Cx} {x m : Str} {j : Nat} {p p2 pos pos2 : Pos} {W : WX}
theorem ps_raiseC (hc : X.calm = true) (tk : Takes X W) (e : ExcOk X.K X.mg x) (hg : Gl X x) (hdb : (x == ("__debug__" : Str)) = false := by decide) :
    PS X (.Raise (some (.Call (.Name x p) [.Constant (.str m) j p2] [] pos)) none pos2) (fun _ σ H => W (.ref (ca X.mg x)) none σ H) :=
  ps_raise hc tk (pmk_own PySem.F.excBase_ValueError e.a.x e.m e.a.k e.a.raises hg hdb)
end
/-- isinstance of the caught error -/
def rIsX (K : PySem.W.Frag) (a : Addr) (cls : Value) (d : Option Addr) : List V → Hp → VK → Prop := fun xs H Q => ∃ D, cls = .ref D ∧ d = none ∧ ExcC K D ∧ rIsE K D a xs H Q
theorem call_isX {X : Cx} {a : Addr} {oe : Obj} {cls : Value} {d : Option Addr} {pn : List (Addr × Obj)} (hz : Zc cls d oe) (hf : ∃ vs, oe.data = .fields vs) : CallR (X.suite a ((a, oe) :: pn)) (.builtin "isinstance") (rIsX X.K a cls d) := by
  intro pins s σ H xs us Q I r h
  obtain ⟨D, rfl, rfl, c, h⟩ := h
  exact call_isE c hz hf pins s σ H xs us Q I r h
theorem isX {K : PySem.W.Frag} {a D C : Addr} {b : Bool} {H : Hp} {Q : VK} (c : ExcC K D) (h : PySem.W.kitOne K (.ref D) (.ref C) = some b) (q : Q (.bl b) H) : rIsX K a (.ref D) none [.ref a, .ref C] H Q :=
  ⟨D, rfl, rfl, c, .ref C, .ref C, b, rfl, fun _ r => r, h, q⟩
section
variable {X : Cx} {CX' : CXT} {k j : Nat} {ps : List Str} {sp : Sp} {E : L2.St → XK} {E0 : XK} {x : Str} {p pos : Pos} {e : Expr} {es : List Expr} {t : TA}
theorem pe_callSC (C : Callee X.prog X.w X.K X.mg X.base (L2.CX X.prog X.w) k x ps sp) (hr : Room j X.A) (hg : Gl X x) (hx : ∀ σ, PassesAt (L2.CX X.prog X.w) X σ (E σ)) (ha : PA X (e :: es) t) (hl : k ≤ j := by decide)
    (hdb : (x == ("__debug__" : Str)) = false := by decide) (he : starEach (e :: es) X.env = (false, eval e X.env) :: starEach es X.env := by rfl) (hpl : (backTo pos (starEach es X.env)).any (·.1) = false := by rfl) :
    PE X (.Call (.Name x p) (e :: es) [] pos) (tCallS sp E t) := by
  obtain ⟨f, fd, F, hm, hk, hb⟩ := C.ex
  exact pe_callS F (hr.mono hl) hg hm hk hb hx ha hdb he hpl
/-- what a callee lets out leaves this def too -/
theorem passX {E : XK} {E₁ : Value → Shared → Prop} (hs : X.stack = X.env :: X.outer) (hf : X.env.frame = some X.env.locals) (hex : X.ex = [])
    (hx : X.xe = fun e s' => wpAny (model X.prog X.w) X.A (leaving X.env e) (fun _ s'' => L2.CX X.prog X.w X.outer X.H_0 X.s_0 E e s'') E₁ s') : Passes (L2.CX X.prog X.w) X E :=
  fun pins σ H s e s' I c => passes_call (takes_of hs hf hex hx) (fun _ _ _ _ z => z) pins σ H s e s' I c
end
theorem callS {sp : Sp} {E : L2.St → XK} {a : TA} {σ : L2.St} {H : Hp} {Q : VK} (h : a σ H fun vs H1 => sp vs H1 Q (E σ)) : tCallS sp E a σ H Q := h
end WP
namespace WP
open PySem PySem.Spec PyProof.Rows L2
def rDivmodW : List V → Hp → VK → Prop := fun xs H Q => ∃ i j, xs = [.int i, .int j] ∧ CDivP i j ∧ ∀ p, H p = none → Q (.ref p) (upd H p (.tup [.int (i / j), .int (i % j)]))
theorem c_divmodW {X : Cx} : CallR X (.builtin "divmod") rDivmodW := call_divmodW
theorem Bt.p {i j : Int} {a : Nat} (h : Bt i a) (hj : 0 < j) (l : a ≤ 4000 := by omega) : CDivP i j := divp_ok hj (by have := intBits_le h; omega)
theorem divW {i j : Int} {H : Hp} {Q : VK} (c : CDivP i j) (q : ∀ p, H p = none → Q (.ref p) (upd H p (.tup [.int (i / j), .int (i % j)]))) : rDivmodW [.int i, .int j] H Q := ⟨i, j, rfl, c, q⟩
end WP

namespace WP
open PySem PySem.Spec PyProof.Rows L2
open SX (S S_len S_cat)
section
variable {X : Cx}
theorem pe_strL {x : Str} {j pos} (l : List Nat) (h : x = S l) : PE X (.Constant (.str x) j pos) (tC (.str (S l))) := by subst h; exact pe_str
/-- text * number -/
def rMulS : R2 := fun x y H Q => ∃ (a : Str) (i : Int), x = .str a ∧ y = .int i ∧ MulOk a i ∧ Q (.str (Txt.mul a i)) H
theorem op_mul_str : OpR X (binaryOp .Mult) rMulS := by
  intro pins s σ H x y v u Q I rx ry h
  obtain ⟨a, i, rfl, rfl, hz, q⟩ := h
  obtain ⟨t, rfl⟩ := rx
  obtain ⟨t', rfl⟩ := ry
  exact SB.mul hz fun t' k => ⟨.str _, H, I.tok _, ⟨_, rfl⟩, q⟩
def rAddS : R2 := fun x y H Q => ∃ (a b : Str), x = .str a ∧ y = .str b ∧ a.length + b.length ≤ sizeLine ∧ Q (.str (a ++ b)) H
theorem op_addS : OpR X (binaryOp .Add) rAddS := op_add_str
def rZfill : V → List V → Hp → VK → Prop := fun x xs H Q => ∃ (a : Str) (i : Int), x = .str a ∧ xs = [.int i] ∧ PadOk i = true ∧ Q (.str (Txt.zfill a i)) H
theorem m_zfill : MtR X "str.zfill" rZfill := mt_zfill
def rIntS : List V → Hp → VK → Prop := fun xs H Q => ∃ (a : Str) (n : Int), xs = [.str a] ∧ PySem.intText? a = some n ∧ a.length ≤ 640 ∧ Q (.int n) H
theorem c_intS : CallR X (.type "int") rIntS := call_int_str
end
section
variable {a b l : List Nat} {i : Int} {H : Hp} {Q : VK}
theorem catS (q : Q (.str (S (a ++ b))) H) (h : a.length + b.length ≤ sizeLine := by size_fits) : rAddS (.str (S a)) (.str (S b)) H Q := ⟨_, _, rfl, rfl, by rw [S_len, S_len]; exact h, by rw [S_cat]; exact q⟩
theorem reps1 (c : Nat) : ∀ (k : Nat) (acc : Array Nat), ((List.replicate k #[c]).foldl (· ++ ·) acc) = (acc.toList ++ List.replicate k c).toArray
  | 0, acc => by simp
  | k + 1, acc => by
    rw [List.replicate_succ, List.foldl_cons, reps1 c k]
    simp [List.replicate_succ]
theorem mul_S (c : Nat) (i : Int) : Txt.mul (S [c]) i = S (List.replicate i.toNat c) := by
  unfold Txt.mul
  split
  · rename_i h
    rw [show i.toNat = 0 by omega]; rfl
  · rename_i h
    split
    · rename_i h2
      have : i = 1 := by
        rw [Bool.or_eq_true] at h2
        rcases h2 with h2 | h2
        · exact eq_of_beq h2
        · exact absurd h2 (by rw [S_len]; exact Bool.false_ne_true)
      subst this
      rfl
    · show (⟨(List.replicate i.toNat #[c]).foldl (· ++ ·) #[]⟩ : Str) = _
      rw [reps1]; simp [S]
theorem mulOk1 (c : Nat) {i : Int} (h : i ≤ 100000) (h2 : -100000 ≤ i) : MulOk (S [c]) i := by
  refine ⟨by rw [decide_eq_false (by omega), decide_eq_false (by omega)]; rfl, fun h1 _ => ?_, fun h1 _ => ?_⟩
  · rw [S_len]
    show ¬ (((1 : Nat) : Int) > _)
    have : (1 : Int) ≤ (2 ^ 63 - 1) / i := by
      rw [Int.le_ediv_iff_mul_le (by omega)]; omega
    omega
  · rw [S_len]
    unfold Builtin.Str.tooLong
    exact decide_eq_false (by rw [sizeLine_eq]; show ¬ (1 * i.toNat > _); omega)
theorem mulS {c : Nat} (h : i ≤ 100000) (h2 : -100000 ≤ i) (q : Q (.str (S (List.replicate i.toNat c))) H) : rMulS (.str (S [c])) (.int i) H Q :=
  ⟨_, _, rfl, rfl, mulOk1 c h h2, by rw [mul_S]; exact q⟩
/-- zfill of a text without a sign -/
theorem zfill_S (h : ∀ c, l.head? = some c → c ≠ 43 ∧ c ≠ 45) (hi : 0 ≤ i) : Txt.zfill (S l) i = S (List.replicate (i.toNat - l.length) 48 ++ l) := by
  unfold Txt.zfill
  rw [S_len]
  split
  · rename_i h1
    rw [show i.toNat - l.length = 0 by omega]; rfl
  · unfold PySem.zfilled
    have e : (S l).cps[0]? = l.head? := by simp [S, List.head?_eq_getElem?]
    rw [e]
    have fin : Builtin.Str.padded (S l) (i.toNat - l.length) 0 48 = S (List.replicate (i.toNat - l.length) 48 ++ l) := by
      unfold Builtin.Str.padded
      simp [S]
    split
    · rename_i hc; exact absurd rfl (h _ hc).1
    · rename_i hc; exact absurd rfl (h _ hc).2
    · exact fin
theorem zfillS (h : ∀ c, l.head? = some c → c ≠ 43 ∧ c ≠ 45) (hi : 0 ≤ i) (h2 : i ≤ 100000) (q : Q (.str (S (List.replicate (i.toNat - l.length) 48 ++ l))) H) : rZfill (.str (S l)) [.int i] H Q :=
  ⟨_, _, rfl, rfl, by unfold PadOk fitsSsize; rw [decide_eq_false (by omega), decide_eq_false (by omega)]; unfold Builtin.Str.tooLong; rw [decide_eq_false (by rw [sizeLine_eq]; omega)]; rfl, by rw [zfill_S h hi]; exact q⟩
theorem lenS' (h : l.length ≤ sizeLine) (q : Q (.int (l.length : Int)) H) {K : PySem.W.Frag} : rLen K [V.str (S l)] H Q := ⟨_, _, rfl, ⟨by rw [S_len]; exact h, rfl⟩, by rw [S_len]; exact q⟩
theorem strN {n : Nat} (h : n.log2 < 1920) (q : Q (.str (S (TL.numL n))) H) : rStrI [V.int (n : Int)] H Q := ⟨_, rfl, by rw [Int.natAbs_natCast]; exact h, by
  have e : Str.ofString (toString ((n : Nat) : Int)) = S (TL.numL n) := SX.num_S n
  rw [e]; exact q⟩
theorem intSd (h : l.all (fun c => decide (48 ≤ c) && decide (c ≤ 57)) = true) (hne : l ≠ []) (hl : l.length ≤ 640) (q : Q (.int ((NumText.digitsVal l : Nat) : Int)) H) : rIntS [V.str (S l)] H Q :=
  ⟨_, _, rfl, SX.int_S h hne (by omega), by rw [S_len]; exact hl, q⟩
theorem slS {lo hi : Option Int} (z : Str) (h : z.length ≤ sizeLine) (q : Q (.str (Txt.slice z lo hi)) H) : rSlS (.str z) lo hi H Q := ⟨z, rfl, h, by rw [C8.cutS_slice]; exact q⟩
theorem slTo (hi : 0 ≤ i) (h : l.length ≤ sizeLine) (q : Q (.str (S (l.take i.toNat))) H) : rSlS (.str (S l)) none (some i) H Q := slS _ (by rw [S_len]; exact h) (by rw [SX.slice_to hi]; exact q)
theorem slFrom (hi : 0 ≤ i) (h : l.length ≤ sizeLine) (q : Q (.str (S (l.drop i.toNat))) H) : rSlS (.str (S l)) (some i) none H Q := slS _ (by rw [S_len]; exact h) (by rw [SX.slice_from hi]; exact q)
/-- an index from the end -/
theorem idx_neg_hi {l1 : Option Int} {n : Nat} {i : Int} (h : i < 0) (h2 : 0 ≤ i + n) : Builtin.Str.strSliceIndices l1 (some i) 1 n = Builtin.Str.strSliceIndices l1 (some (i + n)) 1 n := by
  have h1 : ¬ (i + n < 0) := by omega
  simp only [Builtin.Str.strSliceIndices, h, h1, if_false, if_true]
theorem idx_neg_lo {l1 : Option Int} {n : Nat} {i : Int} (h : i < 0) (h2 : 0 ≤ i + n) : Builtin.Str.strSliceIndices (some i) l1 1 n = Builtin.Str.strSliceIndices (some (i + n)) l1 1 n := by
  have h1 : ¬ (i + n < 0) := by omega
  simp only [Builtin.Str.strSliceIndices, h, h1, if_false, if_true]
theorem slice_toN (h : i < 0) (h2 : 0 ≤ i + (l.length : Int)) : Txt.slice (S l) none (some i) = S (l.take (i + (l.length : Int)).toNat) := by
  rw [← SX.slice_to h2]
  unfold Txt.slice
  rw [S_len, idx_neg_hi h h2]
theorem slice_fromN (h : i < 0) (h2 : 0 ≤ i + (l.length : Int)) : Txt.slice (S l) (some i) none = S (l.drop (i + (l.length : Int)).toNat) := by
  rw [← SX.slice_from h2]
  unfold Txt.slice
  rw [S_len, idx_neg_lo h h2]
theorem slToN (hi : i < 0) (h2 : 0 ≤ i + (l.length : Int)) (h : l.length ≤ sizeLine) (q : Q (.str (S (l.take (i + (l.length : Int)).toNat))) H) : rSlS (.str (S l)) none (some i) H Q := slS _ (by rw [S_len]; exact h) (by rw [slice_toN hi h2]; exact q)
theorem slFromN (hi : i < 0) (h2 : 0 ≤ i + (l.length : Int)) (h : l.length ≤ sizeLine) (q : Q (.str (S (l.drop (i + (l.length : Int)).toNat))) H) : rSlS (.str (S l)) (some i) none H Q := slS _ (by rw [S_len]; exact h) (by rw [slice_fromN hi h2]; exact q)
theorem eqTS {a b : List Nat} (h : Q (.bl (decide (a = b))) H) : rEq (.str (S a)) (.str (S b)) H Q := ⟨rfl, by
  have e : decide ((S a : Str) = S b) = decide (a = b) := by
    by_cases h : a = b
    · subst h; rw [decide_eq_true rfl, decide_eq_true rfl]
    · rw [decide_eq_false h, decide_eq_false fun z => h (SX.S_inj z)]
  rw [dec_str, e]; exact h⟩
theorem neTS {a b : List Nat} (h : Q (.bl (!decide (a = b))) H) : rNe (.str (S a)) (.str (S b)) H Q := ⟨rfl, by
  have e : decide ((S a : Str) = S b) = decide (a = b) := by
    by_cases h : a = b
    · subst h; rw [decide_eq_true rfl, decide_eq_true rfl]
    · rw [decide_eq_false h, decide_eq_false fun z => h (SX.S_inj z)]
  rw [dec_str, e]; exact h⟩
/-- range with a step -/
theorem rng3 {ta : TA} {σ : L2.St} {R : It → Hp → Prop} (h : ta σ H fun vs H1 => ∃ (i j c : Int) (n : Nat), vs = [.int i, .int j, .int c] ∧ RgC i j c n ∧ R (Itc i c n) H1) : iRng3 ta σ H R := h
end
/-! ### the figures of a number -/
/-- k figures of n -/
def padL : Nat → Nat → List Nat
  | 0, _ => []
  | k + 1, n => padL k (n / 10) ++ [48 + n % 10]
theorem padL_len : ∀ k n, (padL k n).length = k
  | 0, _ => rfl
  | k + 1, n => by unfold padL; rw [List.length_append, padL_len]; rfl
theorem numL_app : ∀ (k q r : Nat), 0 < q → r < 10 ^ k → TL.numL (q * 10 ^ k + r) = TL.numL q ++ padL k r
  | 0, q, r, _, hr => by
    have : r = 0 := by simp at hr; exact hr
    subst this
    simp [padL]
  | k + 1, q, r, hq, hr => by
    have e10 : 10 ^ (k + 1) = 10 ^ k * 10 := Nat.pow_succ ..
    have hp : 0 < 10 ^ k := Nat.pow_pos (by decide)
    have b : 10 ≤ q * 10 ^ (k + 1) + r := by
      have : 1 * 10 ^ (k + 1) ≤ q * 10 ^ (k + 1) := Nat.mul_le_mul_right _ hq
      omega
    have d : (q * 10 ^ (k + 1) + r) / 10 = q * 10 ^ k + r / 10 := by
      rw [e10, ← Nat.mul_assoc]; omega
    have m : (q * 10 ^ (k + 1) + r) % 10 = r % 10 := by
      rw [e10, ← Nat.mul_assoc]; omega
    rw [TL.numL_step b, d, m, numL_app k q (r / 10) hq (by omega)]
    rw [show padL (k + 1) r = padL k (r / 10) ++ [48 + r % 10] from rfl, List.append_assoc]
theorem padL_zero : ∀ k, padL k 0 = List.replicate k 48
  | 0 => rfl
  | k + 1 => by unfold padL; rw [show 0 / 10 = 0 from rfl, padL_zero k, List.replicate_succ']
theorem padL_num : ∀ (k n : Nat), 0 < k → n < 10 ^ k → padL k n = List.replicate (k - (TL.numL n).length) 48 ++ TL.numL n
  | k + 1, n, _, h => by
    by_cases c : n < 10
    · rw [TL.numL_lt c]
      unfold padL
      rw [show n / 10 = 0 by omega, padL_zero, show n % 10 = n by omega]
      rfl
    · have hk : 0 < k := by
        rcases k with _ | k
        · simp at h; omega
        · omega
      have e10 : 10 ^ (k + 1) = 10 ^ k * 10 := Nat.pow_succ ..
      rw [TL.numL_step (by omega)]
      unfold padL
      rw [padL_num k (n / 10) hk (by omega), List.length_append, List.append_assoc]
      congr 2
      simp
theorem numL_head {n c : Nat} (h : (TL.numL n).head? = some c) : c ≠ 43 ∧ c ≠ 45 := by
  have m : c ∈ TL.numL n := List.mem_of_head? h
  have := TL.numL_digits n c m
  omega
theorem digits_rep (n : Nat) : NumText.digitsVal (49 :: List.replicate n 48) = 10 ^ n := by
  unfold NumText.digitsVal
  rw [List.foldl_cons]
  have : ∀ (n a : Nat), (List.replicate n 48).foldl (fun acc c => acc * 10 + (c - 48)) a = a * 10 ^ n := by
    intro n
    induction n with
    | zero => intro a; simp
    | succ n ih => intro a; rw [List.replicate_succ, List.foldl_cons, ih, Nat.pow_succ]; rw [Nat.sub_self, Nat.add_zero, Nat.mul_assoc, Nat.mul_comm 10]
  rw [this]; simp
end WP
namespace WP
open PySem PySem.Spec PyProof.Rows L2
section
variable {K : PySem.W.Frag} {σ : L2.St} {H : Hp} {Q : VK} {x v : V} {p : Addr} {xs : List V}
theorem bm {T : String} {r : V → List V → Hp → VK → Prop} {to : TE} {t : TA} (h : to σ H fun x H1 => tyV K T x H1 ∧ t σ H1 fun xs H2 => r x xs H2 Q) : tBM K T r to t σ H Q := h
theorem tyS {z : Str} {A : Prop} (q : A) : tyV K "str" (.str z) H ∧ A := ⟨rfl, q⟩
theorem gsub {to ti : TE} {t : TSet} {QS : L2.St → Hp → Prop} (h : to σ H fun o H1 => ti σ H1 fun i H2 => t o i v H2 fun H3 => QS σ H3) : gSub to ti t v σ H QS := h
theorem setL {k : Int} {j : Nat} {R : Hp → Prop} (hp : H p = some (.lst xs)) (hj : ixN xs.length k = some j) (q : R (upd H p (.lst (xs.set j v)))) : rSetL (.ref p) (.int k) v H R := ⟨p, xs, k, j, rfl, rfl, hp, hj, q⟩
theorem appL (hp : H p = some (.lst xs)) (hz : xs.length < sizeLine) (q : Q .non (upd H p (.lst (xs ++ [v])))) : rAppend (.ref p) [v] H Q := ⟨p, xs, v, rfl, rfl, hp, hz, q⟩
theorem tyL {A : Prop} (hp : SqL K H p xs) (q : A) : tyV K "list" (.ref p) H ∧ A := ⟨.inl ⟨rfl, xs, hp⟩, q⟩
theorem tyT (h : SqT K H p xs) : TyX K H (.ref p) (.type "tuple") := by
  rcases h with (h | ⟨o, h⟩) | h
  · exact .base (.tup h)
  · exact .fTuple h
  · obtain ⟨o, its, n, h1, h2, h3⟩ := h
    exact .kTuple h1 h2
/-- all objects but the one at d are kept -/
def Sx (d : Addr) (H H' : Hp) : Prop := ∀ a o, a ≠ d → H a = some o → H' a = some o
theorem Sx.refl {d : Addr} {H : Hp} : Sx d H H := fun _ _ _ e => e
theorem Sx.trans {d : Addr} {H H' H2 : Hp} (h : Sx d H H') (k : Sx d H' H2) : Sx d H H2 := fun a o n e => k a o n (h a o n e)
theorem Sx.of {d : Addr} {H H' : Hp} (h : Same H H') : Sx d H H' := fun a o _ e => h a o e
theorem Sx.upd {d : Addr} {H : Hp} {o : HO} : Sx d H (upd H d o) := fun a u n e => by rw [upd_ne n]; exact e
theorem sqtX {d : Addr} {H H' : Hp} {ys : List V} (e : Sx d H H') (hd : H d = some (.lst ys)) (h : SqT K H p xs) : SqT K H' p xs := by
  rcases h with (h | ⟨o, h⟩) | h
  · exact .inl (.inl (e _ _ (fun z => by rw [z, hd] at h; cases h) h))
  · exact .inl (.inr ⟨o, e _ _ (fun z => by rw [z, hd] at h; cases h) h⟩)
  · exact .inr h
end
end WP
namespace WP
theorem log2_lt {n k : Nat} (hk : 0 < k) (h : n < 2 ^ k) : n.log2 < k := by
  by_cases z : n = 0
  · subst z; exact hk
  · exact (Nat.log2_lt z).mpr h
end WP
namespace WP
open PySem PySem.Spec PyProof.Rows L2
theorem ifSS {c : Prop} [Decidable c] {a b : List Nat} {σ : L2.St} {H : Hp} {Q : VK} (q : Q (.str (SX.S (if c then a else b))) H) : if decide c = true then tC (.str (SX.S a)) σ H Q else tC (.str (SX.S b)) σ H Q := by
  by_cases h : c
  · rw [if_pos (decide_eq_true h)]; rw [if_pos h] at q; exact q
  · rw [if_neg (by rw [decide_eq_false h]; exact Bool.false_ne_true)]; rw [if_neg h] at q; exact q
end WP
namespace WP
open PySem PySem.Spec PyProof.Rows L2
section
variable {K : PySem.W.Frag} {H H' : Hp} {a d : Addr} {xs : List V}
theorem sqlX (e : Sx d H H') (n : a ≠ d) (h : SqL K H a xs) : SqL K H' a xs := by
  rcases h with (h | ⟨o, h⟩) | h
  · exact .inl (.inl (e _ _ n h))
  · exact .inl (.inr ⟨o, e _ _ n h⟩)
  · exact .inr h
end
end WP
namespace WP
open PySem PySem.Spec PyProof.Rows L2
/-- a text that may stand in data -/
def SOk (z : Str) : Prop := (PyData.str z).canLay0 = true
theorem SOk.sh {z : Str} (h : SOk z) : SeqAt.shaped (.str z) = true := Bool.and_eq_true_iff.mpr ⟨h, rfl⟩
theorem sok_S {l : List Nat} (h : ∀ c ∈ l, c < 1114112) : SOk (SX.S l) := by
  show (SX.S l).cps.all (· < 0x110000) = true
  rw [← Array.all_toList]
  exact List.all_eq_true.mpr fun c hc => decide_eq_true (h c hc)
end WP
namespace WP
open PySem PySem.Spec PyProof.Rows L2
theorem rg9 {j : Int} (h1 : 1 ≤ j) (h2 : j ≤ 1000) : RgC 0 j 9 ((j - 1) / 9 + 1).toNat := by
  have e : Builtin.Range.rangeSize 0 j 9 = (j - 1) / 9 + 1 := by
    unfold Builtin.Range.rangeSize
    rw [if_pos (by decide), if_pos (by omega), show j - 0 - 1 = j - 1 by omega]
  refine ⟨by decide, by decide, ?_, by rw [e]; omega⟩
  unfold Builtin.Range.small
  rw [e]
  simp only [Builtin.Range.rangeFitsLong, Bool.and_eq_true, Bool.or_eq_true, decide_eq_true_eq, beq_iff_eq]
  simp
  omega
end WP

namespace WJ
open PySem PySem.W PySem.Calls PyProof.Rows PySem.SC
section
variable {prog : Program} {w : World} {A : Around} {E : Value → Shared → Prop} {s : Shared}
/-- x.join(reversed(a list)): the walk backwards is collected, then glued -/
theorem join_rev {x : Str} {t : Tok} {ys : List Str} {it l : Addr} {its : Array Value} {Q : Value → Shared → Prop} (hh : A.handled = none)
    (hi : s.heap.IsRevIter it l ((its.size : Int) - 1)) (hl : s.heap.IsList l its) (ne : l ≠ it) (hn : its.size ≤ sizeLine)
    (hy : ∀ acc : Array Value, ItemsOf (fun i v => its[its.size - 1 - i]? = some v) acc its.size → StrsAre acc.toList ys) (fit : (ys.map (·.length)).sum + ys.length * x.length ≤ 16777216)
    (done : ∀ (h' : Heap) (t' : Tok) (k : Nat), (∀ b o, b ≠ it → s.heap.get? b = some o → h'.get? b = some o) → Q (.str (Txt.join x ys) t') { s with heap := h', toks := k }) :
    wpAny (model prog w) A (call (.builtin "str.join") [.str x t, .ref it]) Q E s := by
  have T : s.TypeIs (.ref it) "list_reverseiterator" := Heap.IsRevIter.typeIs hi
  refine wpAny_call (codeAny_call_builtin F.slot_str_join.plain F.entry_str_join ?_)
  refine F.slot_str_join.check _ _ _ _ _ _ _ _ (typeIs_str _ _ _) (F.args_str_join_2 _ _) ?_
  rw [join_tree_other]
  refine wpAny_bind (wpAny_typeOf T ?_)
  show wpAny _ A.in1 ((pyIter (.ref it)).tryCatch _ >>= fun j => collect j >>= fun zs => joinTail x zs) _ _ s
  refine wpAny_bind (wpAny_tryCatch (wpAny_pyIter_revIter hi ?_))
  refine wpAny_bind (RT.collect_rev hh hi hl ne hn fun h' k acc kept got => ?_)
  obtain ⟨ts, et, ey⟩ := strsAre_values (hy acc got)
  subst ey
  rw [et]
  have ok := joinOk_of fit
  unfold JoinOk at ok
  rw [Bool.not_eq_true'] at ok
  have G : Gives (joinTail x (strValues ts)) (joinMade x ts) := by
    rcases ts with _ | ⟨_, _ | ⟨_, _⟩⟩ <;> exact gives_joinTail x _ ok
  refine G prog w A (wants Q E) { s with heap := h', toks := k } (post_join ts ⟨joinFit_length ok, fun t' k' => ?_⟩)
  exact done h' t' k' kept
end
end WJ
namespace WP
open PySem PySem.Spec PyProof.Rows L2
/-- sep.join(reversed(xs)), xs a list of texts -/
def tJoinRev (K : PySem.W.Frag) (to te : TE) : TE := fun σ H Q => to σ H fun x H1 => (∃ a, x = .str a) ∧ te σ H1 fun v H2 => ∃ (a : Str) (q : Addr) (ys : List Str),
  x = .str a ∧ v = .ref q ∧ SqL K H2 q (ys.map V.str) ∧ ((ys.map (·.length)).sum + ys.length * a.length ≤ 16777216) ∧ Q (.str (Txt.join a ys.reverse)) H2
theorem pe_joinRev {X : Cx} {o e : Expr} {to te : TE} {apos pos p2 pos2 : Pos} (hc : X.calm = true) (ho : PE X o to) (hg : Gl X "reversed") (hm : X.mg "reversed" = none) (he : PE X e te)
    (hs1 : starEach [.Call (.Name "reversed" p2) [e] [] pos2] X.env = [(false, eval (.Call (.Name "reversed" p2) [e] [] pos2) X.env)] := by rfl)
    (hs : starEach [e] X.env = (false, eval e X.env) :: starEach [] X.env := by rfl)
    (hbase : attributeBase o "join" X.env (eval o X.env) = eval o X.env := by rfl) (hline : (apos.endLine == pos.line) = true := by rfl) :
    PE X (.Call (.Attribute o "join" apos) [.Call (.Name "reversed" p2) [e] [] pos2] [] pos) (tJoinRev X.K to te) := by
  refine ⟨fun pins s σ H Q I h => ?_⟩
  refine PySem.Call_method1 hbase hs1 hline (thn (ho.run pins s σ H _ I h) fun v s1 ⟨x, H1, I1, r1, q1⟩ => ?_)
  obtain ⟨⟨a, rfl⟩, q1⟩ := q1
  obtain ⟨t, rfl⟩ := _root_.id r1
  refine ⟨"str", _, F.plainAttrs_str, F.slot_str_join, F.type_str_join, typeIs_str _ _ _, (fun _ e => nomatch e), Calls.callWith_builtin rfl (Calls.evalArgs_plain (Calls.spliced_cons ?_))⟩
  refine Call_ (ld_blt I1 hg hm PyProof.Rows.boot_reversed (PyProof.Rows.callWith_type1 (args_cons (thn (he.run pins s1 σ H1 _ I1 q1) fun u s2 ⟨v2, H2, I2, r2, q2⟩ => args_nil ?_) hs) hs rfl))
  obtain ⟨a', q, ys, ea, ev, hq, hz, q2⟩ := q2
  cases ea
  subst ev
  obtain rfl : u = Value.ref q := r2
  obtain ⟨its, rv, pl, hsz⟩ := I2.list hq
  refine call_reversed_list pl.isList (Calls.spliced_nil ?_)
  have k0 : ∀ b o, s2.heap.get? b = some o → (s2.heap.push (revObj q ((its.toArray.size : Int) - 1))).get? b = some o := fun b o e => Heap.get?_push_of_some _ e
  have I3 : Inv X pins σ H2 { s2 with heap := s2.heap.push (revObj q ((its.toArray.size : Int) - 1)) } := I2.kept (t' := s2.toks) k0
  obtain ⟨f0, f1, f2, f3, f4, f5⟩ := I2.fpOk (H' := H2) (b := s2.heap.objs.size) (Nat.le_refl _) (I2.hok.fresh (Nat.le_refl _))
  have hl := pl.isList
  obtain ⟨ol, hol, _⟩ := _root_.id hl
  refine WJ.join_rev (s := { s2 with heap := s2.heap.push (revObj q ((its.toArray.size : Int) - 1)) }) (ys := ys.reverse) (I2.ok.hd hc) ⟨_, Heap.get?_push_size _ rfl, rfl, rfl⟩ (hl.push _) (Nat.ne_of_lt (Heap.lt_size hol))
    (by rw [List.size_toArray, ← rv.length]; exact hsz) (fun acc hacc => ?_) (by rw [List.map_reverse, List.sum_reverse, List.length_reverse]; exact hz) fun h' t' k hk => ?_
  · have z := RT.vals_rev rv hacc
    rw [← List.map_reverse] at z
    exact strs_of_vals z
  · exact ⟨.str _, H2, I3.turned (t' := k) (fun b o hb e => hk b o hb e) f0 f1 f3 f4 f5, ⟨t', rfl⟩, q2⟩
end WP
namespace WP
open PySem PySem.Spec PyProof.Rows L2
theorem jr {K : PySem.W.Frag} {to te : TE} {σ : L2.St} {H : Hp} {Q : VK} (h : to σ H fun x H1 => (∃ a, x = .str a) ∧ te σ H1 fun v H2 => ∃ (a : Str) (q : Addr) (ys : List Str),
  x = .str a ∧ v = .ref q ∧ SqL K H2 q (ys.map V.str) ∧ ((ys.map (·.length)).sum + ys.length * a.length ≤ 16777216) ∧ Q (.str (Txt.join a ys.reverse)) H2) : tJoinRev K to te σ H Q := h
theorem joinL_nil : ∀ l : List (List Nat), TL.joinL [] l = l.flatten
  | [] => rfl
  | [p] => by simp [TL.joinL]
  | p :: q :: r => by rw [TL.joinL, joinL_nil (q :: r)]; simp
theorem join_nilS (ys : List (List Nat)) : Txt.join (SX.S []) (ys.map SX.S) = SX.S ys.flatten := by rw [SX.join_S, joinL_nil]
end WP

namespace MD
open WP
/-- the least scale: zeros at the end are dropped -/
def nrm : Int → Nat → Int × Nat
  | u, 0 => (u, 0)
  | u, s + 1 => if u % 10 = 0 then nrm (u / 10) s else (u, s + 1)
theorem nrm_le : ∀ (s : Nat) (u : Int), (nrm u s).2 ≤ s
  | 0, u => Nat.le_refl _
  | s + 1, u => by
    unfold nrm
    split
    · exact Nat.le_succ_of_le (nrm_le s _)
    · exact Nat.le_refl _
theorem nrm_val : ∀ (s : Nat) (u : Int), (nrm u s).1 * 10 ^ (s - (nrm u s).2) = u
  | 0, u => by unfold nrm; simp
  | s + 1, u => by
    unfold nrm
    split
    · rename_i h
      have ih := nrm_val s (u / 10)
      have l := nrm_le s (u / 10)
      have e : s + 1 - (nrm (u / 10) s).2 = (s - (nrm (u / 10) s).2) + 1 := by omega
      rw [e, Int.pow_succ, ← Int.mul_assoc, ih]
      omega
    · simp
/-- a decimal: the scale is the least one -/
def Dec (u : Int) (s : Nat) : Prop := s = 0 ∨ u % 10 ≠ 0
theorem nrm_dec : ∀ (s : Nat) (u : Int), Dec (nrm u s).1 (nrm u s).2
  | 0, u => .inl rfl
  | s + 1, u => by
    unfold nrm
    split
    · exact nrm_dec s _
    · rename_i h; exact .inr h
theorem nrm_self {u : Int} {s : Nat} (h : Dec u s) : nrm u s = (u, s) := by
  cases s with
  | zero => rfl
  | succ s =>
    unfold nrm
    rcases h with h | h
    · cases h
    · rw [if_neg h]
theorem nrm_up : ∀ (m s : Nat) (u : Int), nrm (u * 10 ^ m) (s + m) = nrm u s
  | 0, s, u => by simp
  | m + 1, s, u => by
    have e : u * 10 ^ (m + 1) = u * 10 ^ m * 10 := by rw [Int.pow_succ, Int.mul_assoc]
    rw [← Nat.add_assoc, e]
    show (if (u * 10 ^ m * 10) % 10 = 0 then nrm (u * 10 ^ m * 10 / 10) (s + m) else _) = _
    rw [if_pos (Int.mul_emod_left _ _), Int.mul_ediv_cancel _ (by decide)]
    exact nrm_up m s u
theorem nrm_abs : ∀ (s : Nat) (u : Int), (nrm u s).1.natAbs ≤ u.natAbs
  | 0, u => Nat.le_refl _
  | s + 1, u => by
    unfold nrm
    split
    · have := nrm_abs s (u / 10)
      omega
    · exact Nat.le_refl _
theorem nrm_bt {u : Int} {s a : Nat} (h : Bt u a) : Bt (nrm u s).1 a := h.le (nrm_abs s u)
end MD
namespace MD
theorem nrm_eq (u : Int) (s : Nat) : (nrm u s).1 * 10 ^ s = u * 10 ^ (nrm u s).2 := by
  have h := nrm_val s u
  have l := nrm_le s u
  have e : (10 : Int) ^ s = 10 ^ (s - (nrm u s).2) * 10 ^ (nrm u s).2 := by rw [← Int.pow_add]; congr 1; omega
  rw [e, ← Int.mul_assoc, h]
end MD

namespace MQ
/-- above / below, cut off or rounded -/
def qsz (a b : Nat) (r : Bool) : Nat := if r = true ∧ b ≤ 2 * (a % b) then a / b + 1 else a / b
def quot (x y : Int) (r : Bool) : Int := if decide (x < 0) != decide (y < 0) then -(qsz x.natAbs y.natAbs r : Int) else (qsz x.natAbs y.natAbs r : Int)
/-- q is due for x / y -/
structure Right (q x y : Int) (r : Bool) : Prop where
  sg : q ≠ 0 → decide (q < 0) = (decide (x < 0) != decide (y < 0))
  ct : r = false → q.natAbs * y.natAbs ≤ x.natAbs ∧ x.natAbs < (q.natAbs + 1) * y.natAbs
  rd : r = true → 2 * q.natAbs * y.natAbs ≤ 2 * x.natAbs + y.natAbs ∧ 2 * x.natAbs < (2 * q.natAbs + 1) * y.natAbs
theorem quot_abs (x y : Int) (r : Bool) : (quot x y r).natAbs = qsz x.natAbs y.natAbs r := by
  unfold quot; split <;> omega
theorem right_quot {x y : Int} {r : Bool} (h : y ≠ 0) : Right (quot x y r) x y r := by
  have hy : 0 < y.natAbs := by omega
  have e := Nat.div_add_mod x.natAbs y.natAbs
  have l := Nat.mod_lt x.natAbs hy
  refine ⟨fun hq => ?_, fun hr => ?_, fun hr => ?_⟩
  · have : qsz x.natAbs y.natAbs r ≠ 0 := by
      intro z; apply hq; unfold quot; rw [z]; split <;> rfl
    unfold quot
    split
    · rename_i c
      rw [c]; exact decide_eq_true (by omega)
    · rename_i c
      rw [Bool.not_eq_true] at c
      rw [c]; exact decide_eq_false (by omega)
  · rw [quot_abs]; unfold qsz; rw [if_neg (by rw [hr]; simp)]
    rw [Nat.mul_comm] at e
    rw [Nat.add_mul]; omega
  · rw [quot_abs]; unfold qsz
    rw [Nat.mul_comm] at e
    split
    · rename_i c
      constructor
      · rw [Nat.mul_assoc, Nat.add_mul]; omega
      · rw [show (2 * (x.natAbs / y.natAbs + 1) + 1) * y.natAbs = 2 * (x.natAbs / y.natAbs * y.natAbs) + 3 * y.natAbs by rw [show 2 * (x.natAbs / y.natAbs + 1) + 1 = 2 * (x.natAbs / y.natAbs) + 3 by omega, Nat.add_mul, Nat.mul_assoc]]
        omega
    · rename_i c
      have c2 : ¬ y.natAbs ≤ 2 * (x.natAbs % y.natAbs) := fun z => c ⟨hr, z⟩
      constructor
      · rw [Nat.mul_assoc]; omega
      · rw [Nat.add_mul, Nat.mul_assoc]; omega
theorem right_scale {q x y c : Int} {r : Bool} (hc : 0 < c) (h : Right q x y r) : Right q (x * c) (y * c) r := by
  have s : ∀ z : Int, decide (z * c < 0) = decide (z < 0) := fun z => by
    by_cases k : z < 0
    · rw [decide_eq_true k, decide_eq_true (Int.mul_neg_of_neg_of_pos k hc)]
    · rw [decide_eq_false k, decide_eq_false (Int.not_lt.mpr (Int.mul_nonneg (Int.not_lt.mp k) (Int.le_of_lt hc)))]
  have hp : 0 < c.natAbs := by omega
  refine ⟨fun hq => by rw [s, s]; exact h.sg hq, fun hr => ?_, fun hr => ?_⟩
  · obtain ⟨a, b⟩ := h.ct hr
    rw [Int.natAbs_mul, Int.natAbs_mul, ← Nat.mul_assoc, ← Nat.mul_assoc]
    exact ⟨Nat.mul_le_mul_right _ a, Nat.mul_lt_mul_of_pos_right b hp⟩
  · obtain ⟨a, b⟩ := h.rd hr
    rw [Int.natAbs_mul, Int.natAbs_mul, ← Nat.mul_assoc, ← Nat.mul_assoc, ← Nat.mul_assoc, ← Nat.add_mul]
    exact ⟨Nat.mul_le_mul_right _ a, Nat.mul_lt_mul_of_pos_right b hp⟩
theorem right_exact {q y : Int} {r : Bool} (hy : 0 < y) : Right q (q * y) y r := by
  have hp : 0 < y.natAbs := by omega
  refine ⟨fun hq => ?_, fun hr => ?_, fun hr => ?_⟩
  · rw [show decide (y < 0) = false from decide_eq_false (by omega)]
    by_cases k : q < 0
    · rw [decide_eq_true k, decide_eq_true (Int.mul_neg_of_neg_of_pos k hy)]; rfl
    · rw [decide_eq_false k, decide_eq_false (Int.not_lt.mpr (Int.mul_nonneg (Int.not_lt.mp k) (Int.le_of_lt hy)))]; rfl
  · rw [Int.natAbs_mul, Nat.add_mul]; omega
  · rw [Int.natAbs_mul, Nat.add_mul, Nat.mul_assoc]; omega
end MQ

namespace D
open PySem PySem.Spec PyProof.Rows L2
local macro_rules | `(tactic| k_memK) => `(tactic| first
  | (with_reducible refine WP.eqTS ?_) | (with_reducible refine WP.neTS ?_) | (with_reducible refine WP.bm ?_) | (with_reducible refine WP.tyS ?_) | (with_reducible refine WP.gsub ?_) | (with_reducible refine WP.rng3 ?_) | (with_reducible refine WP.jr ?_)
  | (with_reducible refine WP.seq ?_) | (with_reducible refine WP.asg ?_) | (with_reducible refine WP.name ?_)
  | ((with_reducible show tVar _ _ _ _); refine WP.var rfl ?_) | (with_reducible refine WP.con ?_) | (with_reducible refine WP.op ?_) | (with_reducible refine WP.i0 ?_)
  | (with_reducible refine WP.un ?_) | (with_reducible refine WP.rU_ ?_)
  | (with_reducible refine WP.ifS ?_) | (with_reducible refine WP.ifE ?_) | (with_reducible refine WP.test ?_) | (with_reducible refine WP.bt ?_) | (with_reducible refine WP.isbV ?_)
  | (with_reducible refine WP.ret ?_) | (with_reducible refine WP.retN ?_) | (with_reducible refine WP.drop ?_) | (with_reducible refine WP.next ?_) | (with_reducible refine WP.brk ?_) | (with_reducible refine WP.cont ?_)
  | (with_reducible refine WP.cb ?_) | (with_reducible refine WP.call ?_) | (with_reducible refine WP.cons ?_) | (with_reducible refine WP.nil ?_) | (with_reducible refine WP.tup ?_) | (with_reducible refine WP.lst ?_)
  | (with_reducible refine WP.eqI ?_) | (with_reducible refine WP.neI ?_) | (with_reducible refine WP.eqT ?_) | (with_reducible refine WP.neT ?_) | (with_reducible refine WP.eqB ?_) | (with_reducible refine WP.neB ?_)
  | (with_reducible refine WP.notT ?_) | (with_reducible refine WP.andT ?_) | (with_reducible refine WP.orT ?_) | (with_reducible refine WP.andV ?_) | (with_reducible refine WP.orV ?_) | (with_reducible refine WP.notV ?_)
  | (with_reducible refine WP.sl ?_) | (with_reducible refine WP.noPart ?_) | (with_reducible refine WP.part ?_) | (with_reducible refine WP.isi ?_) | (with_reducible refine WP.isbV ?_) | (with_reducible refine WP.gsCons ?_) | (with_reducible refine WP.gsNil ?_) | (with_reducible refine WP.forl ?_) | (with_reducible refine WP.rng1 ?_) | (with_reducible refine WP.rng2 ?_) | (with_reducible refine WP.walkL ?_) | (with_reducible refine WP.walkT ?_))
local macro_rules | `(tactic| k_updF) => `(tactic| repeat k_memK)

def top (i : Nat) : Stmt := PySem.Challenge.pw_cardwright_k05_decimals_without_bound.main.body.getD i (.Pass ⟨0, 0, 0, 0⟩)
structure Blt (K : PySem.W.Frag) (mg : Str → Option Value) : Prop where
  b_abs : mg "abs" = none
  b_bool : mg "bool" = none
  b_divmod : mg "divmod" = none
  b_int : mg "int" = none
  b_isinstance : mg "isinstance" = none
  b_len : mg "len" = none
  b_list : mg "list" = none
  b_max : mg "max" = none
  b_range : mg "range" = none
  b_reversed : mg "reversed" = none
  b_str : mg "str" = none
  b_tuple : mg "tuple" = none
  c_PART : ∃ u, mg "PART" = some u ∧ RelV (.int 1000000000000000000) u
  c_PART_FIGURES : ∃ u, mg "PART_FIGURES" = some u ∧ RelV (.int 18) u
abbrev s__law_draws : Stmt := top 17
abbrev N__law_draws : List Str := ["script"]
theorem sc__law_draws : FnScope N__law_draws ["script"] (defScope s__law_draws) := ⟨rfl, rfl, rfl, by decide +kernel, rfl, by decide +kernel, by decide +kernel⟩
/-- the drawing state at d -/
def DS (K : PySem.W.Frag) (H : Hp) (d : Addr) (ns : List Int) : Prop := ∃ (l : Addr) (pos cur mix : Int), H d = some (.lst [.ref l, .int pos, .int cur, .int mix]) ∧ l ≠ d ∧ SqL K H l (ns.map V.int) ∧ 0 ≤ pos
theorem DS.same {K : PySem.W.Frag} {H H' : Hp} {d : Addr} {ns : List Int} (e : Same H H') (h : DS K H d ns) : DS K H' d ns := by
  obtain ⟨l, pos, cur, mix, h1, h2, h3, h4⟩ := h
  exact ⟨l, pos, cur, mix, e _ _ h1, h2, WP.sql e h3, h4⟩
def sp__law_draws (K : PySem.W.Frag) (mg : WP.MG) : Sp := fun vs H Q _ => ∃ (a : Addr) (ns : List Int), vs = [.ref a] ∧ SqL K H a (ns.map V.int) ∧ ∀ d H', Same H H' → DS K H' d ns → Q (.ref d) H'
section
variable {P : Program} {w : World} {K : PySem.W.Frag} {mg : Str → Option Value} {base : Heap}
theorem ok__law_draws {f : Addr} {fd : FuncData} (F : Fun K "_law_draws" "_law_draws" s__law_draws f fd) (B : Blt K mg)  : FnOk P w K mg base CX0 1 f fd ["script"] (sp__law_draws K mg) := by
  refine F.ok sc__law_draws (fun vs H Q E h => ?_) (fun cdv A outer s H vs Q E hr h => ?_)
  · first | (obtain ⟨_, rfl, _⟩ := h; rfl) | (obtain ⟨_, _, rfl, _⟩ := h; rfl) | (obtain ⟨_, _, _, rfl, _⟩ := h; rfl) | (obtain ⟨_, _, _, _, rfl, _⟩ := h; rfl) | (obtain ⟨_, _, _, _, _, rfl, _⟩ := h; rfl) | (obtain ⟨_, _, _, _, _, _, rfl, _⟩ := h; rfl) | (obtain ⟨_, _, _, _, _, _, _, rfl, _⟩ := h; rfl) | (obtain ⟨_, _, _, _, _, _, _, _, rfl, _⟩ := h; rfl) | (obtain ⟨rfl, _⟩ := h; rfl)
  · obtain ⟨a, ns, rfl, ha, k⟩ := h
    refine ⟨_, (pss_one (ps_ret (pe_lst (pa_cons (pe_callTy WP.c_listOf (by rfl) B.b_list (by decide +kernel) (pa_cons (pv 0) pa_nil)) (pa_cons pe_int (pa_cons pe_int (pa_cons pe_int pa_nil))))))), ?_⟩
    k_updF
    refine WP.listL ha (fun l hl => ?_)
    k_updF
    refine ⟨WP.sz (show 4 ≤ 1000000 by decide), fun d hd => ?_⟩
    have ne : l ≠ d := fun z => by subst z; rw [upd_same] at hd; cases hd
    exact k d _ ((WP.same_new hl).trans (WP.same_new hd)) ⟨l, 0, 0, 1, upd_same, ne, SqL.of (by rw [upd_ne ne, upd_same]), by decide⟩
end
abbrev s__law_draw : Stmt := top 18
abbrev N__law_draw : List Str := ["draws", "limit", "cell", "value"]
theorem sc__law_draw : FnScope N__law_draw ["draws", "limit"] (defScope s__law_draw) := ⟨rfl, rfl, rfl, by decide +kernel, rfl, by decide +kernel, by decide +kernel⟩
def sp__law_draw (K : PySem.W.Frag) (mg : WP.MG) : Sp := fun vs H Q _ => ∃ (d : Addr) (ns : List Int) (m : Int), vs = [.ref d, .int m] ∧ 0 < m ∧ WP.Bt m 8000 ∧ DS K H d ns ∧ ∀ v H', 0 ≤ v → v < m → WP.Sx d H H' → DS K H' d ns → Q (.int v) H'
section
variable {P : Program} {w : World} {K : PySem.W.Frag} {mg : Str → Option Value} {base : Heap}
theorem ok__law_draw {f : Addr} {fd : FuncData} (F : Fun K "_law_draw" "_law_draw" s__law_draw f fd) (B : Blt K mg)  : FnOk P w K mg base CX0 1 f fd ["draws", "limit"] (sp__law_draw K mg) := by
  refine F.ok sc__law_draw (fun vs H Q E h => ?_) (fun cdv A outer s H vs Q E hr h => ?_)
  · first | (obtain ⟨_, rfl, _⟩ := h; rfl) | (obtain ⟨_, _, rfl, _⟩ := h; rfl) | (obtain ⟨_, _, _, rfl, _⟩ := h; rfl) | (obtain ⟨_, _, _, _, rfl, _⟩ := h; rfl) | (obtain ⟨_, _, _, _, _, rfl, _⟩ := h; rfl) | (obtain ⟨_, _, _, _, _, _, rfl, _⟩ := h; rfl) | (obtain ⟨_, _, _, _, _, _, _, rfl, _⟩ := h; rfl) | (obtain ⟨_, _, _, _, _, _, _, _, rfl, _⟩ := h; rfl) | (obtain ⟨rfl, _⟩ := h; rfl)
  · obtain ⟨d, ns, m, rfl, hm, bm, hd, k⟩ := h
    refine ⟨_, (Evl.pss_cut (ps_if (PW.pt (pw_and (pt_cmpR op_eq (pe_ix ix_list (pv 0) pe_int (fun _ _ => rfl)) pe_int (nomark _)) (pw_and1 (pt_cmpR op_lt (pe_ix ix_list (pv 0) pe_int (fun _ _ => rfl)) (pe_callB WP.c_len (by rfl) B.b_len (by decide +kernel) (pa_cons (pe_ix ix_list (pv 0) pe_int (fun _ _ => rfl)) pa_nil)) (nomark _))))) (pss_cons (ps_set (i := 2) sc__law_draw.nd rfl (Or.inl rfl) (pe_ix ix_list (pe_ix ix_list (pv 0) pe_int (fun _ _ => rfl)) (pe_ix ix_list (pv 0) pe_int (fun _ _ => rfl)) (fun _ _ => rfl)))
      (pss_cons (ps_asg (pe_op op_add (pe_ix ix_list (pv 0) pe_int (fun _ _ => rfl)) pe_int) (pg_sub (pv 0) pe_int set_list))
      (Evl.pss_cut (ps_if (pt_cmpR op_ge (pv 2) (pe_op op_pow pe_int pe_int) (nomark _)) (pss_one (ps_asg (pv 2) (pg_sub (pv 0) pe_int set_list))) pss_nil)
      (pss_one (ps_asg (pe_op op_mod (pe_callTy WP.c_int1 (by rfl) B.b_int (by decide +kernel) (pa_cons (pe_op op_add (pe_op op_add (pe_op op_mul (pe_ix ix_list (pv 0) pe_int (fun _ _ => rfl)) pe_int) (pv 2)) pe_int) pa_nil)) pe_int) (pg_sub (pv 0) pe_int set_list)))))) pss_nil)
      (pss_cons (ps_if (pt_cmpR op_gt (pe_ix ix_list (pv 0) pe_int (fun _ _ => rfl)) pe_int (nomark _)) (pss_cons (ps_set (i := 3) sc__law_draw.nd rfl (Or.inl rfl) (pe_op op_mod (pe_callTy WP.c_int1 (by rfl) B.b_int (by decide +kernel) (pa_cons (pe_ix ix_list (pv 0) pe_int (fun _ _ => rfl)) pa_nil)) (pv 1)))
      (pss_cons (ps_asg (pe_op op_fdivW (pe_ix ix_list (pv 0) pe_int (fun _ _ => rfl)) (pv 1)) (pg_sub (pv 0) pe_int set_list))
      (pss_one (ps_ret (pv 3))))) pss_nil)
      (pss_cons (ps_asg (pe_op op_mod (pe_callTy WP.c_int1 (by rfl) B.b_int (by decide +kernel) (pa_cons (pe_op op_add (pe_op op_mul (pe_ix ix_list (pv 0) pe_int (fun _ _ => rfl)) pe_int) pe_int) pa_nil)) pe_int) (pg_sub (pv 0) pe_int set_list))
      (pss_one (ps_ret (pe_op op_mod (pe_callTy WP.c_int1 (by rfl) B.b_int (by decide +kernel) (pa_cons (pe_op op_fdiv (pe_ix ix_list (pv 0) pe_int (fun _ _ => rfl)) pe_int) pa_nil)) (pv 1))))))), ?_⟩
    obtain ⟨l, pos, cur, mix, h1, h2, h3, h4⟩ := hd
    refine WP.cut (fun σ' H' => (∃ z z2, σ' = [some (.ref d), some (.int m), z, z2]) ∧ WP.Sx d H H' ∧ DS K H' d ns) ?_ ?_
    · k_updF
      refine WP.ixL (SqL.of h1) WP.at2 ?_
      k_updF
      have hD : DS K H d ns := ⟨l, pos, cur, mix, h1, h2, h3, h4⟩
      refine WP.br (fun c => ?_) (fun c => ?_)
      · k_updF
        refine WP.ixL (SqL.of h1) WP.at1 ?_
        k_updF
        refine WP.ixL (SqL.of h1) WP.at0 ?_
        k_updF
        refine WP.lenL h3 ?_
        k_updF
        refine WP.br (fun c2 => ?_) (fun c2 => ?_)
        · k_updF
          rw [List.length_map] at c2
          refine WP.ixL (SqL.of h1) WP.at0 ?_
          k_updF
          refine WP.ixL (SqL.of h1) WP.at1 ?_
          refine WP.ixL h3 (WP.at_ints h4 c2) ?_
          k_updF
          generalize ns.getD pos.toNat 0 = cell
          refine WP.ixL (SqL.of h1) WP.at1 ?_
          k_updF
          refine WP.setL h1 rfl ?_
          generalize hH1 : upd H d _ = H1
          have g1 : H1 d = some (.lst [.ref l, .int (pos + 1), .int cur, .int mix]) := by rw [← hH1, upd_same]; rfl
          have s1 : WP.Sx d H H1 := by rw [← hH1]; exact WP.Sx.upd
          have l1 := WP.sqlX (K := K) s1 h2 h3
          clear hH1
          refine WP.cut (fun σ' H' => σ' = [some (.ref d), some (.int m), some (.int cell), none] ∧ WP.Sx d H H' ∧ ∃ cur, H' d = some (.lst [.ref l, .int (pos + 1), .int cur, .int mix])) ?_ ?_
          · k_updF
            refine WP.iC ⟨by decide, by decide, by decide⟩ ?_
            k_updF
            refine WP.br (fun c => ?_) (fun c => ?_)
            · k_updF
              refine WP.setL g1 rfl ?_
              exact ⟨rfl, s1.trans WP.Sx.upd, cell, by rw [upd_same]; rfl⟩
            · k_updF
              exact ⟨rfl, s1, cur, g1⟩
          · rintro σ' H2 ⟨rfl, s2, cur2, g2⟩
            have l2 := WP.sqlX (K := K) s2 h2 h3
            k_updF
            refine WP.ixL (SqL.of g2) WP.at3 ?_
            k_updF
            refine WP.iC (.inr (by decide)) ?_
            k_updF
            refine WP.intI ?_
            k_updF
            refine WP.iC (by decide) ?_
            k_updF
            refine WP.setL g2 rfl ?_
            refine ⟨⟨_, _, rfl⟩, s2.trans WP.Sx.upd, l, pos + 1, cur2, _, by rw [upd_same]; rfl, h2, WP.sqlX WP.Sx.upd h2 l2, by omega⟩
        · k_updF
          exact ⟨⟨_, _, rfl⟩, WP.Sx.refl, hD⟩
      · k_updF
        refine WP.brF rfl ?_
        k_updF
        exact ⟨⟨_, _, rfl⟩, WP.Sx.refl, hD⟩
    clear h1 h2 h3 h4 l pos cur mix
    rintro σ' H1 ⟨⟨z, z2, rfl⟩, s1, l, pos, cur, mix, h1, h2, h3, h4⟩
    k_updF
    refine WP.ixL (SqL.of h1) WP.at2 ?_
    k_updF
    refine WP.br (fun c => ?_) (fun c => ?_)
    · k_updF
      refine WP.ixL (SqL.of h1) WP.at2 ?_
      k_updF
      refine WP.intI ?_
      k_updF
      refine WP.iC hm ?_
      k_updF
      refine WP.ixL (SqL.of h1) WP.at2 ?_
      k_updF
      refine WP.iC (WP.Bt.d' hm bm) ?_
      k_updF
      refine WP.setL h1 rfl ?_
      k_updF
      exact k _ _ (Int.emod_nonneg _ (by omega)) (Int.emod_lt_of_pos _ hm) (s1.trans WP.Sx.upd) ⟨l, pos, _, mix, by rw [upd_same]; rfl, h2, WP.sqlX WP.Sx.upd h2 h3, h4⟩
    · k_updF
      refine WP.ixL (SqL.of h1) WP.at3 ?_
      k_updF
      refine WP.iC (.inr (by decide)) ?_
      k_updF
      refine WP.intI ?_
      k_updF
      refine WP.iC (by decide) ?_
      k_updF
      refine WP.setL h1 rfl ?_
      k_updF
      refine WP.ixL (SqL.of upd_same) WP.at3 ?_
      k_updF
      refine WP.iC ⟨by decide, by decide⟩ ?_
      k_updF
      refine WP.intI ?_
      k_updF
      refine WP.iC hm ?_
      exact k _ _ (Int.emod_nonneg _ (by omega)) (Int.emod_lt_of_pos _ hm) (s1.trans WP.Sx.upd) ⟨l, pos, cur, _, by rw [upd_same]; rfl, h2, WP.sqlX WP.Sx.upd h2 h3, h4⟩
end
abbrev s__law_ten : Stmt := top 20
abbrev N__law_ten : List Str := ["scale"]
theorem sc__law_ten : FnScope N__law_ten ["scale"] (defScope s__law_ten) := ⟨rfl, rfl, rfl, by decide +kernel, rfl, by decide +kernel, by decide +kernel⟩
def sp__law_ten (K : PySem.W.Frag) (mg : WP.MG) : Sp := fun vs H Q _ => ∃ n : Nat, vs = [.int (n : Int)] ∧ n ≤ 600 ∧ Q (.int (10 ^ n)) H
section
variable {P : Program} {w : World} {K : PySem.W.Frag} {mg : Str → Option Value} {base : Heap}
theorem ok__law_ten {f : Addr} {fd : FuncData} (F : Fun K "_law_ten" "_law_ten" s__law_ten f fd) (B : Blt K mg)  : FnOk P w K mg base CX0 1 f fd ["scale"] (sp__law_ten K mg) := by
  refine F.ok sc__law_ten (fun vs H Q E h => ?_) (fun cdv A outer s H vs Q E hr h => ?_)
  · first | (obtain ⟨_, rfl, _⟩ := h; rfl) | (obtain ⟨_, _, rfl, _⟩ := h; rfl) | (obtain ⟨_, _, _, rfl, _⟩ := h; rfl) | (obtain ⟨_, _, _, _, rfl, _⟩ := h; rfl) | (obtain ⟨_, _, _, _, _, rfl, _⟩ := h; rfl) | (obtain ⟨_, _, _, _, _, _, rfl, _⟩ := h; rfl) | (obtain ⟨_, _, _, _, _, _, _, rfl, _⟩ := h; rfl) | (obtain ⟨_, _, _, _, _, _, _, _, rfl, _⟩ := h; rfl) | (obtain ⟨rfl, _⟩ := h; rfl)
  · obtain ⟨n, rfl, hn, k⟩ := h
    refine ⟨_, (pss_one (ps_ret (pe_callTy WP.c_intS (by rfl) B.b_int (by decide +kernel) (pa_cons (pe_op WP.op_addS (WP.pe_strL [49] (by decide +kernel)) (pe_op WP.op_mul_str (WP.pe_strL [48] (by decide +kernel)) (pv 0))) pa_nil)))), ?_⟩
    k_updF
    refine WP.mulS (by omega) (by omega) ?_
    rw [Int.toNat_natCast]
    refine WP.catS ?_ (by rw [List.length_replicate, sizeLine_eq]; show 1 + n ≤ _; omega)
    k_updF
    refine WP.intSd ?_ (by simp) (by rw [List.length_append, List.length_replicate]; show 1 + n ≤ _; omega) ?_
    · rw [List.all_append, Bool.and_eq_true]
      refine ⟨rfl, ?_⟩
      rw [List.all_eq_true]
      intro c hc
      rw [List.eq_of_mem_replicate hc]
      rfl
    · have e : ((NumText.digitsVal ([49] ++ List.replicate n 48) : Nat) : Int) = 10 ^ n := by
        rw [show [49] ++ List.replicate n 48 = 49 :: List.replicate n 48 from rfl, WP.digits_rep, Int.natCast_pow]
        rfl
      rw [e]
      exact k
end
abbrev s__law_number : Stmt := top 21
abbrev N__law_number : List Str := ["draws", "figures", "units", "k"]
theorem sc__law_number : FnScope N__law_number ["draws"] (defScope s__law_number) := ⟨rfl, rfl, rfl, by decide +kernel, rfl, by decide +kernel, by decide +kernel⟩
def sp__law_number (K : PySem.W.Frag) (mg : WP.MG) : Sp := fun vs H Q _ => ∃ (d : Addr) (ns : List Int), vs = [.ref d] ∧ DS K H d ns ∧ ∀ (u : Int) (s : Nat) (p : Addr) (H' : Hp), u.natAbs < 10 ^ 463 → s ≤ 299 → WP.Sx d H H' → DS K H' d ns → H' p = some (.tup (WP.dv u s)) → Q (.ref p) H'
theorem DS.lst {K : PySem.W.Frag} {H : Hp} {d : Addr} {ns : List Int} (h : DS K H d ns) : ∃ xs, H d = some (.lst xs) := by
  obtain ⟨l, pos, cur, mix, h1, _⟩ := h
  exact ⟨_, h1⟩
theorem bts {m : Int} (h0 : 0 ≤ m) (h : m ≤ 10 ^ 9) : WP.Bt m 8000 := Nat.lt_of_lt_of_le (show m.natAbs < 2 ^ 31 by omega) (Nat.pow_le_pow_right (by decide) (by decide))
section
variable {P : Program} {w : World} {K : PySem.W.Frag} {mg : Str → Option Value} {base : Heap}
theorem ok__law_number {f : Addr} {fd : FuncData} (F : Fun K "_law_number" "_law_number" s__law_number f fd) (B : Blt K mg) (c__law_draw : WP.Callee P w K mg base CX0 1 "_law_draw" ["draws", "limit"] (sp__law_draw K mg)) (c__law_ten : WP.Callee P w K mg base CX0 1 "_law_ten" ["scale"] (sp__law_ten K mg)) : FnOk P w K mg base CX0 2 f fd ["draws"] (sp__law_number K mg) := by
  refine F.ok sc__law_number (fun vs H Q E h => ?_) (fun cdv A outer s H vs Q E hr h => ?_)
  · first | (obtain ⟨_, rfl, _⟩ := h; rfl) | (obtain ⟨_, _, rfl, _⟩ := h; rfl) | (obtain ⟨_, _, _, rfl, _⟩ := h; rfl) | (obtain ⟨_, _, _, _, rfl, _⟩ := h; rfl) | (obtain ⟨_, _, _, _, _, rfl, _⟩ := h; rfl) | (obtain ⟨_, _, _, _, _, _, rfl, _⟩ := h; rfl) | (obtain ⟨_, _, _, _, _, _, _, rfl, _⟩ := h; rfl) | (obtain ⟨_, _, _, _, _, _, _, _, rfl, _⟩ := h; rfl) | (obtain ⟨rfl, _⟩ := h; rfl)
  · obtain ⟨d, ns, rfl, hd, k⟩ := h
    refine ⟨_, (pss_cons (ps_set (i := 1) sc__law_number.nd rfl (Or.inl rfl) (pe_op op_add pe_int (WP.pe_callC c__law_draw hr rfl pass0 (pa_cons (pv 0) (pa_cons (pe_ix ix_list (pe_lst (pa_cons pe_int (pa_cons pe_int pa_nil))) (WP.pe_callC c__law_draw hr rfl pass0 (pa_cons (pv 0) (pa_cons pe_int pa_nil))) (fun _ _ => rfl)) pa_nil)))))
      (pss_cons (ps_set (i := 2) sc__law_number.nd rfl (Or.inl rfl) pe_int)
      (pss_cons (ps_for PassesOwn.never rfl (pi_range3 rfl B.b_range (pa_cons pe_int (pa_cons (pv 1) (pa_cons pe_int pa_nil)))) (pg_name (i := 3) sc__law_number.nd rfl (Or.inl rfl)) (pss_one (ps_set (i := 2) sc__law_number.nd rfl (Or.inl rfl) (pe_op op_add (pe_op op_mulW (pv 2) (pe_op op_pow pe_int pe_int)) (WP.pe_callC c__law_draw hr rfl pass0 (pa_cons (pv 0) (pa_cons (pe_op op_pow pe_int pe_int) pa_nil)))))))
      (pss_cons (ps_set (i := 2) sc__law_number.nd rfl (Or.inl rfl) (pe_op op_mulW (pv 2) (WP.pe_callC c__law_ten hr rfl pass0 (pa_cons (pe_op op_mulW (WP.pe_callC c__law_draw hr rfl pass0 (pa_cons (pv 0) (pa_cons pe_int pa_nil))) (WP.pe_callC c__law_draw hr rfl pass0 (pa_cons (pv 0) (pa_cons pe_int pa_nil)))) pa_nil))))
      (Evl.pss_cut (ps_if (pt_cmpR op_eq (WP.pe_callC c__law_draw hr rfl pass0 (pa_cons (pv 0) (pa_cons pe_int pa_nil))) pe_int (nomark _)) (pss_one (ps_set (i := 2) sc__law_number.nd rfl (Or.inl rfl) (pe_un un_neg (pv 2)))) pss_nil)
      (pss_one (ps_ret (pe_tup (pa_cons (pv 2) (pa_cons (WP.pe_callC c__law_draw hr rfl pass0 (pa_cons (pv 0) (pa_cons (pe_ix ix_list (pe_lst (pa_cons pe_int (pa_cons pe_int pa_nil))) (WP.pe_callC c__law_draw hr rfl pass0 (pa_cons (pv 0) (pa_cons pe_int pa_nil))) (fun _ _ => rfl)) pa_nil))) pa_nil)))))))))), ?_⟩
    have B1 : ∀ {x y : Int}, 0 ≤ x → x < y → y ≤ 10 ^ 9 → WP.Bt x 8000 := fun h0 h1 h2 => bts h0 (by omega)
    k_updF
    refine ⟨WP.sz (show 2 ≤ 1000000 by decide), fun p hp => ?_⟩
    have dn : ∀ {p : Addr}, H p = none → p ≠ d := fun hp z => by obtain ⟨xs, e⟩ := hd.lst; rw [z, e] at hp; cases hp
    k_updF
    refine ⟨d, ns, 2, rfl, by decide, bts (by decide) (by decide), hd.same (WP.same_new hp), fun v1 H1 v10 v11 s1 d1 => ?_⟩
    have hp1 : H1 p = some (.lst [.int 30, .int 400]) := s1 _ _ (dn hp) upd_same
    have s01 : WP.Sx d H H1 := (WP.Sx.of (WP.same_new hp)).trans s1
    clear s1
    obtain ⟨m1, hm1, hm10, hm11⟩ : ∃ m1 : Int, atI [V.int 30, V.int 400] v1 = some (.int m1) ∧ 0 < m1 ∧ m1 ≤ 400 := by
      rcases (show v1 = 0 ∨ v1 = 1 by omega) with rfl | rfl
      · exact ⟨30, WP.at0, by decide, by decide⟩
      · exact ⟨400, WP.at1, by decide, by decide⟩
    refine WP.ixL (SqL.of hp1) hm1 ?_
    k_updF
    refine ⟨d, ns, m1, rfl, hm10, bts (by omega) (by omega), d1, fun v2 H2 v20 v21 s2 d2 => ?_⟩
    have s02 := s01.trans s2
    clear s2 d1 s01 hp1
    k_updF
    refine ⟨0, 1 + v2, 9, _, rfl, WP.rg9 (by omega) (by omega), for_rangeC (lo := 0) (c := 9) (n := _) (fun i σ' H' => ∃ (u : Nat) (z : Option V), σ' = [some (.ref d), some (.int (1 + v2)), some (.int (u : Int)), z] ∧ u < 10 ^ (9 * i) ∧ WP.Sx d H H' ∧ DS K H' d ns)
      ⟨0, none, rfl, by decide, s02, d2⟩ ?_ ?_⟩
    · rintro i σ' H' hi ⟨u, z, rfl, hu, s3, d3⟩
      have hi45 : i < 45 := by omega
      have hu4 : u < 10 ^ 405 := Nat.lt_of_lt_of_le hu (Nat.pow_le_pow_right (by decide) (by omega))
      k_updF
      refine WP.iC ⟨by decide, by decide, by decide⟩ ?_
      k_updF
      have c9 : ((10 : Int) ^ (9 : Int).toNat) = 1000000000 := by decide
      rw [c9]
      refine WP.iC ((show WP.Bt (u : Int) 2000 from Nat.lt_trans (show (u : Int).natAbs < 10 ^ 405 by rw [Int.natAbs_natCast]; exact hu4) (by decide +kernel)).w (show WP.Bt (1000000000 : Int) 31 by unfold WP.Bt; decide)) ?_
      k_updF
      refine WP.iC ⟨by decide, by decide, by decide⟩ ?_
      k_updF
      rw [c9]
      refine ⟨d, ns, 1000000000, rfl, by decide, bts (by decide) (by decide), d3, fun v4 H4 v40 v41 s4 d4 => ?_⟩
      k_updF
      refine ⟨u * 1000000000 + v4.toNat, some (.int (0 + (i : Int) * 9)), ?_, ?_, s3.trans s4, d4⟩
      · rw [show (((u * 1000000000 + v4.toNat : Nat)) : Int) = (u : Int) * 1000000000 + v4 by omega]; rfl
      · rw [show 9 * (i + 1) = 9 * i + 9 by omega, Nat.pow_add]
        generalize 10 ^ (9 * i) = T at hu ⊢
        omega
    rintro σ' H3 ⟨u, z, rfl, hu, s3, d3⟩
    have hu4 : u < 10 ^ 405 := Nat.lt_of_lt_of_le hu (Nat.pow_le_pow_right (by decide) (by omega))
    clear hu s02 d2
    k_updF
    refine ⟨d, ns, 4, rfl, by decide, bts (by decide) (by decide), d3, fun v4 H4 v40 v41 s4 d4 => ?_⟩
    k_updF
    refine ⟨d, ns, 20, rfl, by decide, bts (by decide) (by decide), d4, fun v5 H5 v50 v51 s5 d5 => ?_⟩
    have s05 := s3.trans (s4.trans s5)
    clear s3 s4 s5 d3 d4
    obtain ⟨v4, rfl⟩ : ∃ m : Nat, v4 = (m : Int) := ⟨v4.toNat, by omega⟩
    obtain ⟨v5, rfl⟩ : ∃ m : Nat, v5 = (m : Int) := ⟨v5.toNat, by omega⟩
    refine WP.iC ((show WP.Bt (v4 : Int) 8 by unfold WP.Bt; omega).w (show WP.Bt (v5 : Int) 8 by unfold WP.Bt; omega)) ?_
    k_updF
    rw [← Int.natCast_mul]
    have h57 : v4 * v5 ≤ 57 := Nat.le_trans (Nat.mul_le_mul (show v4 ≤ 3 by omega) (show v5 ≤ 19 by omega)) (by decide)
    generalize v4 * v5 = e at h57 ⊢
    refine ⟨e, rfl, by omega, ?_⟩
    refine WP.iC ((show WP.Bt (u : Int) 2000 from Nat.lt_trans (show (u : Int).natAbs < 10 ^ 405 by rw [Int.natAbs_natCast]; exact hu4) (by decide +kernel)).w (WP.Bt.ten e)) ?_
    k_updF
    have hw : ((u : Int) * 10 ^ e).natAbs < 10 ^ 463 := by
      rw [Int.natAbs_mul, Int.natAbs_natCast, Int.natAbs_pow]
      have h1 : 10 ^ e ≤ 10 ^ 57 := Nat.pow_le_pow_right (by decide) h57
      have h2 : u * 10 ^ e ≤ 10 ^ 405 * 10 ^ 57 := Nat.mul_le_mul (Nat.le_of_lt hu4) h1
      rw [← Nat.pow_add] at h2
      exact Nat.lt_of_le_of_lt h2 (Nat.pow_lt_pow_right (by decide) (by decide))
    generalize (u : Int) * 10 ^ e = w0 at hw ⊢
    refine WP.cut (fun σ' H' => ∃ (w1 : Int) (z z2 : Option V), σ' = [some (.ref d), z, some (.int w1), z2] ∧ w1.natAbs < 10 ^ 463 ∧ WP.Sx d H H' ∧ DS K H' d ns) ?_ ?_
    · k_updF
      refine ⟨d, ns, 2, rfl, by decide, bts (by decide) (by decide), d5, fun v6 H6 v60 v61 s6 d6 => ?_⟩
      k_updF
      refine WP.br (fun c => ?_) (fun c => ?_)
      · k_updF
        exact ⟨-w0, _, _, rfl, by rw [Int.natAbs_neg]; exact hw, s05.trans s6, d6⟩
      · k_updF
        exact ⟨w0, _, _, rfl, hw, s05.trans s6, d6⟩
    clear s05 d5 hw
    rintro σ' H6 ⟨w1, z, z2, rfl, hw, s06, d6⟩
    k_updF
    refine ⟨WP.sz (show 2 ≤ 1000000 by decide), fun p hp => ?_⟩
    have dn2 : ∀ {p : Addr}, H6 p = none → p ≠ d := fun hp z => by obtain ⟨xs, e⟩ := d6.lst; rw [z, e] at hp; cases hp
    k_updF
    refine ⟨d, ns, 2, rfl, by decide, bts (by decide) (by decide), d6.same (WP.same_new hp), fun v7 H7 v70 v71 s7 d7 => ?_⟩
    have hp1 : H7 p = some (.lst [.int 20, .int 300]) := s7 _ _ (dn2 hp) upd_same
    have s07 : WP.Sx d H H7 := s06.trans ((WP.Sx.of (WP.same_new hp)).trans s7)
    clear s7
    obtain ⟨m1, hm1, hm10, hm11⟩ : ∃ m1 : Int, atI [V.int 20, V.int 300] v7 = some (.int m1) ∧ 0 < m1 ∧ m1 ≤ 300 := by
      rcases (show v7 = 0 ∨ v7 = 1 by omega) with rfl | rfl
      · exact ⟨20, WP.at0, by decide, by decide⟩
      · exact ⟨300, WP.at1, by decide, by decide⟩
    refine WP.ixL (SqL.of hp1) hm1 ?_
    k_updF
    refine ⟨d, ns, m1, rfl, hm10, bts (by omega) (by omega), d7, fun v8 H8 v80 v81 s8 d8 => ?_⟩
    k_updF
    refine ⟨WP.sz2, fun t ht => ?_⟩
    obtain ⟨v8, rfl⟩ : ∃ m : Nat, v8 = (m : Int) := ⟨v8.toNat, by omega⟩
    exact k w1 v8 t _ hw (by omega) (s07.trans (s8.trans (WP.Sx.of (WP.same_new ht)))) (d8.same (WP.same_new ht)) upd_same
end
abbrev s__law_least : Stmt := top 22
abbrev N__law_least : List Str := ["units", "scale", "k"]
theorem sc__law_least : FnScope N__law_least ["units", "scale"] (defScope s__law_least) := ⟨rfl, rfl, rfl, by decide +kernel, rfl, by decide +kernel, by decide +kernel⟩
def sp__law_least (K : PySem.W.Frag) (mg : WP.MG) : Sp := fun vs H Q _ => ∃ (u : Int) (s : Nat), vs = [.int u, .int (s : Int)] ∧ s ≤ 5000 ∧ WP.RetT (WP.dv (MD.nrm u s).1 (MD.nrm u s).2) H Q
section
variable {P : Program} {w : World} {K : PySem.W.Frag} {mg : Str → Option Value} {base : Heap}
theorem ok__law_least {f : Addr} {fd : FuncData} (F : Fun K "_law_least" "_law_least" s__law_least f fd) (B : Blt K mg)  : FnOk P w K mg base CX0 1 f fd ["units", "scale"] (sp__law_least K mg) := by
  refine F.ok sc__law_least (fun vs H Q E h => ?_) (fun cdv A outer s H vs Q E hr h => ?_)
  · first | (obtain ⟨_, rfl, _⟩ := h; rfl) | (obtain ⟨_, _, rfl, _⟩ := h; rfl) | (obtain ⟨_, _, _, rfl, _⟩ := h; rfl) | (obtain ⟨_, _, _, _, rfl, _⟩ := h; rfl) | (obtain ⟨_, _, _, _, _, rfl, _⟩ := h; rfl) | (obtain ⟨_, _, _, _, _, _, rfl, _⟩ := h; rfl) | (obtain ⟨_, _, _, _, _, _, _, rfl, _⟩ := h; rfl) | (obtain ⟨_, _, _, _, _, _, _, _, rfl, _⟩ := h; rfl) | (obtain ⟨rfl, _⟩ := h; rfl)
  · obtain ⟨u, s', rfl, hs2, k⟩ := h
    refine ⟨_, (pss_cons (ps_for PassesOwn.never rfl (pi_range1 rfl B.b_range (pa_cons (pv 1) pa_nil)) (pg_name (i := 2) sc__law_least.nd rfl (Or.inl rfl)) (pss_cons (ps_if (pt_cmpR op_ne (pe_op op_mod (pe_callTy WP.c_int1 (by rfl) B.b_int (by decide +kernel) (pa_cons (pv 0) pa_nil)) pe_int) pe_int (nomark _)) (pss_one (ps_ret (pe_tup (pa_cons (pv 0) (pa_cons (pv 1) pa_nil))))) pss_nil)
      (pss_cons (ps_set (i := 0) sc__law_least.nd rfl (Or.inl rfl) (pe_op op_fdiv (pv 0) pe_int))
      (pss_one (ps_set (i := 1) sc__law_least.nd rfl (Or.inl rfl) (pe_op op_sub (pv 1) pe_int))))))
      (pss_one (ps_ret (pe_tup (pa_cons (pv 0) (pa_cons (pv 1) pa_nil)))))), ?_⟩
    k_updF
    refine ⟨_, rfl, by omega, by omega, for_range (lo := 0) (n := _) (fun i σ' H' => ∃ (a : Int) (n : Nat) (z : Option V), σ' = [some (.int a), some (.int (n : Int)), z] ∧ H' = H ∧ n + i = s' ∧ MD.nrm a n = MD.nrm u s')
      ⟨u, s', none, rfl, rfl, by omega, rfl⟩ ?_ ?_⟩
    · rintro i σ' H' hi ⟨a, n, z, rfl, rfl, hn, e⟩
      obtain ⟨n', rfl⟩ : ∃ n', n = n' + 1 := ⟨n - 1, by omega⟩
      k_updF
      refine WP.intI ?_
      k_updF
      refine WP.iC (show (0 : Int) < 10 by decide) ?_
      k_updF
      refine WP.brN (fun c => ?_) (fun c => ?_)
      · k_updF
        refine ⟨WP.sz2, ?_⟩
        rw [← e, MD.nrm_self (.inr c)] at k
        exact k.new (Same.refl _)
      · k_updF
        refine WP.iC ⟨by decide, by decide⟩ ?_
        k_updF
        refine ⟨a / 10, n', some (.int (0 + (i : Int))), ?_, rfl, by omega, ?_⟩
        · rw [show ((n' + 1 : Nat) : Int) - 1 = (n' : Int) by omega]; rfl
        · rw [← e]
          show _ = if a % 10 = 0 then _ else _
          rw [if_pos c]
    · rintro σ' H' ⟨a, n, z, rfl, rfl, hn, e⟩
      rw [Int.toNat_natCast] at hn
      obtain rfl : n = 0 := by omega
      k_updF
      refine ⟨WP.sz2, ?_⟩
      rw [← e] at k
      exact k.new (Same.refl _)
end
abbrev s__law_same : Stmt := top 19
abbrev N__law_same : List Str := ["actual", "expected", "k"]
theorem sc__law_same : FnScope N__law_same ["actual", "expected"] (defScope s__law_same) := ⟨rfl, rfl, rfl, by decide +kernel, rfl, by decide +kernel, by decide +kernel⟩
/-- two values that are the same, d tuples deep at most -/
inductive EqV (K : PySem.W.Frag) (H : Hp) : Nat → V → V → Prop where
  | int {d : Nat} (i : Int) : EqV K H d (.int i) (.int i)
  | bl {d : Nat} (b : Bool) : EqV K H d (.bl b) (.bl b)
  | str {d : Nat} (z : Str) (h : WP.SOk z) : EqV K H d (.str z) (.str z)
  | tup {d : Nat} {p q : Addr} {xs ys : List V} (hp : SqT K H p xs) (hq : SqT K H q ys) (hl : xs.length = ys.length) (hz : ys.length ≤ 1000)
      (h : ∀ (i : Nat) x y, xs[i]? = some x → ys[i]? = some y → EqV K H d x y) : EqV K H (d + 1) (.ref p) (.ref q)
def sp__law_same (K : PySem.W.Frag) (mg : WP.MG) : Nat → Sp
  | 0 => fun _ _ _ _ => False
  | n + 1 => fun vs H Q _ => ∃ x y, vs = [x, y] ∧ EqV K H n x y ∧ Q (.bl true) H
section
variable {P : Program} {w : World} {K : PySem.W.Frag} {mg : Str → Option Value} {base : Heap}
theorem ok__law_same {f : Addr} {fd : FuncData} (F : Fun K "_law_same" "_law_same" s__law_same f fd) (B : Blt K mg) {kk nn : Nat} (c__law_same : WP.Callee P w K mg base CX0 kk "_law_same" ["actual", "expected"] (sp__law_same K mg nn)) : FnOk P w K mg base CX0 (kk + 1) f fd ["actual", "expected"] (sp__law_same K mg (nn + 1)) := by
  refine F.ok sc__law_same (fun vs H Q E h => ?_) (fun cdv A outer s H vs Q E hr h => ?_)
  · first | (obtain ⟨_, rfl, _⟩ := h; rfl) | (obtain ⟨_, _, rfl, _⟩ := h; rfl) | (obtain ⟨_, _, _, rfl, _⟩ := h; rfl) | (obtain ⟨_, _, _, _, rfl, _⟩ := h; rfl) | (obtain ⟨_, _, _, _, _, rfl, _⟩ := h; rfl) | (obtain ⟨_, _, _, _, _, _, rfl, _⟩ := h; rfl) | (obtain ⟨_, _, _, _, _, _, _, rfl, _⟩ := h; rfl) | (obtain ⟨_, _, _, _, _, _, _, _, rfl, _⟩ := h; rfl) | (obtain ⟨rfl, _⟩ := h; rfl)
  · obtain ⟨x, y, rfl, he, k⟩ := h
    refine ⟨_, (pss_cons (ps_if (pt_val (pe_callB call_isi (by rfl) B.b_isinstance (by decide +kernel) (pa_cons (pv 1) (pa_cons (pe_bltn (v := .ty "tuple") rfl B.b_tuple (by decide +kernel) rfl) pa_nil)))) (pss_cons (ps_if (PW.pt (pw_or (pt_not (pt_val (pe_callB call_isi (by rfl) B.b_isinstance (by decide +kernel) (pa_cons (pv 0) (pa_cons (pe_bltn (v := .ty "tuple") rfl B.b_tuple (by decide +kernel) rfl) pa_nil))))) (pw_or1 (pt_cmpR op_ne (pe_callB WP.c_len (by rfl) B.b_len (by decide +kernel) (pa_cons (pv 0) pa_nil)) (pe_callB WP.c_len (by rfl) B.b_len (by decide +kernel) (pa_cons (pv 1) pa_nil)) (nomark _))))) (pss_one (ps_ret pe_bl)) pss_nil)
      (pss_cons (ps_for PassesOwn.never rfl (pi_range1 rfl B.b_range (pa_cons (pe_callB WP.c_len (by rfl) B.b_len (by decide +kernel) (pa_cons (pv 1) pa_nil)) pa_nil)) (pg_name (i := 2) sc__law_same.nd rfl (Or.inl rfl)) (pss_one (ps_if (pt_not (pt_val (WP.pe_callC (hl := by omega) c__law_same hr rfl pass0 (pa_cons (pe_ix ix_tup (pv 0) (pv 2) (fun _ _ => rfl)) (pa_cons (pe_ix ix_tup (pv 1) (pv 2) (fun _ _ => rfl)) pa_nil))))) (pss_one (ps_ret pe_bl)) pss_nil)))
      (pss_one (ps_ret pe_bl)))) pss_nil)
      (pss_cons (ps_if (pt_val (pe_callB call_isi (by rfl) B.b_isinstance (by decide +kernel) (pa_cons (pv 1) (pa_cons (pe_bltn (v := .ty "str") rfl B.b_str (by decide +kernel) rfl) pa_nil)))) (pss_one (ps_ret (pe_and (pe_callB call_isi (by rfl) B.b_isinstance (by decide +kernel) (pa_cons (pv 0) (pa_cons (pe_bltn (v := .ty "str") rfl B.b_str (by decide +kernel) rfl) pa_nil))) (pe_one (pe_cmpR (op_eqD hr.units) (pv 0) (pv 1) (nomark _)))))) pss_nil)
      (pss_cons (ps_if (pt_cmpR op_isN (pv 1) pe_non (nomark _)) (pss_one (ps_ret (pe_cmpR op_isN (pv 0) pe_non (nomark _)))) pss_nil)
      (pss_cons (ps_if (PW.pt (pw_or (pt_val (pe_callB call_isi (by rfl) B.b_isinstance (by decide +kernel) (pa_cons (pv 1) (pa_cons (pe_bltn (v := .ty "bool") rfl B.b_bool (by decide +kernel) rfl) pa_nil)))) (pw_or1 (pt_val (pe_callB call_isi (by rfl) B.b_isinstance (by decide +kernel) (pa_cons (pv 0) (pa_cons (pe_bltn (v := .ty "bool") rfl B.b_bool (by decide +kernel) rfl) pa_nil))))))) (pss_one (ps_ret (pe_and (pe_callB call_isi (by rfl) B.b_isinstance (by decide +kernel) (pa_cons (pv 1) (pa_cons (pe_bltn (v := .ty "bool") rfl B.b_bool (by decide +kernel) rfl) pa_nil))) (pe_and (pe_callB call_isi (by rfl) B.b_isinstance (by decide +kernel) (pa_cons (pv 0) (pa_cons (pe_bltn (v := .ty "bool") rfl B.b_bool (by decide +kernel) rfl) pa_nil))) (pe_one (pe_cmpR (op_eqD hr.units) (pv 0) (pv 1) (nomark _))))))) pss_nil)
      (pss_one (ps_ret (pe_and (pe_callB call_isi (by rfl) B.b_isinstance (by decide +kernel) (pa_cons (pv 0) (pa_cons (pe_bltn (v := .ty "int") rfl B.b_int (by decide +kernel) rfl) pa_nil))) (pe_one (pe_cmpR (op_eqD hr.units) (pv 0) (pv 1) (nomark _)))))))))), ?_⟩
    cases he with
    | int i =>
      k_updF
      refine WP.isN (.base (.int _)) ?_
      k_updF
      refine WP.brF rfl ?_
      k_updF
      refine WP.isN (.base (.int _)) ?_
      k_updF
      refine WP.brF rfl ?_
      k_updF
      refine ⟨rfl, ?_⟩
      k_updF
      refine WP.brF (decide_eq_false fun z => nomatch z) ?_
      k_updF
      refine WP.isN (.base (.int _)) ?_
      k_updF
      refine WP.brF rfl ?_
      k_updF
      refine WP.isN (.base (.int _)) ?_
      k_updF
      refine WP.brF rfl ?_
      k_updF
      refine WP.isY (.base (.int _)) ?_
      k_updF
      refine WP.brT rfl ?_
      k_updF
      refine WP.eqD (.int _) (.int _) ?_
      rw [SeqAt.eqv_refl _ (by rfl)]
      exact k
    | bl b =>
      k_updF
      refine WP.isN (.base (.bl _)) ?_
      k_updF
      refine WP.brF rfl ?_
      k_updF
      refine WP.isN (.base (.bl _)) ?_
      k_updF
      refine WP.brF rfl ?_
      k_updF
      refine ⟨rfl, ?_⟩
      k_updF
      refine WP.brF (decide_eq_false fun z => nomatch z) ?_
      k_updF
      refine WP.isY (.base (.bl _)) ?_
      k_updF
      refine WP.brT rfl ?_
      k_updF
      refine WP.brT rfl ?_
      k_updF
      refine WP.isY (.base (.bl _)) ?_
      k_updF
      refine WP.brT rfl ?_
      k_updF
      refine WP.isY (.base (.bl _)) ?_
      k_updF
      refine WP.brT rfl ?_
      k_updF
      refine WP.eqD (.bl _) (.bl _) ?_
      rw [SeqAt.eqv_refl _ (by rfl)]
      exact k
    | str z hz =>
      k_updF
      refine WP.isN (.base (.str _)) ?_
      k_updF
      refine WP.brF rfl ?_
      k_updF
      refine WP.isY (.base (.str _)) ?_
      k_updF
      refine WP.brT rfl ?_
      k_updF
      refine WP.isY (.base (.str _)) ?_
      k_updF
      refine WP.brT rfl ?_
      k_updF
      refine WP.eqD (.str _) (.str _) ?_ hz.sh hz.sh
      rw [SeqAt.eqv_refl _ hz]
      exact k
    | @tup d p q xs ys hp hq hl hz he =>
      k_updF
      refine WP.isY (WP.tyT hq) ?_
      k_updF
      refine WP.brT rfl ?_
      k_updF
      refine WP.isY (WP.tyT hp) ?_
      k_updF
      refine WP.brF rfl ?_
      k_updF
      refine WP.lenT hp ?_
      k_updF
      refine WP.lenT hq ?_
      k_updF
      refine WP.brF (by rw [hl]; simp) ?_
      k_updF
      refine WP.lenT hq ?_
      k_updF
      refine ⟨_, rfl, by omega, by omega, for_range (lo := 0) (n := _) (fun i σ' H' => H' = H ∧ ∃ z, σ' = [some (.ref p), some (.ref q), z]) ⟨rfl, none, rfl⟩ ?_ ?_⟩
      · rintro i σ' H' hi ⟨rfl, z, rfl⟩
        rw [Int.toNat_natCast] at hi
        rw [Int.zero_add]
        have ex := List.getElem?_eq_getElem (l := xs) (i := i) (by omega)
        have ey := List.getElem?_eq_getElem (l := ys) (i := i) (by omega)
        k_updF
        refine WP.ixT hp (atI_nat ex) ?_
        k_updF
        refine WP.ixT hq (atI_nat ey) ?_
        k_updF
        refine ⟨_, _, rfl, he i _ _ ex ey, ?_⟩
        k_updF
        refine WP.brF rfl ?_
        k_updF
        exact ⟨rfl, _, rfl⟩
      · rintro σ' H' ⟨rfl, z, rfl⟩
        k_updF
        exact k
end
abbrev s_normal : Stmt := top 4
abbrev N_normal : List Str := ["units", "scale"]
theorem sc_normal : FnScope N_normal ["units", "scale"] (defScope s_normal) := ⟨rfl, rfl, rfl, by decide +kernel, rfl, by decide +kernel, by decide +kernel⟩
def sp_normal (K : PySem.W.Frag) (mg : WP.MG) : Sp := fun vs H Q _ => ∃ u s : Int, vs = [.int u, .int s] ∧ 0 ≤ s ∧ WP.RetT (WP.dv (MD.nrm u s.toNat).1 (MD.nrm u s.toNat).2) H Q
section
variable {P : Program} {w : World} {K : PySem.W.Frag} {mg : Str → Option Value} {base : Heap}
theorem ok_normal {f : Addr} {fd : FuncData} (F : Fun K "normal" "normal" s_normal f fd) (B : Blt K mg)  : FnOk P w K mg base CX0 1 f fd ["units", "scale"] (sp_normal K mg) := by
  refine F.ok sc_normal (fun vs H Q E h => ?_) (fun cdv A outer s H vs Q E hr h => ?_)
  · first | (obtain ⟨_, rfl, _⟩ := h; rfl) | (obtain ⟨_, _, rfl, _⟩ := h; rfl) | (obtain ⟨_, _, _, rfl, _⟩ := h; rfl) | (obtain ⟨_, _, _, _, rfl, _⟩ := h; rfl) | (obtain ⟨_, _, _, _, _, rfl, _⟩ := h; rfl) | (obtain ⟨_, _, _, _, _, _, rfl, _⟩ := h; rfl) | (obtain ⟨_, _, _, _, _, _, _, rfl, _⟩ := h; rfl) | (obtain ⟨_, _, _, _, _, _, _, _, rfl, _⟩ := h; rfl) | (obtain ⟨rfl, _⟩ := h; rfl)
  · obtain ⟨u, s', rfl, hs, k⟩ := h
    refine ⟨_, (pss_cons (ps_while PassesOwn.never (PW.pt (pw_and (pt_cmpR op_gt (pv 1) pe_int (nomark _)) (pw_and1 (pt_cmpR op_eq (pe_op op_mod (pv 0) pe_int) pe_int (nomark _))))) (pss_cons (ps_set (i := 0) sc_normal.nd rfl (Or.inl rfl) (pe_op op_fdiv (pv 0) pe_int))
      (pss_one (ps_set (i := 1) sc_normal.nd rfl (Or.inl rfl) (pe_op op_sub (pv 1) pe_int)))))
      (pss_one (ps_ret (pe_tup (pa_cons (pv 0) (pa_cons (pv 1) pa_nil)))))), ?_⟩
    k_updF
    refine ⟨fun m σ H' => ∃ (a : Int) (n : Nat), σ = [some (.int a), some (.int (n : Int))] ∧ H' = H ∧ n = m ∧ MD.nrm a n = MD.nrm u s'.toNat, ⟨s'.toNat, u, s'.toNat, by rw [Int.toNat_of_nonneg hs]; rfl, rfl, rfl, rfl⟩, ?_⟩
    rintro m σ H' ⟨a, n, rfl, rfl, rfl, e⟩
    k_updF
    refine WP.br (fun c => ?_) (fun c => ?_)
    · k_updF
      refine WP.iC (show (0 : Int) < 10 by decide) ?_
      k_updF
      obtain ⟨n', rfl⟩ : ∃ n', n = n' + 1 := ⟨n - 1, by omega⟩
      refine WP.br (fun z => ?_) (fun z => ?_)
      · refine ⟨fun σ' H2 => ∃ m', m' < n' + 1 ∧ ∃ (a : Int) (n : Nat), σ' = [some (.int a), some (.int (n : Int))] ∧ H2 = H' ∧ n = m' ∧ MD.nrm a n = MD.nrm u s'.toNat, fun _ _ x => x, ?_⟩
        k_updF
        refine WP.iC ⟨by decide, by decide⟩ ?_
        k_updF
        refine ⟨n', by omega, a / 10, n', ?_, rfl, rfl, ?_⟩
        · rw [show ((n' + 1 : Nat) : Int) - 1 = (n' : Int) by omega]; rfl
        · rw [← e]
          show _ = if a % 10 = 0 then _ else _
          rw [if_pos z]
      · k_updF
        refine ⟨by show 2 ≤ sizeLine; exact WP.sz2, ?_⟩
        rw [← e, MD.nrm_self (.inr z)] at k
        exact k.new (Same.refl _)
    · k_updF
      obtain rfl : n = 0 := by omega
      refine WP.brF rfl ?_
      k_updF
      refine ⟨WP.sz2, ?_⟩
      rw [← e] at k
      exact k.new (Same.refl _)
end
abbrev s_power : Stmt := top 3
abbrev N_power : List Str := ["exponent", "result", "factor", "rest"]
theorem sc_power : FnScope N_power ["exponent"] (defScope s_power) := ⟨rfl, rfl, rfl, by decide +kernel, rfl, by decide +kernel, by decide +kernel⟩
/-- power(e): 10 to the power of e -/
def sp_power (K : PySem.W.Frag) (mg : WP.MG) : Sp := fun vs H Q _ => ∃ e : Int, vs = [.int e] ∧ e ≤ 3000 ∧ Q (.int (10 ^ e.toNat)) H
section
variable {P : Program} {w : World} {K : PySem.W.Frag} {mg : Str → Option Value} {base : Heap}
theorem ok_power {f : Addr} {fd : FuncData} (F : Fun K "power" "power" s_power f fd) (B : Blt K mg)  : FnOk P w K mg base CX0 1 f fd ["exponent"] (sp_power K mg) := by
  refine F.ok sc_power (fun vs H Q E h => ?_) (fun cdv A outer s H vs Q E hr h => ?_)
  · first | (obtain ⟨_, rfl, _⟩ := h; rfl) | (obtain ⟨_, _, rfl, _⟩ := h; rfl) | (obtain ⟨_, _, _, rfl, _⟩ := h; rfl) | (obtain ⟨_, _, _, _, rfl, _⟩ := h; rfl) | (obtain ⟨_, _, _, _, _, rfl, _⟩ := h; rfl) | (obtain ⟨_, _, _, _, _, _, rfl, _⟩ := h; rfl) | (obtain ⟨_, _, _, _, _, _, _, rfl, _⟩ := h; rfl) | (obtain ⟨_, _, _, _, _, _, _, _, rfl, _⟩ := h; rfl) | (obtain ⟨rfl, _⟩ := h; rfl)
  · obtain ⟨e, rfl, he, k⟩ := h
    refine ⟨_, (pss_cons (ps_set (i := 1) sc_power.nd rfl (Or.inl rfl) pe_int)
      (pss_cons (ps_set (i := 2) sc_power.nd rfl (Or.inl rfl) pe_int)
      (pss_cons (ps_set (i := 3) sc_power.nd rfl (Or.inl rfl) (pv 0))
      (pss_cons (ps_while PassesOwn.never (pt_cmpR op_gt (pv 3) pe_int (nomark _)) (pss_cons (ps_if (pt_cmpR op_eq (pe_op op_mod (pv 3) pe_int) pe_int (nomark _)) (pss_one (ps_set (i := 1) sc_power.nd rfl (Or.inl rfl) (pe_op op_mulW (pv 1) (pv 2)))) pss_nil)
      (pss_cons (ps_set (i := 2) sc_power.nd rfl (Or.inl rfl) (pe_op op_mulW (pv 2) (pv 2)))
      (pss_one (ps_set (i := 3) sc_power.nd rfl (Or.inl rfl) (pe_op op_fdiv (pv 3) pe_int))))))
      (pss_one (ps_ret (pv 1))))))), ?_⟩
    k_updF
    refine ⟨fun m σ H' => ∃ (r b : Nat) (rest : Int), σ = [some (.int e), some (.int (10 ^ r)), some (.int (10 ^ b)), some (.int rest)] ∧ H' = H ∧ m = rest.toNat ∧ (rest ≤ 0 → r = e.toNat) ∧ (0 < rest → r + b * rest.toNat = e.toNat) ∧ 1 ≤ b,
      ⟨e.toNat, 0, 1, e, rfl, rfl, rfl, by omega, by omega, by omega⟩, ?_⟩
    rintro m σ H' ⟨r, b, rest, rfl, rfl, rfl, h1, h2, h3⟩
    k_updF
    refine WP.br (fun c => ?_) (fun c => ?_)
    · have e1 := h2 c
      have hb : b ≤ 3000 := by
        have : b * 1 ≤ b * rest.toNat := Nat.mul_le_mul_left b (by omega)
        omega
      have hrr : r ≤ 3000 := by omega
      have ed : rest.toNat = 2 * (rest / 2).toNat + (rest % 2).toNat := by omega
      refine ⟨fun σ' H2 => ∃ m', m' < rest.toNat ∧ ∃ (r b : Nat) (rest : Int), σ' = [some (.int e), some (.int (10 ^ r)), some (.int (10 ^ b)), some (.int rest)] ∧ H2 = H' ∧ m' = rest.toNat ∧ (rest ≤ 0 → r = e.toNat) ∧ (0 < rest → r + b * rest.toNat = e.toNat) ∧ 1 ≤ b, fun _ _ x => x, ?_⟩
      have step : ∀ r', (rest / 2 ≤ 0 → r' = e.toNat) → (0 < rest / 2 → r' + (b + b) * (rest / 2).toNat = e.toNat) →
          ∃ m', m' < rest.toNat ∧ ∃ (r b' : Nat) (rest' : Int), [some (V.int e), some (.int (10 ^ r')), some (.int (10 ^ b * 10 ^ b)), some (.int (rest / 2))] = [some (.int e), some (.int (10 ^ r)), some (.int (10 ^ b')), some (.int rest')] ∧ H' = H' ∧ m' = rest'.toNat ∧ (rest' ≤ 0 → r = e.toNat) ∧ (0 < rest' → r + b' * rest'.toNat = e.toNat) ∧ 1 ≤ b' := fun r' q1 q2 =>
        ⟨(rest / 2).toNat, by omega, r', b + b, rest / 2, by rw [Int.pow_add], rfl, rfl, q1, q2, by omega⟩
      k_memK; k_memK; k_memK; k_memK; k_memK; k_memK; k_memK
      refine WP.iC (show (0 : Int) < 2 by decide) ?_
      k_updF
      refine WP.br (fun o => ?_) (fun o => ?_)
      · k_updF
        refine WP.iC ((WP.Bt.ten r).w (WP.Bt.ten b)) ?_
        k_updF
        refine WP.iC ((WP.Bt.ten b).w (WP.Bt.ten b)) ?_
        k_updF
        refine WP.iC ⟨by decide, by decide⟩ ?_
        k_updF
        have e2 : b * rest.toNat = (b + b) * (rest / 2).toNat + b := by rw [ed, show (rest % 2).toNat = 1 by omega, Nat.mul_add, ← Nat.mul_assoc, Nat.mul_comm b 2, Nat.two_mul, Nat.mul_one]
        have := step (r + b) (fun q => by rw [show (rest / 2).toNat = 0 by omega] at e2; omega) (fun q => by omega)
        rw [Int.pow_add] at this
        exact this
      · k_updF
        refine WP.iC ((WP.Bt.ten b).w (WP.Bt.ten b)) ?_
        k_updF
        refine WP.iC ⟨by decide, by decide⟩ ?_
        k_updF
        have e2 : b * rest.toNat = (b + b) * (rest / 2).toNat := by rw [ed, show (rest % 2).toNat = 0 by omega, Nat.add_zero, ← Nat.mul_assoc, Nat.mul_comm b 2, Nat.two_mul]
        exact step r (fun q => by omega) (fun q => by omega)
    · k_updF
      rw [h1 (by omega)]
      exact k
end
abbrev s_aligned : Stmt := top 5
abbrev N_aligned : List Str := ["a", "scale", "units", "own"]
theorem sc_aligned : FnScope N_aligned ["a", "scale"] (defScope s_aligned) := ⟨rfl, rfl, rfl, by decide +kernel, rfl, by decide +kernel, by decide +kernel⟩
def sp_aligned (K : PySem.W.Frag) (mg : WP.MG) : Sp := fun vs H Q _ => ∃ (p : Addr) (u : Int) (own : Nat) (scale : Int), vs = [.ref p, .int scale] ∧ SqT K H p (WP.dv u own) ∧ (own : Int) ≤ scale ∧ scale - own ≤ 3000 ∧ WP.Bt u 900000 ∧ Q (.int (u * 10 ^ (scale - own).toNat)) H
section
variable {P : Program} {w : World} {K : PySem.W.Frag} {mg : Str → Option Value} {base : Heap}
theorem ok_aligned {f : Addr} {fd : FuncData} (F : Fun K "aligned" "aligned" s_aligned f fd) (B : Blt K mg) (c_power : WP.Callee P w K mg base CX0 1 "power" ["exponent"] (sp_power K mg)) : FnOk P w K mg base CX0 2 f fd ["a", "scale"] (sp_aligned K mg) := by
  refine F.ok sc_aligned (fun vs H Q E h => ?_) (fun cdv A outer s H vs Q E hr h => ?_)
  · first | (obtain ⟨_, rfl, _⟩ := h; rfl) | (obtain ⟨_, _, rfl, _⟩ := h; rfl) | (obtain ⟨_, _, _, rfl, _⟩ := h; rfl) | (obtain ⟨_, _, _, _, rfl, _⟩ := h; rfl) | (obtain ⟨_, _, _, _, _, rfl, _⟩ := h; rfl) | (obtain ⟨_, _, _, _, _, _, rfl, _⟩ := h; rfl) | (obtain ⟨_, _, _, _, _, _, _, rfl, _⟩ := h; rfl) | (obtain ⟨_, _, _, _, _, _, _, _, rfl, _⟩ := h; rfl) | (obtain ⟨rfl, _⟩ := h; rfl)
  · obtain ⟨p, u, own, scale, rfl, hp, h1, h2, hu, k⟩ := h
    refine ⟨_, (pss_cons (ps_asg (pv 0) (pg_tup (by rfl) (pgs_cons (pg_name (i := 2) sc_aligned.nd rfl (Or.inl rfl)) (pgs_cons (pg_name (i := 3) sc_aligned.nd rfl (Or.inl rfl)) pgs_nil))))
      (pss_one (ps_ret (pe_op op_mulW (pv 2) (WP.pe_callC c_power hr rfl pass0 (pa_cons (pe_op op_sub (pv 1) (pv 3)) pa_nil)))))), ?_⟩
    k_updF
    refine WP.unT hp rfl ?_
    k_updF
    refine ⟨_, rfl, h2, ?_⟩
    refine WP.iC (hu.w (WP.Bt.ten _)) ?_
    exact k
end
abbrev s_add : Stmt := top 6
abbrev N_add : List Str := ["a", "b", "scale"]
theorem sc_add : FnScope N_add ["a", "b"] (defScope s_add) := ⟨rfl, rfl, rfl, by decide +kernel, rfl, by decide +kernel, by decide +kernel⟩
/-- the sum, at the greater scale -/
def dsum (u : Int) (s : Nat) (x : Int) (t : Nat) : Int × Nat := MD.nrm (u * 10 ^ (max s t - s) + x * 10 ^ (max s t - t)) (max s t)
def sp_add (K : PySem.W.Frag) (mg : WP.MG) : Sp := fun vs H Q _ => ∃ (p q : Addr) (u : Int) (s : Nat) (x : Int) (t : Nat), vs = [.ref p, .ref q] ∧ SqT K H p (WP.dv u s) ∧ SqT K H q (WP.dv x t) ∧ s ≤ 1000 ∧ t ≤ 1000 ∧ WP.Bt u 100000 ∧ WP.Bt x 100000 ∧
  WP.RetT (WP.dv (dsum u s x t).1 (dsum u s x t).2) H Q
section
variable {P : Program} {w : World} {K : PySem.W.Frag} {mg : Str → Option Value} {base : Heap}
theorem ok_add {f : Addr} {fd : FuncData} (F : Fun K "add" "add" s_add f fd) (B : Blt K mg) (c_normal : WP.Callee P w K mg base CX0 1 "normal" ["units", "scale"] (sp_normal K mg)) (c_aligned : WP.Callee P w K mg base CX0 2 "aligned" ["a", "scale"] (sp_aligned K mg)) : FnOk P w K mg base CX0 3 f fd ["a", "b"] (sp_add K mg) := by
  refine F.ok sc_add (fun vs H Q E h => ?_) (fun cdv A outer s H vs Q E hr h => ?_)
  · first | (obtain ⟨_, rfl, _⟩ := h; rfl) | (obtain ⟨_, _, rfl, _⟩ := h; rfl) | (obtain ⟨_, _, _, rfl, _⟩ := h; rfl) | (obtain ⟨_, _, _, _, rfl, _⟩ := h; rfl) | (obtain ⟨_, _, _, _, _, rfl, _⟩ := h; rfl) | (obtain ⟨_, _, _, _, _, _, rfl, _⟩ := h; rfl) | (obtain ⟨_, _, _, _, _, _, _, rfl, _⟩ := h; rfl) | (obtain ⟨_, _, _, _, _, _, _, _, rfl, _⟩ := h; rfl) | (obtain ⟨rfl, _⟩ := h; rfl)
  · obtain ⟨p, q, u, s', x, t, rfl, hp, hq, hs, ht, hu, hx, k⟩ := h
    refine ⟨_, (pss_cons (ps_set (i := 2) sc_add.nd rfl (Or.inl rfl) (pe_callB (WP.c_max2 rfl) (by rfl) B.b_max (by decide +kernel) (pa_cons (pe_ix ix_tup (pv 0) pe_int (fun _ _ => rfl)) (pa_cons (pe_ix ix_tup (pv 1) pe_int (fun _ _ => rfl)) pa_nil))))
      (pss_one (ps_ret (WP.pe_callC c_normal hr rfl pass0 (pa_cons (pe_op op_add (WP.pe_callC c_aligned hr rfl pass0 (pa_cons (pv 0) (pa_cons (pv 2) pa_nil))) (WP.pe_callC c_aligned hr rfl pass0 (pa_cons (pv 1) (pa_cons (pv 2) pa_nil)))) (pa_cons (pv 2) pa_nil)))))), ?_⟩
    k_updF
    refine WP.ixT hp WP.at1 ?_
    k_updF
    refine WP.ixT hq WP.at1 ?_
    k_updF
    refine WP.maxI ?_
    rw [show max (s' : Int) (t : Int) = ((max s' t : Nat) : Int) by omega]
    k_updF
    refine ⟨p, u, s', _, rfl, hp, by omega, by omega, hu.mono (by decide), ?_⟩
    k_updF
    refine ⟨q, x, t, _, rfl, hq, by omega, by omega, hx.mono (by decide), ?_⟩
    k_updF
    refine ⟨_, _, rfl, by omega, ?_⟩
    rw [show (((max s' t : Nat) : Int) - (s' : Int)).toNat = max s' t - s' by omega, show (((max s' t : Nat) : Int) - (t : Int)).toNat = max s' t - t by omega, Int.toNat_natCast]
    exact k
end
abbrev s_negative : Stmt := top 9
abbrev N_negative : List Str := ["a", "units", "scale"]
theorem sc_negative : FnScope N_negative ["a"] (defScope s_negative) := ⟨rfl, rfl, rfl, by decide +kernel, rfl, by decide +kernel, by decide +kernel⟩
def sp_negative (K : PySem.W.Frag) (mg : WP.MG) : Sp := fun vs H Q _ => ∃ (p : Addr) (u : Int) (s : Nat), vs = [.ref p] ∧ SqT K H p (WP.dv u s) ∧ WP.RetT (WP.dv (-u) s) H Q
section
variable {P : Program} {w : World} {K : PySem.W.Frag} {mg : Str → Option Value} {base : Heap}
theorem ok_negative {f : Addr} {fd : FuncData} (F : Fun K "negative" "negative" s_negative f fd) (B : Blt K mg)  : FnOk P w K mg base CX0 1 f fd ["a"] (sp_negative K mg) := by
  refine F.ok sc_negative (fun vs H Q E h => ?_) (fun cdv A outer s H vs Q E hr h => ?_)
  · first | (obtain ⟨_, rfl, _⟩ := h; rfl) | (obtain ⟨_, _, rfl, _⟩ := h; rfl) | (obtain ⟨_, _, _, rfl, _⟩ := h; rfl) | (obtain ⟨_, _, _, _, rfl, _⟩ := h; rfl) | (obtain ⟨_, _, _, _, _, rfl, _⟩ := h; rfl) | (obtain ⟨_, _, _, _, _, _, rfl, _⟩ := h; rfl) | (obtain ⟨_, _, _, _, _, _, _, rfl, _⟩ := h; rfl) | (obtain ⟨_, _, _, _, _, _, _, _, rfl, _⟩ := h; rfl) | (obtain ⟨rfl, _⟩ := h; rfl)
  · obtain ⟨p, u, s', rfl, hp, k⟩ := h
    refine ⟨_, (pss_cons (ps_asg (pv 0) (pg_tup (by rfl) (pgs_cons (pg_name (i := 1) sc_negative.nd rfl (Or.inl rfl)) (pgs_cons (pg_name (i := 2) sc_negative.nd rfl (Or.inl rfl)) pgs_nil))))
      (pss_one (ps_ret (pe_tup (pa_cons (pe_un un_neg (pv 1)) (pa_cons (pv 2) pa_nil)))))), ?_⟩
    k_updF
    refine WP.unT hp rfl ?_
    k_updF
    exact ⟨WP.sz2, k.new (Same.refl _)⟩
end
abbrev s_subtract : Stmt := top 7
abbrev N_subtract : List Str := ["a", "b"]
theorem sc_subtract : FnScope N_subtract ["a", "b"] (defScope s_subtract) := ⟨rfl, rfl, rfl, by decide +kernel, rfl, by decide +kernel, by decide +kernel⟩
def sp_subtract (K : PySem.W.Frag) (mg : WP.MG) : Sp := fun vs H Q _ => ∃ (p q : Addr) (u : Int) (s : Nat) (x : Int) (t : Nat), vs = [.ref p, .ref q] ∧ SqT K H p (WP.dv u s) ∧ SqT K H q (WP.dv x t) ∧ s ≤ 1000 ∧ t ≤ 1000 ∧ WP.Bt u 100000 ∧ WP.Bt x 100000 ∧
  WP.RetT (WP.dv (dsum u s (-x) t).1 (dsum u s (-x) t).2) H Q
section
variable {P : Program} {w : World} {K : PySem.W.Frag} {mg : Str → Option Value} {base : Heap}
theorem ok_subtract {f : Addr} {fd : FuncData} (F : Fun K "subtract" "subtract" s_subtract f fd) (B : Blt K mg) (c_add : WP.Callee P w K mg base CX0 3 "add" ["a", "b"] (sp_add K mg)) (c_negative : WP.Callee P w K mg base CX0 1 "negative" ["a"] (sp_negative K mg)) : FnOk P w K mg base CX0 4 f fd ["a", "b"] (sp_subtract K mg) := by
  refine F.ok sc_subtract (fun vs H Q E h => ?_) (fun cdv A outer s H vs Q E hr h => ?_)
  · first | (obtain ⟨_, rfl, _⟩ := h; rfl) | (obtain ⟨_, _, rfl, _⟩ := h; rfl) | (obtain ⟨_, _, _, rfl, _⟩ := h; rfl) | (obtain ⟨_, _, _, _, rfl, _⟩ := h; rfl) | (obtain ⟨_, _, _, _, _, rfl, _⟩ := h; rfl) | (obtain ⟨_, _, _, _, _, _, rfl, _⟩ := h; rfl) | (obtain ⟨_, _, _, _, _, _, _, rfl, _⟩ := h; rfl) | (obtain ⟨_, _, _, _, _, _, _, _, rfl, _⟩ := h; rfl) | (obtain ⟨rfl, _⟩ := h; rfl)
  · obtain ⟨p, q, u, s', x, t, rfl, hp, hq, hs, ht, hu, hx, k⟩ := h
    refine ⟨_, (pss_one (ps_ret (WP.pe_callC c_add hr rfl pass0 (pa_cons (pv 0) (pa_cons (WP.pe_callC c_negative hr rfl pass0 (pa_cons (pv 1) pa_nil)) pa_nil))))), ?_⟩
    k_updF
    refine ⟨q, x, t, rfl, hq, fun r H' e hr' => ?_⟩
    refine ⟨p, r, u, s', -x, t, rfl, WP.sqt e hp, SqT.of hr', hs, ht, hu, hx.neg, fun r2 H2 e2 h2 => k r2 H2 (e.trans e2) h2⟩
end
abbrev s_multiply : Stmt := top 8
abbrev N_multiply : List Str := ["a", "b"]
theorem sc_multiply : FnScope N_multiply ["a", "b"] (defScope s_multiply) := ⟨rfl, rfl, rfl, by decide +kernel, rfl, by decide +kernel, by decide +kernel⟩
def sp_multiply (K : PySem.W.Frag) (mg : WP.MG) : Sp := fun vs H Q _ => ∃ (p q : Addr) (u : Int) (s : Nat) (x : Int) (t : Nat), vs = [.ref p, .ref q] ∧ SqT K H p (WP.dv u s) ∧ SqT K H q (WP.dv x t) ∧ WP.Bt u 100000 ∧ WP.Bt x 100000 ∧
  WP.RetT (WP.dv (MD.nrm (u * x) (s + t)).1 (MD.nrm (u * x) (s + t)).2) H Q
section
variable {P : Program} {w : World} {K : PySem.W.Frag} {mg : Str → Option Value} {base : Heap}
theorem ok_multiply {f : Addr} {fd : FuncData} (F : Fun K "multiply" "multiply" s_multiply f fd) (B : Blt K mg) (c_normal : WP.Callee P w K mg base CX0 1 "normal" ["units", "scale"] (sp_normal K mg)) : FnOk P w K mg base CX0 2 f fd ["a", "b"] (sp_multiply K mg) := by
  refine F.ok sc_multiply (fun vs H Q E h => ?_) (fun cdv A outer s H vs Q E hr h => ?_)
  · first | (obtain ⟨_, rfl, _⟩ := h; rfl) | (obtain ⟨_, _, rfl, _⟩ := h; rfl) | (obtain ⟨_, _, _, rfl, _⟩ := h; rfl) | (obtain ⟨_, _, _, _, rfl, _⟩ := h; rfl) | (obtain ⟨_, _, _, _, _, rfl, _⟩ := h; rfl) | (obtain ⟨_, _, _, _, _, _, rfl, _⟩ := h; rfl) | (obtain ⟨_, _, _, _, _, _, _, rfl, _⟩ := h; rfl) | (obtain ⟨_, _, _, _, _, _, _, _, rfl, _⟩ := h; rfl) | (obtain ⟨rfl, _⟩ := h; rfl)
  · obtain ⟨p, q, u, s', x, t, rfl, hp, hq, hu, hx, k⟩ := h
    refine ⟨_, (pss_one (ps_ret (WP.pe_callC c_normal hr rfl pass0 (pa_cons (pe_op op_mulW (pe_ix ix_tup (pv 0) pe_int (fun _ _ => rfl)) (pe_ix ix_tup (pv 1) pe_int (fun _ _ => rfl))) (pa_cons (pe_op op_add (pe_ix ix_tup (pv 0) pe_int (fun _ _ => rfl)) (pe_ix ix_tup (pv 1) pe_int (fun _ _ => rfl))) pa_nil))))), ?_⟩
    k_updF
    refine WP.ixT hp WP.at0 ?_
    k_updF
    refine WP.ixT hq WP.at0 ?_
    refine WP.iC (hu.w hx) ?_
    k_updF
    refine WP.ixT hp WP.at1 ?_
    k_updF
    refine WP.ixT hq WP.at1 ?_
    k_updF
    refine ⟨_, _, rfl, by omega, ?_⟩
    rw [show ((s' : Int) + (t : Int)).toNat = s' + t by omega]
    exact k
end
abbrev s__law_part : Stmt := top 23
abbrev N__law_part : List Str := ["above", "below", "is_rounded", "size"]
theorem sc__law_part : FnScope N__law_part ["above", "below", "is_rounded"] (defScope s__law_part) := ⟨rfl, rfl, rfl, by decide +kernel, rfl, by decide +kernel, by decide +kernel⟩
def sp__law_part (K : PySem.W.Frag) (mg : WP.MG) : Sp := fun vs H Q _ => ∃ (x y : Int) (r : Bool), vs = [.int x, .int y, .bl r] ∧ 0 < y ∧ WP.Bt x 8000 ∧ WP.Bt y 8000 ∧ Q (.int (MQ.quot x y r)) H
section
variable {P : Program} {w : World} {K : PySem.W.Frag} {mg : Str → Option Value} {base : Heap}
theorem ok__law_part {f : Addr} {fd : FuncData} (F : Fun K "_law_part" "_law_part" s__law_part f fd) (B : Blt K mg)  : FnOk P w K mg base CX0 1 f fd ["above", "below", "is_rounded"] (sp__law_part K mg) := by
  refine F.ok sc__law_part (fun vs H Q E h => ?_) (fun cdv A outer s H vs Q E hr h => ?_)
  · first | (obtain ⟨_, rfl, _⟩ := h; rfl) | (obtain ⟨_, _, rfl, _⟩ := h; rfl) | (obtain ⟨_, _, _, rfl, _⟩ := h; rfl) | (obtain ⟨_, _, _, _, rfl, _⟩ := h; rfl) | (obtain ⟨_, _, _, _, _, rfl, _⟩ := h; rfl) | (obtain ⟨_, _, _, _, _, _, rfl, _⟩ := h; rfl) | (obtain ⟨_, _, _, _, _, _, _, rfl, _⟩ := h; rfl) | (obtain ⟨_, _, _, _, _, _, _, _, rfl, _⟩ := h; rfl) | (obtain ⟨rfl, _⟩ := h; rfl)
  · obtain ⟨x, y, r, rfl, hy, bx, by_, k⟩ := h
    refine ⟨_, (pss_cons (ps_set (i := 3) sc__law_part.nd rfl (Or.inl rfl) (pe_op op_fdivW (pe_callB WP.c_abs (by rfl) B.b_abs (by decide +kernel) (pa_cons (pv 0) pa_nil)) (pv 1)))
      (Evl.pss_cut (ps_if (PW.pt (pw_and (pt_val (pv 2)) (pw_and1 (pt_cmpR op_ge (pe_op op_mul pe_int (pe_op op_sub (pe_callB WP.c_abs (by rfl) B.b_abs (by decide +kernel) (pa_cons (pv 0) pa_nil)) (pe_op op_mulW (pv 3) (pv 1)))) (pv 1) (nomark _))))) (pss_one (ps_set (i := 3) sc__law_part.nd rfl (Or.inl rfl) (pe_op op_add (pv 3) pe_int))) pss_nil)
      (pss_one (ps_ret (pe_ifExp (pt_cmpR op_lt (pv 0) pe_int (nomark _)) (pe_un un_neg (pv 3)) (pv 3)))))), ?_⟩
    obtain ⟨y, rfl⟩ : ∃ m : Nat, y = (m : Int) := ⟨y.toNat, by omega⟩
    k_updF
    refine WP.absI ?_
    k_updF
    refine WP.iC (WP.Bt.d' hy by_) ?_
    rw [← Int.natCast_ediv]
    have ey : (y : Int).natAbs = y := Int.natAbs_natCast y
    have hq : x.natAbs / y ≤ x.natAbs := Nat.div_le_self _ _
    have bq : WP.Bt ((x.natAbs / y : Nat) : Int) 8000 := bx.le (by rw [Int.natAbs_natCast]; exact hq)
    have em : x.natAbs = x.natAbs / y * y + x.natAbs % y := (Nat.div_add_mod' _ _).symm
    have sg : (decide (x < 0) != decide ((y : Int) < 0)) = decide (x < 0) := by rw [decide_eq_false (show ¬ ((y : Int) < 0) by omega)]; cases decide (x < 0) <;> rfl
    unfold MQ.quot at k
    rw [sg, ey] at k
    refine WP.cut (fun σ' H' => H' = H ∧ σ' = [some (.int x), some (.int (y : Int)), some (.bl r), some (.int (MQ.qsz x.natAbs y r : Int))]) ?_ ?_
    rotate_left
    · rintro σ' H' ⟨rfl, rfl⟩
      k_updF
      refine WP.br (fun c => ?_) (fun c => ?_)
      · k_updF
        rw [if_pos (decide_eq_true c)] at k
        exact k
      · k_updF
        rw [if_neg (by rw [decide_eq_false c]; exact Bool.false_ne_true)] at k
        exact k
    have base : ¬ (r = true ∧ y ≤ 2 * (x.natAbs % y)) → MQ.qsz x.natAbs y r = x.natAbs / y := fun z => by unfold MQ.qsz; rw [if_neg z]
    k_updF
    refine WP.brB (fun c => ?_) (fun c => ?_)
    · k_updF
      refine WP.absI ?_
      k_updF
      refine WP.iC (bq.w by_) ?_
      k_updF
      refine WP.iC (.inl (by decide)) ?_
      k_updF
      have e1 : (x.natAbs : Int) - ((x.natAbs / y : Nat) : Int) * (y : Int) = ((x.natAbs % y : Nat) : Int) := by
        rw [← Int.natCast_mul]; omega
      rw [e1]
      refine WP.br (fun d => ?_) (fun d => ?_)
      · k_updF
        refine ⟨rfl, ?_⟩
        rw [show MQ.qsz x.natAbs y r = x.natAbs / y + 1 by unfold MQ.qsz; rw [if_pos ⟨c, by omega⟩]]
        rfl
      · k_updF
        refine ⟨rfl, ?_⟩
        rw [base (fun z => d (by omega))]
        rfl
    · k_updF
      refine WP.brF rfl ?_
      k_updF
      refine ⟨rfl, ?_⟩
      rw [base (fun z => by rw [c] at z; cases z.1)]
      rfl
end
abbrev s_quotient : Stmt := top 11
abbrev N_quotient : List Str := ["above", "below", "is_rounded", "size", "rest"]
theorem sc_quotient : FnScope N_quotient ["above", "below", "is_rounded"] (defScope s_quotient) := ⟨rfl, rfl, rfl, by decide +kernel, rfl, by decide +kernel, by decide +kernel⟩
def sp_quotient (K : PySem.W.Frag) (mg : WP.MG) : Sp := fun vs H Q _ => ∃ (x y : Int) (r : Bool), vs = [.int x, .int y, .bl r] ∧ y ≠ 0 ∧ WP.Bt x 3900 ∧ WP.RetV (.int (MQ.quot x y r)) H Q
section
variable {P : Program} {w : World} {K : PySem.W.Frag} {mg : Str → Option Value} {base : Heap}
theorem ok_quotient {f : Addr} {fd : FuncData} (F : Fun K "quotient" "quotient" s_quotient f fd) (B : Blt K mg)  : FnOk P w K mg base CX0 1 f fd ["above", "below", "is_rounded"] (sp_quotient K mg) := by
  refine F.ok sc_quotient (fun vs H Q E h => ?_) (fun cdv A outer s H vs Q E hr h => ?_)
  · first | (obtain ⟨_, rfl, _⟩ := h; rfl) | (obtain ⟨_, _, rfl, _⟩ := h; rfl) | (obtain ⟨_, _, _, rfl, _⟩ := h; rfl) | (obtain ⟨_, _, _, _, rfl, _⟩ := h; rfl) | (obtain ⟨_, _, _, _, _, rfl, _⟩ := h; rfl) | (obtain ⟨_, _, _, _, _, _, rfl, _⟩ := h; rfl) | (obtain ⟨_, _, _, _, _, _, _, rfl, _⟩ := h; rfl) | (obtain ⟨_, _, _, _, _, _, _, _, rfl, _⟩ := h; rfl) | (obtain ⟨rfl, _⟩ := h; rfl)
  · obtain ⟨x, y, r, rfl, hy, hx, k⟩ := h
    refine ⟨_, (pss_cons (ps_asg (pe_callB WP.c_divmodW (by rfl) B.b_divmod (by decide +kernel) (pa_cons (pe_callB WP.c_abs (by rfl) B.b_abs (by decide +kernel) (pa_cons (pv 0) pa_nil)) (pa_cons (pe_callB WP.c_abs (by rfl) B.b_abs (by decide +kernel) (pa_cons (pv 1) pa_nil)) pa_nil))) (pg_tup (by rfl) (pgs_cons (pg_name (i := 3) sc_quotient.nd rfl (Or.inl rfl)) (pgs_cons (pg_name (i := 4) sc_quotient.nd rfl (Or.inl rfl)) pgs_nil))))
      (Evl.pss_cut (ps_if (PW.pt (pw_and (pt_val (pv 2)) (pw_and1 (pt_cmpR op_ge (pe_op op_mul pe_int (pv 4)) (pe_callB WP.c_abs (by rfl) B.b_abs (by decide +kernel) (pa_cons (pv 1) pa_nil)) (nomark _))))) (pss_one (ps_set (i := 3) sc_quotient.nd rfl (Or.inl rfl) (pe_op op_add (pv 3) pe_int))) pss_nil)
      (pss_one (ps_ret (pe_ifExp (pt_cmpR op_ne (pe_cmpR op_lt (pv 0) pe_int (nomark _)) (pe_cmpR op_lt (pv 1) pe_int (nomark _)) (nomark _)) (pe_un un_neg (pv 3)) (pv 3)))))), ?_⟩
    k_updF
    refine WP.absI ?_
    k_updF
    refine WP.absI ?_
    k_updF
    refine WP.divW (WP.Bt.p (a := 3900) (by unfold WP.Bt at *; rw [Int.natAbs_natCast]; exact hx) (by omega)) (fun p hp => ?_)
    rw [← Int.natCast_ediv, ← Int.natCast_emod]
    refine WP.unT (SqT.of upd_same) rfl ?_
    k_updF
    generalize hH1 : upd H p _ = H1
    have e1 : Same H H1 := by rw [← hH1]; exact WP.same_new hp
    have fin : ∀ (D : Ends) (z3 : Option V), D.rt = Q → (tRet (tIf (tTest (tOp rNe (tOp (rI0 fun i j => V.bl (decide (i < j))) (tVar 0) (tC (V.int 0))) (tOp (rI0 fun i j => V.bl (decide (i < j))) (tVar 1) (tC (V.int 0)))))
        (tUn (rU fun i => V.int (-i)) (tVar 3)) (tVar 3))) D [some (.int x), some (.int y), some (.bl r), some (.int (MQ.qsz x.natAbs y.natAbs r : Int)), z3] H1 := by
      intro D z3 hD
      k_updF
      rw [hD]
      have q := k H1 e1
      unfold MQ.quot at q
      by_cases c : (decide (x < 0) != decide (y < 0)) = true
      · rw [if_pos c] at q
        refine WP.brT (by revert c; cases decide (x < 0) <;> cases decide (y < 0) <;> decide) ?_
        k_updF
        exact q
      · rw [if_neg c] at q
        refine WP.brF (by revert c; cases decide (x < 0) <;> cases decide (y < 0) <;> decide) ?_
        k_updF
        exact q
    refine WP.cut (fun σ' H' => H' = H1 ∧ σ' = [some (.int x), some (.int y), some (.bl r), some (.int (MQ.qsz x.natAbs y.natAbs r : Int)), some (.int ((x.natAbs % y.natAbs : Nat) : Int))]) ?_ ?_
    rotate_left
    · rintro σ' H' ⟨rfl, rfl⟩
      exact fin _ _ rfl
    have base : ¬ (r = true ∧ y.natAbs ≤ 2 * (x.natAbs % y.natAbs)) → MQ.qsz x.natAbs y.natAbs r = x.natAbs / y.natAbs := fun z => by unfold MQ.qsz; rw [if_neg z]
    k_updF
    refine WP.brB (fun c => ?_) (fun c => ?_)
    · k_updF
      refine WP.iC (.inl (by decide)) ?_
      k_updF
      refine WP.absI ?_
      k_updF
      refine WP.br (fun d => ?_) (fun d => ?_)
      · k_updF
        refine ⟨rfl, ?_⟩
        rw [show MQ.qsz x.natAbs y.natAbs r = x.natAbs / y.natAbs + 1 by unfold MQ.qsz; rw [if_pos ⟨c, by omega⟩]]
        rfl
      · k_updF
        refine ⟨rfl, ?_⟩
        rw [base (fun z => d (by omega))]
        rfl
    · k_updF
      refine WP.brF rfl ?_
      k_updF
      refine ⟨rfl, ?_⟩
      rw [base (fun z => by rw [c] at z; cases z.1)]
      rfl
end
abbrev s_units_at : Stmt := top 12
abbrev N_units_at : List Str := ["a", "scale", "is_rounded", "units", "own"]
theorem sc_units_at : FnScope N_units_at ["a", "scale", "is_rounded"] (defScope s_units_at) := ⟨rfl, rfl, rfl, by decide +kernel, rfl, by decide +kernel, by decide +kernel⟩
def sp_units_at (K : PySem.W.Frag) (mg : WP.MG) : Sp := fun vs H Q _ => ∃ (p : Addr) (u : Int) (own : Nat) (scale : Nat) (r : Bool), vs = [.ref p, .int (scale : Int), .bl r] ∧ SqT K H p (WP.dv u own) ∧ own ≤ 1000 ∧ scale ≤ 1000 ∧ WP.Bt u 3900 ∧
  ∀ q, q = (if own ≤ scale then u * 10 ^ (scale - own) else MQ.quot u (10 ^ (own - scale)) r) → WP.RetV (.int q) H Q
section
variable {P : Program} {w : World} {K : PySem.W.Frag} {mg : Str → Option Value} {base : Heap}
theorem ok_units_at {f : Addr} {fd : FuncData} (F : Fun K "units_at" "units_at" s_units_at f fd) (B : Blt K mg) (c_quotient : WP.Callee P w K mg base CX0 1 "quotient" ["above", "below", "is_rounded"] (sp_quotient K mg)) (c_aligned : WP.Callee P w K mg base CX0 2 "aligned" ["a", "scale"] (sp_aligned K mg)) (c_power : WP.Callee P w K mg base CX0 1 "power" ["exponent"] (sp_power K mg)) : FnOk P w K mg base CX0 3 f fd ["a", "scale", "is_rounded"] (sp_units_at K mg) := by
  refine F.ok sc_units_at (fun vs H Q E h => ?_) (fun cdv A outer s H vs Q E hr h => ?_)
  · first | (obtain ⟨_, rfl, _⟩ := h; rfl) | (obtain ⟨_, _, rfl, _⟩ := h; rfl) | (obtain ⟨_, _, _, rfl, _⟩ := h; rfl) | (obtain ⟨_, _, _, _, rfl, _⟩ := h; rfl) | (obtain ⟨_, _, _, _, _, rfl, _⟩ := h; rfl) | (obtain ⟨_, _, _, _, _, _, rfl, _⟩ := h; rfl) | (obtain ⟨_, _, _, _, _, _, _, rfl, _⟩ := h; rfl) | (obtain ⟨_, _, _, _, _, _, _, _, rfl, _⟩ := h; rfl) | (obtain ⟨rfl, _⟩ := h; rfl)
  · obtain ⟨p, u, own, scale, r, rfl, hp, h1, h2, hu, k⟩ := h
    refine ⟨_, (pss_cons (ps_asg (pv 0) (pg_tup (by rfl) (pgs_cons (pg_name (i := 3) sc_units_at.nd rfl (Or.inl rfl)) (pgs_cons (pg_name (i := 4) sc_units_at.nd rfl (Or.inl rfl)) pgs_nil))))
      (pss_cons (ps_if (pt_cmpR op_ge (pv 1) (pv 4) (nomark _)) (pss_one (ps_ret (WP.pe_callC c_aligned hr rfl pass0 (pa_cons (pv 0) (pa_cons (pv 1) pa_nil))))) pss_nil)
      (pss_one (ps_ret (WP.pe_callC c_quotient hr rfl pass0 (pa_cons (pv 3) (pa_cons (WP.pe_callC c_power hr rfl pass0 (pa_cons (pe_op op_sub (pv 4) (pv 1)) pa_nil)) (pa_cons (pv 2) pa_nil)))))))), ?_⟩
    k_updF
    refine WP.unT hp rfl ?_
    k_updF
    refine WP.br (fun c => ?_) (fun c => ?_)
    · k_updF
      refine ⟨p, u, own, _, rfl, hp, c, by omega, hu.mono (by decide), ?_⟩
      refine k _ ?_ _ (Same.refl _)
      rw [if_pos (by omega), show ((scale : Int) - (own : Int)).toNat = scale - own by omega]
    · k_updF
      refine ⟨_, rfl, by omega, ?_⟩
      k_updF
      refine ⟨_, _, _, rfl, Int.ne_of_gt (WP.ten_pos _), hu, ?_⟩
      refine k _ ?_
      rw [if_neg (by omega), show ((own : Int) - (scale : Int)).toNat = own - scale by omega]
end
abbrev s_compare : Stmt := top 10
abbrev N_compare : List Str := ["a", "b", "scale", "difference"]
theorem sc_compare : FnScope N_compare ["a", "b"] (defScope s_compare) := ⟨rfl, rfl, rfl, by decide +kernel, rfl, by decide +kernel, by decide +kernel⟩
/-- -1, 0 or 1 -/
def dcmp (u : Int) (s : Nat) (x : Int) (t : Nat) : Int :=
  let d := u * 10 ^ (max s t - s) - x * 10 ^ (max s t - t)
  if d < 0 then -1 else if 0 < d then 1 else 0
def sp_compare (K : PySem.W.Frag) (mg : WP.MG) : Sp := fun vs H Q _ => ∃ (p q : Addr) (u : Int) (s : Nat) (x : Int) (t : Nat), vs = [.ref p, .ref q] ∧ SqT K H p (WP.dv u s) ∧ SqT K H q (WP.dv x t) ∧ s ≤ 1000 ∧ t ≤ 1000 ∧ WP.Bt u 100000 ∧ WP.Bt x 100000 ∧
  Q (.int (dcmp u s x t)) H
section
variable {P : Program} {w : World} {K : PySem.W.Frag} {mg : Str → Option Value} {base : Heap}
theorem ok_compare {f : Addr} {fd : FuncData} (F : Fun K "compare" "compare" s_compare f fd) (B : Blt K mg) (c_aligned : WP.Callee P w K mg base CX0 2 "aligned" ["a", "scale"] (sp_aligned K mg)) : FnOk P w K mg base CX0 3 f fd ["a", "b"] (sp_compare K mg) := by
  refine F.ok sc_compare (fun vs H Q E h => ?_) (fun cdv A outer s H vs Q E hr h => ?_)
  · first | (obtain ⟨_, rfl, _⟩ := h; rfl) | (obtain ⟨_, _, rfl, _⟩ := h; rfl) | (obtain ⟨_, _, _, rfl, _⟩ := h; rfl) | (obtain ⟨_, _, _, _, rfl, _⟩ := h; rfl) | (obtain ⟨_, _, _, _, _, rfl, _⟩ := h; rfl) | (obtain ⟨_, _, _, _, _, _, rfl, _⟩ := h; rfl) | (obtain ⟨_, _, _, _, _, _, _, rfl, _⟩ := h; rfl) | (obtain ⟨_, _, _, _, _, _, _, _, rfl, _⟩ := h; rfl) | (obtain ⟨rfl, _⟩ := h; rfl)
  · obtain ⟨p, q, u, s', x, t, rfl, hp, hq, hs, ht, hu, hx, k⟩ := h
    refine ⟨_, (pss_cons (ps_set (i := 2) sc_compare.nd rfl (Or.inl rfl) (pe_callB (WP.c_max2 rfl) (by rfl) B.b_max (by decide +kernel) (pa_cons (pe_ix ix_tup (pv 0) pe_int (fun _ _ => rfl)) (pa_cons (pe_ix ix_tup (pv 1) pe_int (fun _ _ => rfl)) pa_nil))))
      (pss_cons (ps_set (i := 3) sc_compare.nd rfl (Or.inl rfl) (pe_op op_sub (WP.pe_callC c_aligned hr rfl pass0 (pa_cons (pv 0) (pa_cons (pv 2) pa_nil))) (WP.pe_callC c_aligned hr rfl pass0 (pa_cons (pv 1) (pa_cons (pv 2) pa_nil)))))
      (pss_cons (ps_if (pt_cmpR op_lt (pv 3) pe_int (nomark _)) (pss_one (ps_ret (pe_un un_neg pe_int))) pss_nil)
      (pss_one (ps_ret (pe_ifExp (pt_cmpR op_gt (pv 3) pe_int (nomark _)) pe_int pe_int)))))), ?_⟩
    k_updF
    refine WP.ixT hp WP.at1 ?_
    k_updF
    refine WP.ixT hq WP.at1 ?_
    k_updF
    refine WP.maxI ?_
    rw [show max (s' : Int) (t : Int) = ((max s' t : Nat) : Int) by omega]
    k_updF
    refine ⟨p, u, s', _, rfl, hp, by omega, by omega, hu.mono (by decide), ?_⟩
    k_updF
    refine ⟨q, x, t, _, rfl, hq, by omega, by omega, hx.mono (by decide), ?_⟩
    rw [show (((max s' t : Nat) : Int) - (s' : Int)).toNat = max s' t - s' by omega, show (((max s' t : Nat) : Int) - (t : Int)).toNat = max s' t - t by omega]
    unfold dcmp at k
    k_updF
    refine WP.br (fun c => ?_) (fun c => ?_)
    · k_updF
      rw [if_pos c] at k
      exact k
    · k_updF
      rw [if_neg c] at k
      refine WP.br (fun c => ?_) (fun c => ?_)
      · k_updF
        rw [if_pos c] at k
        exact k
      · k_updF
        rw [if_neg c] at k
        exact k
end
abbrev s__figures : Stmt := top 15
abbrev N__figures : List Str := ["units", "parts", "part"]
theorem sc__figures : FnScope N__figures ["units"] (defScope s__figures) := ⟨rfl, rfl, rfl, by decide +kernel, rfl, by decide +kernel, by decide +kernel⟩
def sp__figures (K : PySem.W.Frag) (mg : WP.MG) : Sp := fun vs H Q _ => ∃ n : Nat, vs = [.int (n : Int)] ∧ n < 10 ^ 570 ∧ WP.RetV (.str (SX.S (TL.numL n))) H Q
section
variable {P : Program} {w : World} {K : PySem.W.Frag} {mg : Str → Option Value} {base : Heap}
theorem ok__figures {f : Addr} {fd : FuncData} (F : Fun K "_figures" "_figures" s__figures f fd) (B : Blt K mg)  : FnOk P w K mg base CX0 1 f fd ["units"] (sp__figures K mg) := by
  refine F.ok sc__figures (fun vs H Q E h => ?_) (fun cdv A outer s H vs Q E hr h => ?_)
  · first | (obtain ⟨_, rfl, _⟩ := h; rfl) | (obtain ⟨_, _, rfl, _⟩ := h; rfl) | (obtain ⟨_, _, _, rfl, _⟩ := h; rfl) | (obtain ⟨_, _, _, _, rfl, _⟩ := h; rfl) | (obtain ⟨_, _, _, _, _, rfl, _⟩ := h; rfl) | (obtain ⟨_, _, _, _, _, _, rfl, _⟩ := h; rfl) | (obtain ⟨_, _, _, _, _, _, _, rfl, _⟩ := h; rfl) | (obtain ⟨_, _, _, _, _, _, _, _, rfl, _⟩ := h; rfl) | (obtain ⟨rfl, _⟩ := h; rfl)
  · obtain ⟨n, rfl, hn, k⟩ := h
    refine ⟨_, (pss_cons (ps_set (i := 1) sc__figures.nd rfl (Or.inl rfl) (pe_lst pa_nil))
      (pss_cons (ps_while PassesOwn.never (pt_cmpR op_ge (pv 0) (WP.pe_const rfl B.c_PART) (nomark _)) (pss_cons (ps_asg (pe_callB WP.c_divmodW (by rfl) B.b_divmod (by decide +kernel) (pa_cons (pv 0) (pa_cons (WP.pe_const rfl B.c_PART) pa_nil))) (pg_tup (by rfl) (pgs_cons (pg_name (i := 0) sc__figures.nd rfl (Or.inl rfl)) (pgs_cons (pg_name (i := 2) sc__figures.nd rfl (Or.inl rfl)) pgs_nil))))
      (pss_one (ps_expr (pe_bm PySem.F.plainAttrs_list PySem.F.slot_list_append PySem.F.type_list_append mt_append (pv 1) (pa_cons (pe_bm PySem.F.plainAttrs_str PySem.F.slot_str_zfill PySem.F.type_str_zfill WP.m_zfill (pe_callTy WP.c_str (by rfl) B.b_str (by decide +kernel) (pa_cons (pv 2) pa_nil)) (pa_cons (WP.pe_const rfl B.c_PART_FIGURES) pa_nil)) pa_nil))))))
      (pss_cons (ps_expr (pe_bm PySem.F.plainAttrs_list PySem.F.slot_list_append PySem.F.type_list_append mt_append (pv 1) (pa_cons (pe_callTy WP.c_str (by rfl) B.b_str (by decide +kernel) (pa_cons (pv 0) pa_nil)) pa_nil)))
      (pss_one (ps_ret (WP.pe_joinRev rfl (WP.pe_strL [] (by decide +kernel)) (by rfl) B.b_reversed (pv 1))))))), ?_⟩
    k_updF
    refine ⟨WP.sz (by decide), fun p hp => ?_⟩
    k_updF
    refine ⟨fun m σ H' => ∃ (u : Nat) (ps : List (List Nat)) (z : Option V), σ = [some (.int (u : Int)), some (.ref p), z] ∧ m = u ∧ Same H H' ∧ H' p = some (.lst ((ps.map SX.S).map V.str)) ∧ TL.numL n = TL.numL u ++ ps.reverse.flatten ∧ u ≤ n ∧ ps.length ≤ ps.flatten.length,
      ⟨n, n, [], none, rfl, rfl, WP.same_new hp, upd_same, by simp, Nat.le_refl _, Nat.le_refl _⟩, ?_⟩
    rintro m σ H' ⟨u, ps, z, rfl, rfl, e1, hpp, eN, hun, hlen⟩
    have hnl : (TL.numL n).length ≤ 570 := TL.numL_len (by decide) hn
    have hfl : ps.flatten.length ≤ 570 := by
      have e := congrArg List.length eN
      rw [List.length_append] at e
      have e2 : ps.reverse.flatten.length = ps.flatten.length := by simp [List.length_flatten, List.sum_reverse]
      omega
    k_updF
    refine WP.br (fun c => ?_) (fun c => ?_)
    · refine ⟨fun σ' H2 => ∃ m', m' < m ∧ ∃ (u : Nat) (ps : List (List Nat)) (z : Option V), σ' = [some (.int (u : Int)), some (.ref p), z] ∧ m' = u ∧ Same H H2 ∧ H2 p = some (.lst ((ps.map SX.S).map V.str)) ∧ TL.numL n = TL.numL u ++ ps.reverse.flatten ∧ u ≤ n ∧ ps.length ≤ ps.flatten.length, fun _ _ x => x, ?_⟩
      k_updF
      refine WP.divW (WP.Bt.p (a := 3900) (Nat.lt_of_le_of_lt hun (Nat.lt_trans hn (by decide +kernel))) (by decide)) (fun p2 hp2 => ?_)
      refine WP.unT (SqT.of upd_same) rfl ?_
      k_updF
      have hp3 : upd H' p2 (.tup [.int ((m : Int) / 1000000000000000000), .int ((m : Int) % 1000000000000000000)]) p = some (.lst ((ps.map SX.S).map V.str)) := by rw [upd_ne (ne_of_none hpp hp2)]; exact hpp
      refine WP.tyL (SqL.of hp3) ?_
      k_updF
      rw [show ((m : Int) % 1000000000000000000) = ((m % 1000000000000000000 : Nat) : Int) by omega, show ((m : Int) / 1000000000000000000) = ((m / 1000000000000000000 : Nat) : Int) by omega] at *
      have hr18 : m % 1000000000000000000 < 10 ^ 18 := Nat.mod_lt _ (by decide)
      refine WP.strN (WP.log2_lt (by decide) (Nat.lt_trans hr18 (by decide +kernel))) ?_
      k_updF
      refine WP.zfillS (fun c hc => WP.numL_head hc) (by decide) (by decide) ?_
      k_updF
      refine WP.appL hp3 (by rw [List.length_map, List.length_map, sizeLine_eq]; omega) ?_
      k_updF
      rw [show Int.toNat 18 = 18 from rfl, ← WP.padL_num 18 _ (by decide) hr18]
      have q1 := WP.numL_app 18 (m / 1000000000000000000) (m % 1000000000000000000) (by omega) hr18
      rw [show m / 1000000000000000000 * 10 ^ 18 + m % 1000000000000000000 = m by omega] at q1
      refine ⟨m / 1000000000000000000, by omega, m / 1000000000000000000, ps ++ [WP.padL 18 (m % 1000000000000000000)], some (.int ((m % 1000000000000000000 : Nat) : Int)), rfl, rfl, WP.same_mut (e1.trans (WP.same_new hp2)) hp, ?_, ?_, by omega, ?_⟩
      · rw [upd_same, List.map_append, List.map_append]; rfl
      · rw [eN, q1, List.reverse_append, List.append_assoc]; simp
      · rw [List.length_append, List.flatten_append, List.length_append]
        simp [WP.padL_len]
        rw [List.length_flatten] at hlen
        omega
    · k_updF
      refine WP.tyL (SqL.of hpp) ?_
      k_updF
      refine WP.strN (WP.log2_lt (by decide) (Nat.lt_trans (show m < 10 ^ 18 by omega) (by decide +kernel))) ?_
      k_updF
      refine WP.appL hpp (by rw [List.length_map, List.length_map, sizeLine_eq]; omega) ?_
      k_updF
      refine ⟨⟨_, rfl⟩, ?_⟩
      k_updF
      have hm : (TL.numL m).length ≤ 18 := TL.numL_len (by decide) (show m < 10 ^ 18 by omega)
      refine ⟨_, p, (ps ++ [TL.numL m]).map SX.S, rfl, rfl, SqL.of (by rw [upd_same, List.map_append, List.map_append]; rfl), ?_, ?_⟩
      · rw [SX.lens, SX.S_len, List.map_append, List.sum_append, ← List.length_flatten, List.length_nil, Nat.mul_zero, Nat.add_zero]
        show ps.flatten.length + ((TL.numL m).length + 0) ≤ _
        omega
      · rw [← List.map_reverse, WP.join_nilS, List.reverse_append]
        have e3 : ([TL.numL m].reverse ++ ps.reverse).flatten = TL.numL n := by rw [eN]; rfl
        rw [e3]
        exact k _ (WP.same_mut e1 hp)
end
abbrev s_show : Stmt := top 14
abbrev N_show : List Str := ["a", "units", "scale", "sign", "figures"]
theorem sc_show : FnScope N_show ["a"] (defScope s_show) := ⟨rfl, rfl, rfl, by decide +kernel, rfl, by decide +kernel, by decide +kernel⟩
/-- the figures of a decimal, at least one ahead of the point -/
def dfigs (u : Int) (s : Nat) : List Nat := List.replicate (s + 1 - (TL.numL u.natAbs).length) 48 ++ TL.numL u.natAbs
/-- a decimal's text -/
def dtext (u : Int) (s : Nat) : List Nat := (if u < 0 then [45] else []) ++ (if s = 0 then dfigs u s else (dfigs u s).take ((dfigs u s).length - s) ++ [46] ++ (dfigs u s).drop ((dfigs u s).length - s))
theorem dfigs_len {u : Int} {s : Nat} (h : u.natAbs < 10 ^ 570) : s + 1 ≤ (dfigs u s).length ∧ (dfigs u s).length ≤ 571 + s := by
  have := TL.numL_len (k := 570) (by decide) h
  unfold dfigs
  rw [List.length_append, List.length_replicate]
  omega
def sp_show (K : PySem.W.Frag) (mg : WP.MG) : Sp := fun vs H Q _ => ∃ (p : Addr) (u : Int) (s : Nat), vs = [.ref p] ∧ SqT K H p (WP.dv u s) ∧ u.natAbs < 10 ^ 570 ∧ s ≤ 1000 ∧ WP.RetV (.str (SX.S (dtext u s))) H Q
section
variable {P : Program} {w : World} {K : PySem.W.Frag} {mg : Str → Option Value} {base : Heap}
theorem ok_show {f : Addr} {fd : FuncData} (F : Fun K "show" "show" s_show f fd) (B : Blt K mg) (c__figures : WP.Callee P w K mg base CX0 1 "_figures" ["units"] (sp__figures K mg)) : FnOk P w K mg base CX0 2 f fd ["a"] (sp_show K mg) := by
  refine F.ok sc_show (fun vs H Q E h => ?_) (fun cdv A outer s H vs Q E hr h => ?_)
  · first | (obtain ⟨_, rfl, _⟩ := h; rfl) | (obtain ⟨_, _, rfl, _⟩ := h; rfl) | (obtain ⟨_, _, _, rfl, _⟩ := h; rfl) | (obtain ⟨_, _, _, _, rfl, _⟩ := h; rfl) | (obtain ⟨_, _, _, _, _, rfl, _⟩ := h; rfl) | (obtain ⟨_, _, _, _, _, _, rfl, _⟩ := h; rfl) | (obtain ⟨_, _, _, _, _, _, _, rfl, _⟩ := h; rfl) | (obtain ⟨_, _, _, _, _, _, _, _, rfl, _⟩ := h; rfl) | (obtain ⟨rfl, _⟩ := h; rfl)
  · obtain ⟨p, u, s', rfl, hp, hu, hs, k⟩ := h
    refine ⟨_, (pss_cons (ps_asg (pv 0) (pg_tup (by rfl) (pgs_cons (pg_name (i := 1) sc_show.nd rfl (Or.inl rfl)) (pgs_cons (pg_name (i := 2) sc_show.nd rfl (Or.inl rfl)) pgs_nil))))
      (pss_cons (ps_set (i := 3) sc_show.nd rfl (Or.inl rfl) (pe_ifExp (pt_cmpR op_lt (pv 1) pe_int (nomark _)) (WP.pe_strL [45] (by decide +kernel)) (WP.pe_strL [] (by decide +kernel))))
      (pss_cons (ps_set (i := 4) sc_show.nd rfl (Or.inl rfl) (pe_bm PySem.F.plainAttrs_str PySem.F.slot_str_zfill PySem.F.type_str_zfill WP.m_zfill (WP.pe_callC c__figures hr rfl pass0 (pa_cons (pe_callB WP.c_abs (by rfl) B.b_abs (by decide +kernel) (pa_cons (pv 1) pa_nil)) pa_nil)) (pa_cons (pe_op op_add (pv 2) pe_int) pa_nil)))
      (pss_cons (ps_if (pt_cmpR op_eq (pv 2) pe_int (nomark _)) (pss_one (ps_ret (pe_op WP.op_addS (pv 3) (pv 4)))) pss_nil)
      (pss_one (ps_ret (pe_op WP.op_addS (pe_op WP.op_addS (pe_op WP.op_addS (pv 3) (pe_slice sl_str (pv 4) po_none (po_some (pe_un un_neg (pv 2))))) (WP.pe_strL [46] (by decide +kernel))) (pe_slice sl_str (pv 4) (po_some (pe_un un_neg (pv 2))) po_none)))))))), ?_⟩
    k_updF
    refine WP.unT hp rfl ?_
    k_updF
    have fl := dfigs_len (s := s') hu
    refine WP.ifSS ?_
    have hsg : (if u < 0 then [45] else [] : List Nat).length ≤ 1 := by split <;> decide
    k_updF
    refine WP.absI ?_
    k_updF
    refine ⟨_, rfl, hu, fun H1 e1 => ?_⟩
    refine WP.tyS ?_
    k_updF
    refine WP.zfillS (fun c hc => WP.numL_head hc) (by omega) (by omega) ?_
    rw [show ((s' : Int) + 1).toNat = s' + 1 by omega]
    have eD : dtext u s' = (if u < 0 then [45] else []) ++ (if s' = 0 then dfigs u s' else (dfigs u s').take ((dfigs u s').length - s') ++ [46] ++ (dfigs u s').drop ((dfigs u s').length - s')) := rfl
    rw [eD] at k
    change WP.RetV (.str (SX.S (_ ++ _))) H Q at k
    have eF : List.replicate (s' + 1 - (TL.numL u.natAbs).length) 48 ++ TL.numL u.natAbs = dfigs u s' := rfl
    rw [eF]
    generalize dfigs u s' = F at k fl ⊢
    generalize (if u < 0 then [45] else [] : List Nat) = sg at k hsg ⊢
    k_updF
    refine WP.br (fun c => ?_) (fun c => ?_)
    · k_updF
      refine WP.catS ?_ (by rw [sizeLine_eq]; omega)
      rw [if_pos (by omega)] at k
      exact k _ e1
    · k_updF
      rw [if_neg (by omega)] at k
      refine WP.slToN (by omega) (by omega) (by rw [sizeLine_eq]; omega) ?_
      rw [show (-(s' : Int) + (F.length : Int)).toNat = F.length - s' by omega]
      refine WP.catS ?_ (by rw [sizeLine_eq, List.length_take]; omega)
      k_updF
      refine WP.catS ?_ (by rw [sizeLine_eq, List.length_append, List.length_take]; show _ + 1 ≤ _; omega)
      k_updF
      refine WP.slFromN (by omega) (by omega) (by rw [sizeLine_eq]; omega) ?_
      rw [show (-(s' : Int) + (F.length : Int)).toNat = F.length - s' by omega]
      refine WP.catS ?_ (by rw [sizeLine_eq, List.length_append, List.length_append, List.length_take, List.length_drop]; show _ + 1 + _ ≤ _; omega)
      rw [List.append_assoc, List.append_assoc]
      rw [List.append_assoc] at k
      exact k _ e1
end
abbrev s__law_text : Stmt := top 24
abbrev N__law_text : List Str := ["number", "figures"]
theorem sc__law_text : FnScope N__law_text ["number"] (defScope s__law_text) := ⟨rfl, rfl, rfl, by decide +kernel, rfl, by decide +kernel, by decide +kernel⟩
def sp__law_text (K : PySem.W.Frag) (mg : WP.MG) : Sp := fun vs H Q _ => ∃ (p : Addr) (u : Int) (s : Nat), vs = [.ref p] ∧ SqT K H p (WP.dv u s) ∧ u.natAbs < 10 ^ 570 ∧ s ≤ 1000 ∧ Q (.str (SX.S (dtext u s))) H
section
variable {P : Program} {w : World} {K : PySem.W.Frag} {mg : Str → Option Value} {base : Heap}
theorem ok__law_text {f : Addr} {fd : FuncData} (F : Fun K "_law_text" "_law_text" s__law_text f fd) (B : Blt K mg)  : FnOk P w K mg base CX0 1 f fd ["number"] (sp__law_text K mg) := by
  refine F.ok sc__law_text (fun vs H Q E h => ?_) (fun cdv A outer s H vs Q E hr h => ?_)
  · first | (obtain ⟨_, rfl, _⟩ := h; rfl) | (obtain ⟨_, _, rfl, _⟩ := h; rfl) | (obtain ⟨_, _, _, rfl, _⟩ := h; rfl) | (obtain ⟨_, _, _, _, rfl, _⟩ := h; rfl) | (obtain ⟨_, _, _, _, _, rfl, _⟩ := h; rfl) | (obtain ⟨_, _, _, _, _, _, rfl, _⟩ := h; rfl) | (obtain ⟨_, _, _, _, _, _, _, rfl, _⟩ := h; rfl) | (obtain ⟨_, _, _, _, _, _, _, _, rfl, _⟩ := h; rfl) | (obtain ⟨rfl, _⟩ := h; rfl)
  · obtain ⟨p, u, s', rfl, hp, hu, hs, k⟩ := h
    refine ⟨_, (pss_cons (ps_set (i := 1) sc__law_text.nd rfl (Or.inl rfl) (pe_callTy WP.c_str (by rfl) B.b_str (by decide +kernel) (pa_cons (pe_callB WP.c_abs (by rfl) B.b_abs (by decide +kernel) (pa_cons (pe_ix ix_tup (pv 0) pe_int (fun _ _ => rfl)) pa_nil)) pa_nil)))
      (pss_cons (ps_set (i := 1) sc__law_text.nd rfl (Or.inl rfl) (pe_op WP.op_addS (pe_op WP.op_mul_str (WP.pe_strL [48] (by decide +kernel)) (pe_op op_sub (pe_op op_add (pe_ix ix_tup (pv 0) pe_int (fun _ _ => rfl)) pe_int) (pe_callB WP.c_len (by rfl) B.b_len (by decide +kernel) (pa_cons (pv 1) pa_nil)))) (pv 1)))
      (Evl.pss_cut (ps_if (pt_cmpR op_gt (pe_ix ix_tup (pv 0) pe_int (fun _ _ => rfl)) pe_int (nomark _)) (pss_one (ps_set (i := 1) sc__law_text.nd rfl (Or.inl rfl) (pe_op WP.op_addS (pe_op WP.op_addS (pe_slice sl_str (pv 1) po_none (po_some (pe_op op_sub (pe_callB WP.c_len (by rfl) B.b_len (by decide +kernel) (pa_cons (pv 1) pa_nil)) (pe_ix ix_tup (pv 0) pe_int (fun _ _ => rfl))))) (WP.pe_strL [46] (by decide +kernel))) (pe_slice sl_str (pv 1) (po_some (pe_op op_sub (pe_callB WP.c_len (by rfl) B.b_len (by decide +kernel) (pa_cons (pv 1) pa_nil)) (pe_ix ix_tup (pv 0) pe_int (fun _ _ => rfl)))) po_none)))) pss_nil)
      (pss_one (ps_ret (pe_ifExp (pt_cmpR op_lt (pe_ix ix_tup (pv 0) pe_int (fun _ _ => rfl)) pe_int (nomark _)) (pe_op WP.op_addS (WP.pe_strL [45] (by decide +kernel)) (pv 1)) (pv 1))))))), ?_⟩
    have hl := TL.numL_len (k := 570) (by decide) hu
    have fl := dfigs_len (s := s') hu
    k_updF
    refine WP.ixT hp WP.at0 ?_
    k_updF
    refine WP.absI ?_
    k_updF
    refine WP.strN (WP.log2_lt (by decide) (Nat.lt_trans hu (by decide +kernel))) ?_
    k_updF
    refine WP.ixT hp WP.at1 ?_
    k_updF
    refine WP.lenS' (by rw [sizeLine_eq]; omega) ?_
    k_updF
    refine WP.mulS (by omega) (by omega) ?_
    rw [show ((s' : Int) + 1 - ((TL.numL u.natAbs).length : Int)).toNat = s' + 1 - (TL.numL u.natAbs).length by omega]
    k_updF
    refine WP.catS ?_ (by rw [List.length_replicate, sizeLine_eq]; omega)
    have eD : dtext u s' = (if u < 0 then [45] else []) ++ (if s' = 0 then dfigs u s' else (dfigs u s').take ((dfigs u s').length - s') ++ [46] ++ (dfigs u s').drop ((dfigs u s').length - s')) := rfl
    rw [eD] at k
    have eF : List.replicate (s' + 1 - (TL.numL u.natAbs).length) 48 ++ TL.numL u.natAbs = dfigs u s' := rfl
    rw [eF]
    generalize dfigs u s' = F at k fl ⊢
    k_updF
    refine WP.cut (fun σ' H' => H' = H ∧ σ' = [some (.ref p), some (.str (SX.S (if s' = 0 then F else F.take (F.length - s') ++ [46] ++ F.drop (F.length - s'))))]) ?_ ?_
    · k_updF
      refine WP.ixT hp WP.at1 ?_
      k_updF
      refine WP.br (fun c => ?_) (fun c => ?_)
      · k_updF
        refine WP.lenS' (by rw [sizeLine_eq]; omega) ?_
        k_updF
        refine WP.ixT hp WP.at1 ?_
        k_updF
        refine WP.slTo (by omega) (by rw [sizeLine_eq]; omega) ?_
        rw [show ((F.length : Int) - (s' : Int)).toNat = F.length - s' by omega]
        k_updF
        refine WP.catS ?_ (by rw [sizeLine_eq, List.length_take]; show _ + 1 ≤ _; omega)
        k_updF
        refine WP.lenS' (by rw [sizeLine_eq]; omega) ?_
        k_updF
        refine WP.ixT hp WP.at1 ?_
        k_updF
        refine WP.slFrom (by omega) (by rw [sizeLine_eq]; omega) ?_
        rw [show ((F.length : Int) - (s' : Int)).toNat = F.length - s' by omega]
        refine WP.catS ?_ (by rw [sizeLine_eq, List.length_append, List.length_take, List.length_drop]; show _ + 1 + _ ≤ _; omega)
        k_updF
        refine ⟨rfl, ?_⟩
        rw [if_neg (by omega)]
        rfl
      · k_updF
        refine ⟨rfl, ?_⟩
        rw [if_pos (by omega)]
        rfl
    have fl2 : (if s' = 0 then F else F.take (F.length - s') ++ [46] ++ F.drop (F.length - s')).length ≤ 3000 := by
      split
      · omega
      · rw [List.length_append, List.length_append, List.length_take, List.length_drop]; show _ + 1 + _ ≤ _; omega
    generalize (if s' = 0 then F else F.take (F.length - s') ++ [46] ++ F.drop (F.length - s')) = G at k fl2 ⊢
    rintro σ' H' ⟨rfl, rfl⟩
    k_updF
    refine WP.ixT hp WP.at0 ?_
    k_updF
    refine WP.br (fun c => ?_) (fun c => ?_)
    · k_updF
      refine WP.catS ?_ (by rw [sizeLine_eq]; show 1 + _ ≤ _; omega)
      rw [if_pos c] at k
      exact k
    · k_updF
      rw [if_neg c] at k
      exact k
end
abbrev s_fits : Stmt := top 13
abbrev N_fits : List Str := ["units", "digits"]
theorem sc_fits : FnScope N_fits ["units", "digits"] (defScope s_fits) := ⟨rfl, rfl, rfl, by decide +kernel, rfl, by decide +kernel, by decide +kernel⟩
def sp_fits (K : PySem.W.Frag) (mg : WP.MG) : Sp := fun vs H Q _ => ∃ u d : Int, vs = [.int u, .int d] ∧ d ≤ 3000 ∧ Q (.bl (decide (u.natAbs < 10 ^ d.toNat))) H
section
variable {P : Program} {w : World} {K : PySem.W.Frag} {mg : Str → Option Value} {base : Heap}
theorem ok_fits {f : Addr} {fd : FuncData} (F : Fun K "fits" "fits" s_fits f fd) (B : Blt K mg) (c_power : WP.Callee P w K mg base CX0 1 "power" ["exponent"] (sp_power K mg)) : FnOk P w K mg base CX0 2 f fd ["units", "digits"] (sp_fits K mg) := by
  refine F.ok sc_fits (fun vs H Q E h => ?_) (fun cdv A outer s H vs Q E hr h => ?_)
  · first | (obtain ⟨_, rfl, _⟩ := h; rfl) | (obtain ⟨_, _, rfl, _⟩ := h; rfl) | (obtain ⟨_, _, _, rfl, _⟩ := h; rfl) | (obtain ⟨_, _, _, _, rfl, _⟩ := h; rfl) | (obtain ⟨_, _, _, _, _, rfl, _⟩ := h; rfl) | (obtain ⟨_, _, _, _, _, _, rfl, _⟩ := h; rfl) | (obtain ⟨_, _, _, _, _, _, _, rfl, _⟩ := h; rfl) | (obtain ⟨_, _, _, _, _, _, _, _, rfl, _⟩ := h; rfl) | (obtain ⟨rfl, _⟩ := h; rfl)
  · obtain ⟨u, d, rfl, hd, k⟩ := h
    refine ⟨_, (pss_one (ps_ret (pe_cmpR op_lt (pe_callB WP.c_abs (by rfl) B.b_abs (by decide +kernel) (pa_cons (pv 0) pa_nil)) (WP.pe_callC c_power hr rfl pass0 (pa_cons (pv 1) pa_nil)) (nomark _)))), ?_⟩
    k_updF
    refine WP.absI ?_
    k_updF
    refine ⟨_, rfl, hd, ?_⟩
    have e : decide ((u.natAbs : Int) < (10 : Int) ^ d.toNat) = decide (u.natAbs < 10 ^ d.toNat) := by
      have c : ((10 : Int) ^ d.toNat) = ((10 ^ d.toNat : Nat) : Int) := by rw [Int.natCast_pow]; rfl
      rw [c]
      congr 1
      exact propext (by omega)
    k_updF
    rw [e]
    exact k
end
abbrev s_law : Stmt := top 25
abbrev N_law : List Str := ["script", "draws", "raw", "a", "other", "b", "scale", "left", "right", "found", "due", "sign", "more", "figures", "place", "top", "cut"]
theorem sc_law : FnScope N_law ["script"] (defScope s_law) := ⟨rfl, rfl, rfl, by decide +kernel, rfl, by decide +kernel, by decide +kernel⟩
theorem qsz_scale {a b c : Nat} {r : Bool} (hc : 0 < c) : MQ.qsz (a * c) (b * c) r = MQ.qsz a b r := by
  unfold MQ.qsz
  rw [Nat.mul_div_mul_right _ _ hc, Nat.mul_mod_mul_right]
  have e : (b * c ≤ 2 * (a % b * c)) = (b ≤ 2 * (a % b)) := by
    rw [← Nat.mul_assoc]
    exact propext ⟨fun h => Nat.le_of_mul_le_mul_right h hc, fun h => Nat.mul_le_mul_right _ h⟩
  simp only [e]
theorem sgn_scale {x c : Int} (hc : 0 < c) : decide (x * c < 0) = decide (x < 0) := by
  congr 1
  exact propext ⟨fun h => by
    rcases Int.lt_or_le x 0 with q | q
    · exact q
    · have := Int.mul_nonneg q (Int.le_of_lt hc); omega, fun h => Int.mul_neg_of_neg_of_pos h hc⟩
theorem quot_scale {x y c : Int} {r : Bool} (hc : 0 < c) : MQ.quot (x * c) (y * c) r = MQ.quot x y r := by
  unfold MQ.quot
  rw [sgn_scale hc, sgn_scale hc, Int.natAbs_mul, Int.natAbs_mul, qsz_scale (by omega)]
theorem quot_exact {q y : Int} {r : Bool} (hy : 0 < y) : MQ.quot (q * y) y r = q := by
  have e := quot_scale (x := q) (y := 1) (c := y) (r := r) hy
  rw [Int.one_mul] at e
  rw [e]
  have hq : MQ.qsz q.natAbs 1 r = q.natAbs := by unfold MQ.qsz; rw [Nat.div_one, Nat.mod_one, if_neg (fun h => by have := h.2; omega)]
  unfold MQ.quot
  have h1 : decide ((1 : Int) < 0) = false := rfl
  rw [show (1 : Int).natAbs = 1 from rfl, hq, h1]
  by_cases c : q < 0
  · rw [decide_eq_true c]; show -((q.natAbs : Nat) : Int) = q; omega
  · rw [decide_eq_false c]; show ((q.natAbs : Nat) : Int) = q; omega
theorem place_eq {u : Int} {own place : Nat} {r : Bool} : (if own ≤ place then u * 10 ^ (place - own) else MQ.quot u (10 ^ (own - place)) r) = MQ.quot (u * 10 ^ place) (10 ^ own) r := by
  split
  · rename_i h
    have e : u * 10 ^ place = u * 10 ^ (place - own) * 10 ^ own := by rw [Int.mul_assoc, ← Int.pow_add]; congr 2; omega
    rw [e, quot_exact (WP.ten_pos _)]
  · rename_i h
    have e : (10 : Int) ^ own = 10 ^ (own - place) * 10 ^ place := by rw [← Int.pow_add]; congr 1; omega
    rw [e, quot_scale (WP.ten_pos _)]
theorem dsum_eq (u : Int) (s : Nat) (x : Int) (t : Nat) : dsum u s x t = MD.nrm (u * 10 ^ t + x * 10 ^ s) (s + t) := by
  unfold dsum
  rw [← MD.nrm_up (min s t) (max s t), Int.add_mul, Int.mul_assoc, Int.mul_assoc, ← Int.pow_add, ← Int.pow_add]
  rw [show max s t - s + min s t = t by omega, show max s t - t + min s t = s by omega, show max s t + min s t = s + t by omega]
theorem dcmp_eq (u : Int) (s : Nat) (x : Int) (t : Nat) : dcmp u s x t = (if decide (x * 10 ^ s < u * 10 ^ t) = true then 1 else 0) - (if decide (u * 10 ^ t < x * 10 ^ s) = true then 1 else 0) := by
  have e : u * 10 ^ t - x * 10 ^ s = (u * 10 ^ (max s t - s) - x * 10 ^ (max s t - t)) * 10 ^ (min s t) := by
    rw [Int.sub_mul, Int.mul_assoc, Int.mul_assoc, ← Int.pow_add, ← Int.pow_add]
    rw [show max s t - s + min s t = t by omega, show max s t - t + min s t = s by omega]
  unfold dcmp
  generalize u * 10 ^ (max s t - s) - x * 10 ^ (max s t - t) = D at e
  have hp := WP.ten_pos (min s t)
  generalize (10 : Int) ^ (min s t) = T at e hp
  generalize u * 10 ^ t = L at e ⊢
  generalize x * 10 ^ s = R at e ⊢
  show (if D < 0 then (-1 : Int) else if 0 < D then 1 else 0) = _
  rcases Int.lt_trichotomy D 0 with h | h | h
  · have := Int.mul_neg_of_neg_of_pos h hp
    rw [if_pos h, if_neg (by rw [decide_eq_true_eq]; omega), if_pos (by rw [decide_eq_true_eq]; omega)]; rfl
  · subst h
    rw [Int.zero_mul] at e
    rw [if_neg (by decide), if_neg (by decide), if_neg (by rw [decide_eq_true_eq]; omega), if_neg (by rw [decide_eq_true_eq]; omega)]; rfl
  · have := Int.mul_pos h hp
    rw [if_neg (by omega), if_pos h, if_pos (by rw [decide_eq_true_eq]; omega), if_neg (by rw [decide_eq_true_eq]; omega)]; rfl
theorem dtext_ok {u : Int} {s : Nat} : WP.SOk (SX.S (dtext u s)) := WP.sok_S fun c hc => by
  have hf : ∀ c ∈ dfigs u s, c < 58 := fun c hc => by
    unfold dfigs at hc
    rcases List.mem_append.mp hc with h | h
    · rw [List.eq_of_mem_replicate h]; decide
    · have := TL.numL_digits _ c h; omega
  unfold dtext at hc
  rcases List.mem_append.mp hc with h | h
  · split at h
    · rw [List.mem_singleton.mp h]; decide
    · cases h
  · split at h
    · have := hf c h; omega
    · rcases List.mem_append.mp h with h | h
      · rcases List.mem_append.mp h with h | h
        · have := hf c (List.mem_of_mem_take h); omega
        · rw [List.mem_singleton.mp h]; decide
      · have := hf c (List.mem_of_mem_drop h); omega
section
variable {K : PySem.W.Frag} {H : Hp} {d : Nat}
theorem pw_nil : ∀ (i : Nat) x y, ([] : List V)[i]? = some x → ([] : List V)[i]? = some y → EqV K H d x y := fun i x y h _ => by simp at h
theorem pw_cons {x y : V} {xs ys : List V} (h : EqV K H d x y) (t : ∀ (i : Nat) x y, xs[i]? = some x → ys[i]? = some y → EqV K H d x y) : ∀ (i : Nat) x' y', (x :: xs)[i]? = some x' → (y :: ys)[i]? = some y' → EqV K H d x' y' := fun i x' y' h1 h2 => by
  cases i with
  | zero => cases h1; cases h2; exact h
  | succ i => exact t i x' y' h1 h2
theorem eqv_dv {p q : Addr} {u : Int} {s : Nat} (hp : SqT K H p (WP.dv u s)) (hq : SqT K H q (WP.dv u s)) : EqV K H (d + 1) (.ref p) (.ref q) :=
  .tup hp hq rfl (show 2 ≤ 1000 by decide) (pw_cons (.int _) (pw_cons (.int _) pw_nil))
end
def sp_law (K : PySem.W.Frag) : Sp := fun vs H Q _ => ∃ (a : Addr) (ns : List Int), vs = [.ref a] ∧ SqL K H a (ns.map V.int) ∧ ns.length ≤ 63 ∧ ∀ H', Q (.bl true) H'
section
variable {P : Program} {w : World} {K : PySem.W.Frag} {mg : Str → Option Value} {base : Heap}
theorem ok_law {f : Addr} {fd : FuncData} (F : Fun K "law" "law" s_law f fd) (B : Blt K mg) (c__law_draws : WP.Callee P w K mg base CX0 1 "_law_draws" ["script"] (sp__law_draws K mg)) (c__law_number : WP.Callee P w K mg base CX0 2 "_law_number" ["draws"] (sp__law_number K mg)) (c__law_least : WP.Callee P w K mg base CX0 1 "_law_least" ["units", "scale"] (sp__law_least K mg)) (c__law_draw : WP.Callee P w K mg base CX0 1 "_law_draw" ["draws", "limit"] (sp__law_draw K mg)) (c__law_same : WP.Callee P w K mg base CX0 3 "_law_same" ["actual", "expected"] (sp__law_same K mg 3)) (c__law_ten : WP.Callee P w K mg base CX0 1 "_law_ten" ["scale"] (sp__law_ten K mg)) (c_normal : WP.Callee P w K mg base CX0 1 "normal" ["units", "scale"] (sp_normal K mg)) (c_add : WP.Callee P w K mg base CX0 3 "add" ["a", "b"] (sp_add K mg)) (c_subtract : WP.Callee P w K mg base CX0 4 "subtract" ["a", "b"] (sp_subtract K mg)) (c_multiply : WP.Callee P w K mg base CX0 2 "multiply" ["a", "b"] (sp_multiply K mg)) (c_negative : WP.Callee P w K mg base CX0 1 "negative" ["a"] (sp_negative K mg)) (c__law_part : WP.Callee P w K mg base CX0 1 "_law_part" ["above", "below", "is_rounded"] (sp__law_part K mg)) (c_units_at : WP.Callee P w K mg base CX0 3 "units_at" ["a", "scale", "is_rounded"] (sp_units_at K mg)) (c_compare : WP.Callee P w K mg base CX0 3 "compare" ["a", "b"] (sp_compare K mg)) (c_show : WP.Callee P w K mg base CX0 2 "show" ["a"] (sp_show K mg)) (c__law_text : WP.Callee P w K mg base CX0 1 "_law_text" ["number"] (sp__law_text K mg)) (c_aligned : WP.Callee P w K mg base CX0 2 "aligned" ["a", "scale"] (sp_aligned K mg)) (c_fits : WP.Callee P w K mg base CX0 2 "fits" ["units", "digits"] (sp_fits K mg)) : FnOk P w K mg base CX0 5 f fd ["script"] (sp_law K) := by
  refine F.ok sc_law (fun vs H Q E h => ?_) (fun cdv A outer s H vs Q E hr h => ?_)
  · first | (obtain ⟨_, rfl, _⟩ := h; rfl) | (obtain ⟨_, _, rfl, _⟩ := h; rfl) | (obtain ⟨_, _, _, rfl, _⟩ := h; rfl) | (obtain ⟨_, _, _, _, rfl, _⟩ := h; rfl) | (obtain ⟨_, _, _, _, _, rfl, _⟩ := h; rfl) | (obtain ⟨_, _, _, _, _, _, rfl, _⟩ := h; rfl) | (obtain ⟨_, _, _, _, _, _, _, rfl, _⟩ := h; rfl) | (obtain ⟨_, _, _, _, _, _, _, _, rfl, _⟩ := h; rfl) | (obtain ⟨rfl, _⟩ := h; rfl)
  · obtain ⟨a, ns, rfl, ha, hl, k⟩ := h
    refine ⟨_, (pss_cons (ps_set (i := 1) sc_law.nd rfl (Or.inl rfl) (WP.pe_callC c__law_draws hr rfl pass0 (pa_cons (pv 0) pa_nil)))
      (pss_cons (ps_set (i := 2) sc_law.nd rfl (Or.inl rfl) (WP.pe_callC c__law_number hr rfl pass0 (pa_cons (pv 1) pa_nil)))
      (pss_cons (ps_set (i := 3) sc_law.nd rfl (Or.inl rfl) (WP.pe_callC c__law_least hr rfl pass0 (pa_cons (pe_ix ix_tup (pv 2) pe_int (fun _ _ => rfl)) (pa_cons (pe_ix ix_tup (pv 2) pe_int (fun _ _ => rfl)) pa_nil))))
      (pss_cons (ps_set (i := 4) sc_law.nd rfl (Or.inl rfl) (WP.pe_callC c__law_number hr rfl pass0 (pa_cons (pv 1) pa_nil)))
      (pss_cons (ps_set (i := 5) sc_law.nd rfl (Or.inl rfl) (WP.pe_callC c__law_least hr rfl pass0 (pa_cons (pe_ix ix_tup (pv 4) pe_int (fun _ _ => rfl)) (pa_cons (pe_ix ix_tup (pv 4) pe_int (fun _ _ => rfl)) pa_nil))))
      (Evl.pss_cut (ps_if (pt_cmpR op_eq (WP.pe_callC c__law_draw hr rfl pass0 (pa_cons (pv 1) (pa_cons pe_int pa_nil))) pe_int (nomark _)) (pss_cons (ps_set (i := 6) sc_law.nd rfl (Or.inl rfl) (pe_op op_add (pe_ix ix_tup (pv 3) pe_int (fun _ _ => rfl)) (WP.pe_callC c__law_draw hr rfl pass0 (pa_cons (pv 1) (pa_cons pe_int pa_nil)))))
      (pss_one (ps_set (i := 5) sc_law.nd rfl (Or.inl rfl) (WP.pe_callC c__law_least hr rfl pass0 (pa_cons (pe_op op_sub (pe_op op_add (pe_op op_mulW (pe_ix ix_tup (pv 3) pe_int (fun _ _ => rfl)) (WP.pe_callC c__law_ten hr rfl pass0 (pa_cons (pe_op op_sub (pv 6) (pe_ix ix_tup (pv 3) pe_int (fun _ _ => rfl))) pa_nil))) (WP.pe_callC c__law_draw hr rfl pass0 (pa_cons (pv 1) (pa_cons pe_int pa_nil)))) pe_int) (pa_cons (pv 6) pa_nil)))))) pss_nil)
      (pss_cons (ps_set (i := 7) sc_law.nd rfl (Or.inl rfl) (pe_op op_mulW (pe_ix ix_tup (pv 3) pe_int (fun _ _ => rfl)) (WP.pe_callC c__law_ten hr rfl pass0 (pa_cons (pe_ix ix_tup (pv 5) pe_int (fun _ _ => rfl)) pa_nil))))
      (pss_cons (ps_set (i := 8) sc_law.nd rfl (Or.inl rfl) (pe_op op_mulW (pe_ix ix_tup (pv 5) pe_int (fun _ _ => rfl)) (WP.pe_callC c__law_ten hr rfl pass0 (pa_cons (pe_ix ix_tup (pv 3) pe_int (fun _ _ => rfl)) pa_nil))))
      (pss_cons (ps_set (i := 6) sc_law.nd rfl (Or.inl rfl) (pe_op op_add (pe_ix ix_tup (pv 3) pe_int (fun _ _ => rfl)) (pe_ix ix_tup (pv 5) pe_int (fun _ _ => rfl))))
      (pss_cons (ps_set (i := 9) sc_law.nd rfl (Or.inl rfl) (pe_tup (pa_cons (WP.pe_callC c_normal hr rfl pass0 (pa_cons (pe_ix ix_tup (pv 2) pe_int (fun _ _ => rfl)) (pa_cons (pe_ix ix_tup (pv 2) pe_int (fun _ _ => rfl)) pa_nil))) (pa_cons (WP.pe_callC c_add hr rfl pass0 (pa_cons (pv 3) (pa_cons (pv 5) pa_nil))) (pa_cons (WP.pe_callC c_subtract hr rfl pass0 (pa_cons (pv 3) (pa_cons (pv 5) pa_nil))) (pa_cons (WP.pe_callC c_multiply hr rfl pass0 (pa_cons (pv 3) (pa_cons (pv 5) pa_nil))) (pa_cons (WP.pe_callC c_negative hr rfl pass0 (pa_cons (pv 3) pa_nil)) pa_nil)))))))
      (pss_cons (ps_set (i := 10) sc_law.nd rfl (Or.inl rfl) (pe_tup (pa_cons (pv 3) (pa_cons (WP.pe_callC c__law_least hr rfl pass0 (pa_cons (pe_op op_add (pv 7) (pv 8)) (pa_cons (pv 6) pa_nil))) (pa_cons (WP.pe_callC c__law_least hr rfl pass0 (pa_cons (pe_op op_sub (pv 7) (pv 8)) (pa_cons (pv 6) pa_nil))) (pa_cons (WP.pe_callC c__law_least hr rfl pass0 (pa_cons (pe_op op_mulW (pe_ix ix_tup (pv 3) pe_int (fun _ _ => rfl)) (pe_ix ix_tup (pv 5) pe_int (fun _ _ => rfl))) (pa_cons (pv 6) pa_nil))) (pa_cons (pe_tup (pa_cons (pe_un un_neg (pe_ix ix_tup (pv 3) pe_int (fun _ _ => rfl))) (pa_cons (pe_ix ix_tup (pv 3) pe_int (fun _ _ => rfl)) pa_nil))) pa_nil)))))))
      (pss_cons (ps_if (pt_not (pt_val (WP.pe_callC c__law_same hr rfl pass0 (pa_cons (pv 9) (pa_cons (pv 10) pa_nil))))) (pss_one (ps_ret pe_bl)) pss_nil)
      (pss_cons (ps_set (i := 11) sc_law.nd rfl (Or.inl rfl) (pe_op op_sub (pe_callTy WP.c_int1 (by rfl) B.b_int (by decide +kernel) (pa_cons (pe_cmpR op_gt (pv 7) (pv 8) (nomark _)) pa_nil)) (pe_callTy WP.c_int1 (by rfl) B.b_int (by decide +kernel) (pa_cons (pe_cmpR op_lt (pv 7) (pv 8) (nomark _)) pa_nil))))
      (pss_cons (ps_if (pt_not (pt_val (WP.pe_callC c__law_same hr rfl pass0 (pa_cons (pe_tup (pa_cons (WP.pe_callC c_compare hr rfl pass0 (pa_cons (pv 3) (pa_cons (pv 5) pa_nil))) (pa_cons (WP.pe_callC c_compare hr rfl pass0 (pa_cons (pv 5) (pa_cons (pv 3) pa_nil))) (pa_cons (WP.pe_callC c_show hr rfl pass0 (pa_cons (pv 3) pa_nil)) pa_nil)))) (pa_cons (pe_tup (pa_cons (pv 11) (pa_cons (pe_un un_neg (pv 11)) (pa_cons (WP.pe_callC c__law_text hr rfl pass0 (pa_cons (pv 3) pa_nil)) pa_nil)))) pa_nil))))) (pss_one (ps_ret pe_bl)) pss_nil)
      (pss_cons (ps_set (i := 12) sc_law.nd rfl (Or.inl rfl) (WP.pe_callC c__law_draw hr rfl pass0 (pa_cons (pv 1) (pa_cons pe_int pa_nil))))
      (pss_cons (ps_set (i := 13) sc_law.nd rfl (Or.inl rfl) (WP.pe_callC c__law_draw hr rfl pass0 (pa_cons (pv 1) (pa_cons pe_int pa_nil))))
      (pss_cons (ps_if (pt_not (pt_val (WP.pe_callC c__law_same hr rfl pass0 (pa_cons (pe_tup (pa_cons (WP.pe_callC c_aligned hr rfl pass0 (pa_cons (pv 3) (pa_cons (pe_op op_add (pe_ix ix_tup (pv 3) pe_int (fun _ _ => rfl)) (pv 12)) pa_nil))) (pa_cons (WP.pe_callC c_fits hr rfl pass0 (pa_cons (pe_ix ix_tup (pv 3) pe_int (fun _ _ => rfl)) (pa_cons (pv 13) pa_nil))) pa_nil))) (pa_cons (pe_tup (pa_cons (pe_op op_mulW (pe_ix ix_tup (pv 3) pe_int (fun _ _ => rfl)) (WP.pe_callC c__law_ten hr rfl pass0 (pa_cons (pv 12) pa_nil))) (pa_cons (pe_cmpR op_lt (pe_callB WP.c_abs (by rfl) B.b_abs (by decide +kernel) (pa_cons (pe_ix ix_tup (pv 3) pe_int (fun _ _ => rfl)) pa_nil)) (WP.pe_callC c__law_ten hr rfl pass0 (pa_cons (pv 13) pa_nil)) (nomark _)) pa_nil))) pa_nil))))) (pss_one (ps_ret pe_bl)) pss_nil)
      (pss_cons (ps_set (i := 14) sc_law.nd rfl (Or.inl rfl) (WP.pe_callC c__law_draw hr rfl pass0 (pa_cons (pv 1) (pa_cons pe_int pa_nil))))
      (pss_cons (ps_set (i := 15) sc_law.nd rfl (Or.inl rfl) (pe_op op_mulW (pe_ix ix_tup (pv 3) pe_int (fun _ _ => rfl)) (WP.pe_callC c__law_ten hr rfl pass0 (pa_cons (pv 14) pa_nil))))
      (pss_cons (ps_set (i := 16) sc_law.nd rfl (Or.inl rfl) (pe_tup (pa_cons (WP.pe_callC c__law_part hr rfl pass0 (pa_cons (pv 15) (pa_cons (WP.pe_callC c__law_ten hr rfl pass0 (pa_cons (pe_ix ix_tup (pv 3) pe_int (fun _ _ => rfl)) pa_nil)) (pa_cons pe_bl pa_nil)))) (pa_cons (WP.pe_callC c__law_part hr rfl pass0 (pa_cons (pv 15) (pa_cons (WP.pe_callC c__law_ten hr rfl pass0 (pa_cons (pe_ix ix_tup (pv 3) pe_int (fun _ _ => rfl)) pa_nil)) (pa_cons pe_bl pa_nil)))) pa_nil))))
      (pss_one (ps_ret (WP.pe_callC c__law_same hr rfl pass0 (pa_cons (pe_tup (pa_cons (WP.pe_callC c_units_at hr rfl pass0 (pa_cons (pv 3) (pa_cons (pv 14) (pa_cons pe_bl pa_nil)))) (pa_cons (WP.pe_callC c_units_at hr rfl pass0 (pa_cons (pv 3) (pa_cons (pv 14) (pa_cons pe_bl pa_nil)))) pa_nil))) (pa_cons (pv 16) pa_nil))))))))))))))))))))))))), ?_⟩
    k_updF
    refine ⟨a, ns, rfl, ha, fun d H1 e1 d1 => ?_⟩
    k_updF
    refine ⟨d, ns, rfl, d1, fun ru rs p1 H2 hru hrs s2 d2 hp1 => ?_⟩
    have tp1 := SqT.of (K := K) hp1
    k_updF
    refine WP.ixT tp1 WP.at0 ?_
    k_updF
    refine WP.ixT tp1 WP.at1 ?_
    k_updF
    refine ⟨ru, rs, rfl, by omega, fun pa H3 e3 hpa => ?_⟩
    have tpa := SqT.of (K := K) hpa
    have d3 := d2.same e3
    have tp1 := WP.sqt e3 tp1
    k_updF
    refine ⟨d, ns, rfl, d3, fun ou os p2 H4 hou hos s4 d4 hp2 => ?_⟩
    obtain ⟨xs3, l3⟩ := d3.lst
    have tp1 := WP.sqtX s4 l3 tp1
    have tpa := WP.sqtX s4 l3 tpa
    have tp2 := SqT.of (K := K) hp2
    k_updF
    refine WP.ixT tp2 WP.at0 ?_
    k_updF
    refine WP.ixT tp2 WP.at1 ?_
    k_updF
    refine ⟨ou, os, rfl, by omega, fun pb H5 e5 hpb => ?_⟩
    have tpb := SqT.of (K := K) hpb
    have d5 := d4.same e5
    have tp1 := WP.sqt e5 tp1
    have tpa := WP.sqt e5 tpa
    have has := MD.nrm_le rs ru
    have hau : (MD.nrm ru rs).1.natAbs < 10 ^ 463 := Nat.lt_of_le_of_lt (MD.nrm_abs rs ru) hru
    have hbs := MD.nrm_le os ou
    have hbu : (MD.nrm ou os).1.natAbs < 10 ^ 463 := Nat.lt_of_le_of_lt (MD.nrm_abs os ou) hou
    obtain ⟨au, as, ea⟩ : ∃ u s, MD.nrm ru rs = (u, s) := ⟨_, _, rfl⟩
    rw [ea] at tpa has hau
    dsimp only at tpa has hau
    have ws : ∀ {m : Int} {n : Nat}, m.natAbs < 10 ^ 467 → n ≤ 700 → CMulW m (10 ^ n) := fun h h2 => (show WP.Bt _ 2000 from Nat.lt_trans h (by decide +kernel)).w (WP.Bt.ten _)
    refine WP.cut (fun σ' H' => ∃ (bu : Int) (bs : Nat) (pb : Addr) (z : Option V), σ' = [some (.ref a), some (.ref d), some (.ref p1), some (.ref pa), some (.ref p2), some (.ref pb), z, none, none, none, none, none, none, none, none, none, none] ∧ SqT K H' pb (WP.dv bu bs) ∧ bu.natAbs < 10 ^ 467 ∧ bs ≤ 303 ∧ SqT K H' pa (WP.dv au as) ∧ SqT K H' p1 (WP.dv ru rs) ∧ DS K H' d ns) ?_ ?_
    · k_updF
      refine ⟨d, ns, 3, rfl, by decide, bts (by decide) (by decide), d5, fun v6 H6 v60 v61 s6 d6 => ?_⟩
      obtain ⟨xs5, l5⟩ := d5.lst
      have tp1 := WP.sqtX s6 l5 tp1
      have tpa := WP.sqtX s6 l5 tpa
      have tpb := WP.sqtX s6 l5 tpb
      k_updF
      refine WP.br (fun c => ?_) (fun c => ?_)
      · k_updF
        refine WP.ixT tpa WP.at1 ?_
        k_updF
        refine ⟨d, ns, 4, rfl, by decide, bts (by decide) (by decide), d6, fun v7 H7 v70 v71 s7 d7 => ?_⟩
        obtain ⟨v7, rfl⟩ : ∃ m : Nat, v7 = (m : Int) := ⟨v7.toNat, by omega⟩
        obtain ⟨xs6, l6⟩ := d6.lst
        have tp1 := WP.sqtX s7 l6 tp1
        have tpa := WP.sqtX s7 l6 tpa
        k_updF
        refine WP.ixT tpa WP.at0 ?_
        k_updF
        refine WP.ixT tpa WP.at1 ?_
        k_updF
        refine ⟨v7, by rw [show (as : Int) + (v7 : Int) - (as : Int) = (v7 : Int) by omega]; rfl, by omega, ?_⟩
        refine WP.iC (ws (Nat.lt_trans hau (by decide +kernel)) (by omega)) ?_
        k_updF
        refine ⟨d, ns, 3, rfl, by decide, bts (by decide) (by decide), d7, fun v8 H8 v80 v81 s8 d8 => ?_⟩
        obtain ⟨xs7, l7⟩ := d7.lst
        have tp1 := WP.sqtX s8 l7 tp1
        have tpa := WP.sqtX s8 l7 tpa
        k_updF
        rw [show (as : Int) + (v7 : Int) = ((as + v7 : Nat) : Int) by omega]
        refine ⟨_, _, rfl, by omega, fun pb H9 e9 hpb => ?_⟩
        have hb0 : (au * 10 ^ v7 + v8 - 1).natAbs < 10 ^ 467 := by
          have h1 : (au * 10 ^ v7).natAbs ≤ 10 ^ 463 * 10 ^ 3 := by
            rw [Int.natAbs_mul, Int.natAbs_pow]
            exact Nat.mul_le_mul (Nat.le_of_lt hau) (Nat.pow_le_pow_right (by decide) (by omega))
          have h2 : (10 : Nat) ^ 463 * 10 ^ 3 + 10 < 10 ^ 467 := by decide +kernel
          omega
        refine ⟨_, _, pb, _, rfl, SqT.of hpb, Nat.lt_of_le_of_lt (MD.nrm_abs _ _) hb0, Nat.le_trans (MD.nrm_le _ _) (by omega), WP.sqt e9 tpa, WP.sqt e9 tp1, d8.same e9⟩
      · k_updF
        exact ⟨_, _, pb, _, rfl, tpb, Nat.lt_trans hbu (by decide +kernel), by omega, tpa, tp1, d6⟩
    clear tpa tp1 tpb d5
    rintro σ' H6 ⟨bu, bs, pb, z, rfl, tpb, hbu, hbs, tpa, tp1, d6⟩
    have hau : au.natAbs < 10 ^ 467 := Nat.lt_trans hau (by decide +kernel)
    k_updF
    refine WP.ixT tpa WP.at0 ?_
    k_updF
    refine WP.ixT tpb WP.at1 ?_
    k_updF
    refine ⟨bs, rfl, by omega, ?_⟩
    refine WP.iC (ws hau (by omega)) ?_
    k_updF
    refine WP.ixT tpb WP.at0 ?_
    k_updF
    refine WP.ixT tpa WP.at1 ?_
    k_updF
    refine ⟨as, rfl, by omega, ?_⟩
    refine WP.iC (ws hbu (by omega)) ?_
    k_updF
    refine WP.ixT tpa WP.at1 ?_
    k_updF
    refine WP.ixT tpb WP.at1 ?_
    k_updF
    rw [← Int.natCast_add]
    have ba : WP.Bt au 2000 := Nat.lt_trans hau (by decide +kernel)
    have bb : WP.Bt bu 2000 := Nat.lt_trans hbu (by decide +kernel)
    refine WP.ixT tp1 WP.at0 ?_
    k_updF
    refine WP.ixT tp1 WP.at1 ?_
    k_updF
    refine ⟨ru, (rs : Int), rfl, by omega, ?_⟩
    rw [Int.toNat_natCast, ea]
    intro f1 H7 e7 hf1
    have tpa := WP.sqt e7 tpa
    have tpb := WP.sqt e7 tpb
    have tf1 : SqT K H7 f1 (WP.dv au as) := SqT.of hf1
    have d7 := d6.same e7
    k_updF
    refine ⟨pa, pb, au, as, bu, bs, rfl, tpa, tpb, by omega, by omega, ba.mono (by decide), bb.mono (by decide), fun f2 H8 e8 hf2 => ?_⟩
    rw [dsum_eq] at hf2
    k_updF
    refine ⟨pa, pb, au, as, bu, bs, rfl, WP.sqt e8 tpa, WP.sqt e8 tpb, by omega, by omega, ba.mono (by decide), bb.mono (by decide), fun f3 H9 e9 hf3 => ?_⟩
    rw [dsum_eq, Int.neg_mul, ← Int.sub_eq_add_neg] at hf3
    have e79 := e8.trans e9
    k_updF
    refine ⟨pa, pb, au, as, bu, bs, rfl, WP.sqt e79 tpa, WP.sqt e79 tpb, ba.mono (by decide), bb.mono (by decide), fun f4 H10 e10 hf4 => ?_⟩
    have e710 := e79.trans e10
    k_updF
    refine ⟨pa, au, as, rfl, WP.sqt e710 tpa, fun f5 H11 e11 hf5 => ?_⟩
    k_updF
    refine ⟨WP.sz (show 5 ≤ 1000000 by decide), fun tF hF => ?_⟩
    have e12 := WP.same_new (o := HO.tup [.ref f1, .ref f2, .ref f3, .ref f4, .ref f5]) hF
    have hF' : SqT K (upd H11 tF (HO.tup [.ref f1, .ref f2, .ref f3, .ref f4, .ref f5])) tF [.ref f1, .ref f2, .ref f3, .ref f4, .ref f5] := SqT.of upd_same
    generalize upd H11 tF (HO.tup [.ref f1, .ref f2, .ref f3, .ref f4, .ref f5]) = H12 at e12 hF' ⊢
    have e712 := e710.trans (e11.trans e12)
    have tpa := WP.sqt e712 tpa
    have tpb := WP.sqt e712 tpb
    have tf1 := WP.sqt e712 tf1
    have tf2 := WP.sqt (e9.trans (e10.trans (e11.trans e12))) (SqT.of (K := K) hf2)
    have tf3 := WP.sqt (e10.trans (e11.trans e12)) (SqT.of (K := K) hf3)
    have tf4 := WP.sqt (e11.trans e12) (SqT.of (K := K) hf4)
    have tf5 := WP.sqt e12 (SqT.of (K := K) hf5)
    have d12 := d7.same e712
    clear e712 e710 e79 e8 e9 e10 e11 e12 hf1 hf2 hf3 hf4 hf5 e7 hF
    k_updF
    refine ⟨au * 10 ^ bs + bu * 10 ^ as, as + bs, rfl, by omega, fun g2 H13 e13 hg2 => ?_⟩
    k_updF
    refine ⟨au * 10 ^ bs - bu * 10 ^ as, as + bs, rfl, by omega, fun g3 H14 e14 hg3 => ?_⟩
    k_updF
    have e1214 := e13.trans e14
    refine WP.ixT (WP.sqt e1214 tpa) WP.at0 ?_
    k_updF
    refine WP.ixT (WP.sqt e1214 tpb) WP.at0 ?_
    refine WP.iC (ba.w bb) ?_
    k_updF
    refine ⟨au * bu, as + bs, rfl, by omega, fun g4 H15 e15 hg4 => ?_⟩
    have e1215 := e1214.trans e15
    k_updF
    refine WP.ixT (WP.sqt e1215 tpa) WP.at0 ?_
    k_updF
    refine WP.ixT (WP.sqt e1215 tpa) WP.at1 ?_
    k_updF
    refine ⟨WP.sz2, fun g5 hg5 => ?_⟩
    have e16 := WP.same_new (o := HO.tup [.int (-au), .int (as : Int)]) hg5
    have tg5 : SqT K (upd H15 g5 (HO.tup [.int (-au), .int (as : Int)])) g5 (WP.dv (-au) as) := SqT.of upd_same
    generalize upd H15 g5 (HO.tup [.int (-au), .int (as : Int)]) = H16 at e16 tg5 ⊢
    k_updF
    refine ⟨WP.sz (show 5 ≤ 1000000 by decide), fun tD hD => ?_⟩
    have e17 := WP.same_new (o := HO.tup [.ref pa, .ref g2, .ref g3, .ref g4, .ref g5]) hD
    have hD' : SqT K (upd H16 tD (HO.tup [.ref pa, .ref g2, .ref g3, .ref g4, .ref g5])) tD [.ref pa, .ref g2, .ref g3, .ref g4, .ref g5] := SqT.of upd_same
    generalize upd H16 tD (HO.tup [.ref pa, .ref g2, .ref g3, .ref g4, .ref g5]) = H17 at e17 hD' ⊢
    have e1217 := e1215.trans (e16.trans e17)
    have tpa := WP.sqt e1217 tpa
    have tpb := WP.sqt e1217 tpb
    have d17 := d12.same e1217
    k_updF
    refine ⟨_, _, rfl, .tup (WP.sqt e1217 hF') hD' rfl (show 5 ≤ 1000 by decide) (pw_cons (eqv_dv (WP.sqt e1217 tf1) tpa) (pw_cons (eqv_dv (WP.sqt e1217 tf2) (WP.sqt (e14.trans (e15.trans (e16.trans e17))) (SqT.of hg2)))
      (pw_cons (eqv_dv (WP.sqt e1217 tf3) (WP.sqt (e15.trans (e16.trans e17)) (SqT.of hg3))) (pw_cons (eqv_dv (WP.sqt e1217 tf4) (WP.sqt (e16.trans e17) (SqT.of hg4))) (pw_cons (eqv_dv (WP.sqt e1217 tf5) (WP.sqt e17 tg5)) pw_nil))))), ?_⟩
    clear tf1 tf2 tf3 tf4 tf5 hF' hD' hg2 hg3 hg4 tg5 e13 e14 e15 e16 e17 e1214 e1215 e1217 d12 hg5 hD
    k_updF
    refine WP.brF rfl ?_
    k_updF
    refine WP.intB ?_
    k_updF
    refine WP.intB ?_
    k_updF
    refine ⟨pa, pb, au, as, bu, bs, rfl, tpa, tpb, by omega, by omega, ba.mono (by decide), bb.mono (by decide), ?_⟩
    k_updF
    refine ⟨pb, pa, bu, bs, au, as, rfl, tpb, tpa, by omega, by omega, bb.mono (by decide), ba.mono (by decide), ?_⟩
    k_updF
    have hau570 : au.natAbs < 10 ^ 570 := Nat.lt_trans hau (by decide +kernel)
    refine ⟨pa, au, as, rfl, tpa, hau570, by omega, fun H18 e18 => ?_⟩
    rw [dcmp_eq, dcmp_eq]
    generalize (if decide (bu * 10 ^ as < au * 10 ^ bs) = true then (1 : Int) else 0) = X1
    generalize (if decide (au * 10 ^ bs < bu * 10 ^ as) = true then (1 : Int) else 0) = X2
    k_updF
    refine ⟨WP.sz (show 3 ≤ 1000000 by decide), fun tF hF => ?_⟩
    have e19 := WP.same_new (o := HO.tup [.int (X1 - X2), .int (X2 - X1), .str (SX.S (dtext au as))]) hF
    have hF' : SqT K (upd H18 tF (HO.tup [.int (X1 - X2), .int (X2 - X1), .str (SX.S (dtext au as))])) tF [.int (X1 - X2), .int (X2 - X1), .str (SX.S (dtext au as))] := SqT.of upd_same
    generalize upd H18 tF (HO.tup [.int (X1 - X2), .int (X2 - X1), .str (SX.S (dtext au as))]) = H19 at e19 hF' ⊢
    have e1719 := e18.trans e19
    have tpa := WP.sqt e1719 tpa
    k_updF
    refine ⟨pa, au, as, rfl, tpa, hau570, by omega, ?_⟩
    k_updF
    refine ⟨WP.sz (show 3 ≤ 1000000 by decide), fun tD hD => ?_⟩
    rw [show -(X1 - X2) = X2 - X1 by omega]
    have e20 := WP.same_new (o := HO.tup [.int (X1 - X2), .int (X2 - X1), .str (SX.S (dtext au as))]) hD
    have hD' : SqT K (upd H19 tD (HO.tup [.int (X1 - X2), .int (X2 - X1), .str (SX.S (dtext au as))])) tD [.int (X1 - X2), .int (X2 - X1), .str (SX.S (dtext au as))] := SqT.of upd_same
    generalize upd H19 tD (HO.tup [.int (X1 - X2), .int (X2 - X1), .str (SX.S (dtext au as))]) = H20 at e20 hD' ⊢
    have tpa := WP.sqt e20 tpa
    have d20 := d17.same (e1719.trans e20)
    k_updF
    refine ⟨_, _, rfl, .tup (WP.sqt e20 hF') hD' rfl (show 3 ≤ 1000 by decide) (pw_cons (.int _) (pw_cons (.int _) (pw_cons (.str _ dtext_ok) pw_nil))), ?_⟩
    clear e18 e19 e20 e1719 hF hF' hD hD' d17 tpb
    k_updF
    refine WP.brF rfl ?_
    k_updF
    refine ⟨d, ns, 50, rfl, by decide, bts (by decide) (by decide), d20, fun v1 H21 v10 v11 s21 d21 => ?_⟩
    k_updF
    refine ⟨d, ns, 450, rfl, by decide, bts (by decide) (by decide), d21, fun v2 H22 v20 v21 s22 d22 => ?_⟩
    obtain ⟨xs20, l20⟩ := d20.lst
    have tpa := WP.sqtX (s21.trans s22) l20 tpa
    obtain ⟨v1, rfl⟩ : ∃ m : Nat, v1 = (m : Int) := ⟨v1.toNat, by omega⟩
    obtain ⟨v2, rfl⟩ : ∃ m : Nat, v2 = (m : Int) := ⟨v2.toNat, by omega⟩
    k_updF
    refine WP.ixT tpa WP.at1 ?_
    k_updF
    refine ⟨pa, au, as, _, rfl, tpa, by omega, by omega, ba.mono (by decide), ?_⟩
    rw [show ((as : Int) + (v1 : Int) - (as : Int)).toNat = v1 by omega]
    k_updF
    refine WP.ixT tpa WP.at0 ?_
    k_updF
    refine ⟨au, (v2 : Int), rfl, by omega, ?_⟩
    rw [Int.toNat_natCast]
    have ef : decide ((au.natAbs : Int) < (10 : Int) ^ v2) = decide (au.natAbs < 10 ^ v2) := by
      have c : ((10 : Int) ^ v2) = ((10 ^ v2 : Nat) : Int) := by rw [Int.natCast_pow]; rfl
      rw [c]
      congr 1
      exact propext (by omega)
    k_updF
    refine ⟨WP.sz2, fun tF hF => ?_⟩
    have e23 := WP.same_new (o := HO.tup [.int (au * 10 ^ v1), .bl (decide (au.natAbs < 10 ^ v2))]) hF
    have hF' : SqT K (upd H22 tF (HO.tup [.int (au * 10 ^ v1), .bl (decide (au.natAbs < 10 ^ v2))])) tF [.int (au * 10 ^ v1), .bl (decide (au.natAbs < 10 ^ v2))] := SqT.of upd_same
    generalize upd H22 tF (HO.tup [.int (au * 10 ^ v1), .bl (decide (au.natAbs < 10 ^ v2))]) = H23 at e23 hF' ⊢
    have tpa := WP.sqt e23 tpa
    k_updF
    refine WP.ixT tpa WP.at0 ?_
    k_updF
    refine ⟨v1, rfl, by omega, ?_⟩
    refine WP.iC (ws hau (by omega)) ?_
    k_updF
    refine WP.ixT tpa WP.at0 ?_
    k_updF
    refine WP.absI ?_
    k_updF
    refine ⟨v2, rfl, by omega, ?_⟩
    k_updF
    rw [ef]
    refine ⟨WP.sz2, fun tD hD => ?_⟩
    have e24 := WP.same_new (o := HO.tup [.int (au * 10 ^ v1), .bl (decide (au.natAbs < 10 ^ v2))]) hD
    have hD' : SqT K (upd H23 tD (HO.tup [.int (au * 10 ^ v1), .bl (decide (au.natAbs < 10 ^ v2))])) tD [.int (au * 10 ^ v1), .bl (decide (au.natAbs < 10 ^ v2))] := SqT.of upd_same
    generalize upd H23 tD (HO.tup [.int (au * 10 ^ v1), .bl (decide (au.natAbs < 10 ^ v2))]) = H24 at e24 hD' ⊢
    have tpa := WP.sqt e24 tpa
    have d24 := d22.same (e23.trans e24)
    k_updF
    refine ⟨_, _, rfl, .tup (WP.sqt e24 hF') hD' rfl (show 2 ≤ 1000 by decide) (pw_cons (.int _) (pw_cons (.bl _) pw_nil)), ?_⟩
    clear e23 e24 hF hF' hD hD' ef
    k_updF
    refine WP.brF rfl ?_
    k_updF
    refine ⟨d, ns, 300, rfl, by decide, bts (by decide) (by decide), d24, fun v3 H25 v30 v31 s25 d25 => ?_⟩
    obtain ⟨xs24, l24⟩ := d24.lst
    have tpa := WP.sqtX s25 l24 tpa
    obtain ⟨v3, rfl⟩ : ∃ m : Nat, v3 = (m : Int) := ⟨v3.toNat, by omega⟩
    k_updF
    refine WP.ixT tpa WP.at0 ?_
    k_updF
    refine ⟨v3, rfl, by omega, ?_⟩
    refine WP.iC (ws hau (by omega)) ?_
    k_updF
    refine WP.ixT tpa WP.at1 ?_
    k_updF
    refine ⟨as, rfl, by omega, ?_⟩
    k_updF
    have bx : WP.Bt (au * 10 ^ v3) 8000 := (ba.mul (WP.Bt.ten v3)).mono (by omega)
    have by_ : WP.Bt (10 ^ as : Int) 8000 := (WP.Bt.ten as).mono (by omega)
    refine ⟨_, _, _, rfl, WP.ten_pos _, bx, by_, ?_⟩
    k_updF
    refine WP.ixT tpa WP.at1 ?_
    k_updF
    refine ⟨as, rfl, by omega, ?_⟩
    k_updF
    refine ⟨_, _, _, rfl, WP.ten_pos _, bx, by_, ?_⟩
    k_updF
    refine ⟨WP.sz2, fun tD hD => ?_⟩
    generalize hq1 : MQ.quot (au * 10 ^ v3) (10 ^ as) false = q1
    generalize hq2 : MQ.quot (au * 10 ^ v3) (10 ^ as) true = q2
    have e26 := WP.same_new (o := HO.tup [.int q1, .int q2]) hD
    have hD' : SqT K (upd H25 tD (HO.tup [.int q1, .int q2])) tD [.int q1, .int q2] := SqT.of upd_same
    generalize upd H25 tD (HO.tup [.int q1, .int q2]) = H26 at e26 hD' ⊢
    have tpa := WP.sqt e26 tpa
    k_updF
    refine ⟨pa, au, as, v3, false, rfl, tpa, by omega, by omega, ba.mono (by decide), fun q hq H27 e27 => ?_⟩
    rw [place_eq, hq1] at hq
    subst hq
    k_updF
    refine ⟨pa, au, as, v3, true, rfl, WP.sqt e27 tpa, by omega, by omega, ba.mono (by decide), fun q hq H28 e28 => ?_⟩
    rw [place_eq, hq2] at hq
    subst hq
    k_updF
    refine ⟨WP.sz2, fun tF hF => ?_⟩
    k_updF
    refine ⟨_, _, rfl, .tup (SqT.of upd_same) (WP.sqt ((e27.trans e28).trans (WP.same_new hF)) hD') rfl (show 2 ≤ 1000 by decide) (pw_cons (.int _) (pw_cons (.int _) pw_nil)), ?_⟩
    exact k _
end
theorem all_mk {l : PySem.W.OpenLaw} {w : World} {K : PySem.W.Frag} {h : Heap} {mg : Str → Option Value} {fa : Addr} (X : K.In h) (G : h.Ns mainGlobals mg) (hfa : mg "law" = some (.ref fa))
    {fx0 : Addr} {odx0 anx0 : Option Addr} {slx0 : Array (Option Value)} {ocx0 kVx0 dcx0 pmx0 cdx0 ctx0 : Value}
    (ax0 : PySem.W.nsIn K mainGlobals "_law_draws" = some (some (.ref fx0))) (lx0 : K.lookup fx0 = some ⟨ocx0, odx0, .func (PySem.W.fnOf "_law_draws" "_law_draws" (defArgs s__law_draws) (defBody s__law_draws) (defScope s__law_draws) .none kVx0 dcx0 pmx0 anx0 cdx0 ctx0), slx0⟩) (cx0 : PySem.W.codeIn K cdx0 "_law_draws" = true) (kx0 : PySem.W.keepIn K (.ref fx0) = true)
    {fx1 : Addr} {odx1 anx1 : Option Addr} {slx1 : Array (Option Value)} {ocx1 kVx1 dcx1 pmx1 cdx1 ctx1 : Value}
    (ax1 : PySem.W.nsIn K mainGlobals "_law_draw" = some (some (.ref fx1))) (lx1 : K.lookup fx1 = some ⟨ocx1, odx1, .func (PySem.W.fnOf "_law_draw" "_law_draw" (defArgs s__law_draw) (defBody s__law_draw) (defScope s__law_draw) .none kVx1 dcx1 pmx1 anx1 cdx1 ctx1), slx1⟩) (cx1 : PySem.W.codeIn K cdx1 "_law_draw" = true) (kx1 : PySem.W.keepIn K (.ref fx1) = true)
    {fx2 : Addr} {odx2 anx2 : Option Addr} {slx2 : Array (Option Value)} {ocx2 kVx2 dcx2 pmx2 cdx2 ctx2 : Value}
    (ax2 : PySem.W.nsIn K mainGlobals "_law_ten" = some (some (.ref fx2))) (lx2 : K.lookup fx2 = some ⟨ocx2, odx2, .func (PySem.W.fnOf "_law_ten" "_law_ten" (defArgs s__law_ten) (defBody s__law_ten) (defScope s__law_ten) .none kVx2 dcx2 pmx2 anx2 cdx2 ctx2), slx2⟩) (cx2 : PySem.W.codeIn K cdx2 "_law_ten" = true) (kx2 : PySem.W.keepIn K (.ref fx2) = true)
    {fx3 : Addr} {odx3 anx3 : Option Addr} {slx3 : Array (Option Value)} {ocx3 kVx3 dcx3 pmx3 cdx3 ctx3 : Value}
    (ax3 : PySem.W.nsIn K mainGlobals "_law_number" = some (some (.ref fx3))) (lx3 : K.lookup fx3 = some ⟨ocx3, odx3, .func (PySem.W.fnOf "_law_number" "_law_number" (defArgs s__law_number) (defBody s__law_number) (defScope s__law_number) .none kVx3 dcx3 pmx3 anx3 cdx3 ctx3), slx3⟩) (cx3 : PySem.W.codeIn K cdx3 "_law_number" = true) (kx3 : PySem.W.keepIn K (.ref fx3) = true)
    {fx4 : Addr} {odx4 anx4 : Option Addr} {slx4 : Array (Option Value)} {ocx4 kVx4 dcx4 pmx4 cdx4 ctx4 : Value}
    (ax4 : PySem.W.nsIn K mainGlobals "_law_least" = some (some (.ref fx4))) (lx4 : K.lookup fx4 = some ⟨ocx4, odx4, .func (PySem.W.fnOf "_law_least" "_law_least" (defArgs s__law_least) (defBody s__law_least) (defScope s__law_least) .none kVx4 dcx4 pmx4 anx4 cdx4 ctx4), slx4⟩) (cx4 : PySem.W.codeIn K cdx4 "_law_least" = true) (kx4 : PySem.W.keepIn K (.ref fx4) = true)
    {fx5 : Addr} {odx5 anx5 : Option Addr} {slx5 : Array (Option Value)} {ocx5 kVx5 dcx5 pmx5 cdx5 ctx5 : Value}
    (ax5 : PySem.W.nsIn K mainGlobals "_law_same" = some (some (.ref fx5))) (lx5 : K.lookup fx5 = some ⟨ocx5, odx5, .func (PySem.W.fnOf "_law_same" "_law_same" (defArgs s__law_same) (defBody s__law_same) (defScope s__law_same) .none kVx5 dcx5 pmx5 anx5 cdx5 ctx5), slx5⟩) (cx5 : PySem.W.codeIn K cdx5 "_law_same" = true) (kx5 : PySem.W.keepIn K (.ref fx5) = true)
    {fx6 : Addr} {odx6 anx6 : Option Addr} {slx6 : Array (Option Value)} {ocx6 kVx6 dcx6 pmx6 cdx6 ctx6 : Value}
    (ax6 : PySem.W.nsIn K mainGlobals "normal" = some (some (.ref fx6))) (lx6 : K.lookup fx6 = some ⟨ocx6, odx6, .func (PySem.W.fnOf "normal" "normal" (defArgs s_normal) (defBody s_normal) (defScope s_normal) .none kVx6 dcx6 pmx6 anx6 cdx6 ctx6), slx6⟩) (cx6 : PySem.W.codeIn K cdx6 "normal" = true) (kx6 : PySem.W.keepIn K (.ref fx6) = true)
    {fx7 : Addr} {odx7 anx7 : Option Addr} {slx7 : Array (Option Value)} {ocx7 kVx7 dcx7 pmx7 cdx7 ctx7 : Value}
    (ax7 : PySem.W.nsIn K mainGlobals "power" = some (some (.ref fx7))) (lx7 : K.lookup fx7 = some ⟨ocx7, odx7, .func (PySem.W.fnOf "power" "power" (defArgs s_power) (defBody s_power) (defScope s_power) .none kVx7 dcx7 pmx7 anx7 cdx7 ctx7), slx7⟩) (cx7 : PySem.W.codeIn K cdx7 "power" = true) (kx7 : PySem.W.keepIn K (.ref fx7) = true)
    {fx8 : Addr} {odx8 anx8 : Option Addr} {slx8 : Array (Option Value)} {ocx8 kVx8 dcx8 pmx8 cdx8 ctx8 : Value}
    (ax8 : PySem.W.nsIn K mainGlobals "aligned" = some (some (.ref fx8))) (lx8 : K.lookup fx8 = some ⟨ocx8, odx8, .func (PySem.W.fnOf "aligned" "aligned" (defArgs s_aligned) (defBody s_aligned) (defScope s_aligned) .none kVx8 dcx8 pmx8 anx8 cdx8 ctx8), slx8⟩) (cx8 : PySem.W.codeIn K cdx8 "aligned" = true) (kx8 : PySem.W.keepIn K (.ref fx8) = true)
    {fx9 : Addr} {odx9 anx9 : Option Addr} {slx9 : Array (Option Value)} {ocx9 kVx9 dcx9 pmx9 cdx9 ctx9 : Value}
    (ax9 : PySem.W.nsIn K mainGlobals "add" = some (some (.ref fx9))) (lx9 : K.lookup fx9 = some ⟨ocx9, odx9, .func (PySem.W.fnOf "add" "add" (defArgs s_add) (defBody s_add) (defScope s_add) .none kVx9 dcx9 pmx9 anx9 cdx9 ctx9), slx9⟩) (cx9 : PySem.W.codeIn K cdx9 "add" = true) (kx9 : PySem.W.keepIn K (.ref fx9) = true)
    {fx10 : Addr} {odx10 anx10 : Option Addr} {slx10 : Array (Option Value)} {ocx10 kVx10 dcx10 pmx10 cdx10 ctx10 : Value}
    (ax10 : PySem.W.nsIn K mainGlobals "negative" = some (some (.ref fx10))) (lx10 : K.lookup fx10 = some ⟨ocx10, odx10, .func (PySem.W.fnOf "negative" "negative" (defArgs s_negative) (defBody s_negative) (defScope s_negative) .none kVx10 dcx10 pmx10 anx10 cdx10 ctx10), slx10⟩) (cx10 : PySem.W.codeIn K cdx10 "negative" = true) (kx10 : PySem.W.keepIn K (.ref fx10) = true)
    {fx11 : Addr} {odx11 anx11 : Option Addr} {slx11 : Array (Option Value)} {ocx11 kVx11 dcx11 pmx11 cdx11 ctx11 : Value}
    (ax11 : PySem.W.nsIn K mainGlobals "subtract" = some (some (.ref fx11))) (lx11 : K.lookup fx11 = some ⟨ocx11, odx11, .func (PySem.W.fnOf "subtract" "subtract" (defArgs s_subtract) (defBody s_subtract) (defScope s_subtract) .none kVx11 dcx11 pmx11 anx11 cdx11 ctx11), slx11⟩) (cx11 : PySem.W.codeIn K cdx11 "subtract" = true) (kx11 : PySem.W.keepIn K (.ref fx11) = true)
    {fx12 : Addr} {odx12 anx12 : Option Addr} {slx12 : Array (Option Value)} {ocx12 kVx12 dcx12 pmx12 cdx12 ctx12 : Value}
    (ax12 : PySem.W.nsIn K mainGlobals "multiply" = some (some (.ref fx12))) (lx12 : K.lookup fx12 = some ⟨ocx12, odx12, .func (PySem.W.fnOf "multiply" "multiply" (defArgs s_multiply) (defBody s_multiply) (defScope s_multiply) .none kVx12 dcx12 pmx12 anx12 cdx12 ctx12), slx12⟩) (cx12 : PySem.W.codeIn K cdx12 "multiply" = true) (kx12 : PySem.W.keepIn K (.ref fx12) = true)
    {fx13 : Addr} {odx13 anx13 : Option Addr} {slx13 : Array (Option Value)} {ocx13 kVx13 dcx13 pmx13 cdx13 ctx13 : Value}
    (ax13 : PySem.W.nsIn K mainGlobals "_law_part" = some (some (.ref fx13))) (lx13 : K.lookup fx13 = some ⟨ocx13, odx13, .func (PySem.W.fnOf "_law_part" "_law_part" (defArgs s__law_part) (defBody s__law_part) (defScope s__law_part) .none kVx13 dcx13 pmx13 anx13 cdx13 ctx13), slx13⟩) (cx13 : PySem.W.codeIn K cdx13 "_law_part" = true) (kx13 : PySem.W.keepIn K (.ref fx13) = true)
    {fx14 : Addr} {odx14 anx14 : Option Addr} {slx14 : Array (Option Value)} {ocx14 kVx14 dcx14 pmx14 cdx14 ctx14 : Value}
    (ax14 : PySem.W.nsIn K mainGlobals "quotient" = some (some (.ref fx14))) (lx14 : K.lookup fx14 = some ⟨ocx14, odx14, .func (PySem.W.fnOf "quotient" "quotient" (defArgs s_quotient) (defBody s_quotient) (defScope s_quotient) .none kVx14 dcx14 pmx14 anx14 cdx14 ctx14), slx14⟩) (cx14 : PySem.W.codeIn K cdx14 "quotient" = true) (kx14 : PySem.W.keepIn K (.ref fx14) = true)
    {fx15 : Addr} {odx15 anx15 : Option Addr} {slx15 : Array (Option Value)} {ocx15 kVx15 dcx15 pmx15 cdx15 ctx15 : Value}
    (ax15 : PySem.W.nsIn K mainGlobals "units_at" = some (some (.ref fx15))) (lx15 : K.lookup fx15 = some ⟨ocx15, odx15, .func (PySem.W.fnOf "units_at" "units_at" (defArgs s_units_at) (defBody s_units_at) (defScope s_units_at) .none kVx15 dcx15 pmx15 anx15 cdx15 ctx15), slx15⟩) (cx15 : PySem.W.codeIn K cdx15 "units_at" = true) (kx15 : PySem.W.keepIn K (.ref fx15) = true)
    {fx16 : Addr} {odx16 anx16 : Option Addr} {slx16 : Array (Option Value)} {ocx16 kVx16 dcx16 pmx16 cdx16 ctx16 : Value}
    (ax16 : PySem.W.nsIn K mainGlobals "compare" = some (some (.ref fx16))) (lx16 : K.lookup fx16 = some ⟨ocx16, odx16, .func (PySem.W.fnOf "compare" "compare" (defArgs s_compare) (defBody s_compare) (defScope s_compare) .none kVx16 dcx16 pmx16 anx16 cdx16 ctx16), slx16⟩) (cx16 : PySem.W.codeIn K cdx16 "compare" = true) (kx16 : PySem.W.keepIn K (.ref fx16) = true)
    {fx17 : Addr} {odx17 anx17 : Option Addr} {slx17 : Array (Option Value)} {ocx17 kVx17 dcx17 pmx17 cdx17 ctx17 : Value}
    (ax17 : PySem.W.nsIn K mainGlobals "_figures" = some (some (.ref fx17))) (lx17 : K.lookup fx17 = some ⟨ocx17, odx17, .func (PySem.W.fnOf "_figures" "_figures" (defArgs s__figures) (defBody s__figures) (defScope s__figures) .none kVx17 dcx17 pmx17 anx17 cdx17 ctx17), slx17⟩) (cx17 : PySem.W.codeIn K cdx17 "_figures" = true) (kx17 : PySem.W.keepIn K (.ref fx17) = true)
    {fx18 : Addr} {odx18 anx18 : Option Addr} {slx18 : Array (Option Value)} {ocx18 kVx18 dcx18 pmx18 cdx18 ctx18 : Value}
    (ax18 : PySem.W.nsIn K mainGlobals "show" = some (some (.ref fx18))) (lx18 : K.lookup fx18 = some ⟨ocx18, odx18, .func (PySem.W.fnOf "show" "show" (defArgs s_show) (defBody s_show) (defScope s_show) .none kVx18 dcx18 pmx18 anx18 cdx18 ctx18), slx18⟩) (cx18 : PySem.W.codeIn K cdx18 "show" = true) (kx18 : PySem.W.keepIn K (.ref fx18) = true)
    {fx19 : Addr} {odx19 anx19 : Option Addr} {slx19 : Array (Option Value)} {ocx19 kVx19 dcx19 pmx19 cdx19 ctx19 : Value}
    (ax19 : PySem.W.nsIn K mainGlobals "_law_text" = some (some (.ref fx19))) (lx19 : K.lookup fx19 = some ⟨ocx19, odx19, .func (PySem.W.fnOf "_law_text" "_law_text" (defArgs s__law_text) (defBody s__law_text) (defScope s__law_text) .none kVx19 dcx19 pmx19 anx19 cdx19 ctx19), slx19⟩) (cx19 : PySem.W.codeIn K cdx19 "_law_text" = true) (kx19 : PySem.W.keepIn K (.ref fx19) = true)
    {fx20 : Addr} {odx20 anx20 : Option Addr} {slx20 : Array (Option Value)} {ocx20 kVx20 dcx20 pmx20 cdx20 ctx20 : Value}
    (ax20 : PySem.W.nsIn K mainGlobals "fits" = some (some (.ref fx20))) (lx20 : K.lookup fx20 = some ⟨ocx20, odx20, .func (PySem.W.fnOf "fits" "fits" (defArgs s_fits) (defBody s_fits) (defScope s_fits) .none kVx20 dcx20 pmx20 anx20 cdx20 ctx20), slx20⟩) (cx20 : PySem.W.codeIn K cdx20 "fits" = true) (kx20 : PySem.W.keepIn K (.ref fx20) = true)
    {fx21 : Addr} {odx21 anx21 : Option Addr} {slx21 : Array (Option Value)} {ocx21 kVx21 dcx21 pmx21 cdx21 ctx21 : Value}
    (ax21 : PySem.W.nsIn K mainGlobals "law" = some (some (.ref fx21))) (lx21 : K.lookup fx21 = some ⟨ocx21, odx21, .func (PySem.W.fnOf "law" "law" (defArgs s_law) (defBody s_law) (defScope s_law) .none kVx21 dcx21 pmx21 anx21 cdx21 ctx21), slx21⟩) (cx21 : PySem.W.codeIn K cdx21 "law" = true) (kx21 : PySem.W.keepIn K (.ref fx21) = true)
    (z_abs : PySem.W.nsIn K mainGlobals "abs" = some none)
    (z_bool : PySem.W.nsIn K mainGlobals "bool" = some none)
    (z_divmod : PySem.W.nsIn K mainGlobals "divmod" = some none)
    (z_int : PySem.W.nsIn K mainGlobals "int" = some none)
    (z_isinstance : PySem.W.nsIn K mainGlobals "isinstance" = some none)
    (z_len : PySem.W.nsIn K mainGlobals "len" = some none)
    (z_list : PySem.W.nsIn K mainGlobals "list" = some none)
    (z_max : PySem.W.nsIn K mainGlobals "max" = some none)
    (z_range : PySem.W.nsIn K mainGlobals "range" = some none)
    (z_reversed : PySem.W.nsIn K mainGlobals "reversed" = some none)
    (z_str : PySem.W.nsIn K mainGlobals "str" = some none)
    (z_tuple : PySem.W.nsIn K mainGlobals "tuple" = some none)
    {t_PART : Tok} (g_PART : PySem.W.nsIn K mainGlobals "PART" = some (some (.int 1000000000000000000 t_PART)))
    {t_PART_FIGURES : Tok} (g_PART_FIGURES : PySem.W.nsIn K mainGlobals "PART_FIGURES" = some (some (.int 18 t_PART_FIGURES)))
    : ∃ fd : FuncData, (∀ (s : Shared) (v : Value), BindsTo s fd ⟨[v], []⟩ [("script", v)]) ∧ ∀ base : Heap, K.In base → base.Ns mainGlobals mg → FnOk l.prog w K mg base CX0 5 fa fd ["script"] (sp_law K) := by
  have e := hfa.symm.trans (PySem.W.mg_of X G ax21)
  cases e
  have B : Blt K mg := ⟨PySem.W.mg_none_of X G z_abs, PySem.W.mg_none_of X G z_bool, PySem.W.mg_none_of X G z_divmod, PySem.W.mg_none_of X G z_int, PySem.W.mg_none_of X G z_isinstance, PySem.W.mg_none_of X G z_len, PySem.W.mg_none_of X G z_list, PySem.W.mg_none_of X G z_max, PySem.W.mg_none_of X G z_range, PySem.W.mg_none_of X G z_reversed, PySem.W.mg_none_of X G z_str, PySem.W.mg_none_of X G z_tuple, ⟨_, PySem.W.mg_of X G g_PART, _, rfl⟩, ⟨_, PySem.W.mg_of X G g_PART_FIGURES, _, rfl⟩⟩
  have Fx0 := fun_mk (st := s__law_draws) lx0 cx0 kx0
  have bx0 := Fx0.binds (ps := ["script"]) fun _ _ _ _ _ _ us hl => match us, hl with | [_], _ => rfl
  have Cx0 : ∀ base : Heap, K.In base → base.Ns mainGlobals mg → WP.Callee l.prog w K mg base CX0 1 "_law_draws" ["script"] (sp__law_draws K mg) := fun base p1 p2 => WP.Callee.mk' (ok__law_draws Fx0 B ) (PySem.W.mg_of X G ax0) kx0 bx0
  have Fx1 := fun_mk (st := s__law_draw) lx1 cx1 kx1
  have bx1 := Fx1.binds (ps := ["draws", "limit"]) fun _ _ _ _ _ _ us hl => match us, hl with | [_, _], _ => rfl
  have Cx1 : ∀ base : Heap, K.In base → base.Ns mainGlobals mg → WP.Callee l.prog w K mg base CX0 1 "_law_draw" ["draws", "limit"] (sp__law_draw K mg) := fun base p1 p2 => WP.Callee.mk' (ok__law_draw Fx1 B ) (PySem.W.mg_of X G ax1) kx1 bx1
  have Fx2 := fun_mk (st := s__law_ten) lx2 cx2 kx2
  have bx2 := Fx2.binds (ps := ["scale"]) fun _ _ _ _ _ _ us hl => match us, hl with | [_], _ => rfl
  have Cx2 : ∀ base : Heap, K.In base → base.Ns mainGlobals mg → WP.Callee l.prog w K mg base CX0 1 "_law_ten" ["scale"] (sp__law_ten K mg) := fun base p1 p2 => WP.Callee.mk' (ok__law_ten Fx2 B ) (PySem.W.mg_of X G ax2) kx2 bx2
  have Fx3 := fun_mk (st := s__law_number) lx3 cx3 kx3
  have bx3 := Fx3.binds (ps := ["draws"]) fun _ _ _ _ _ _ us hl => match us, hl with | [_], _ => rfl
  have Cx3 : ∀ base : Heap, K.In base → base.Ns mainGlobals mg → WP.Callee l.prog w K mg base CX0 2 "_law_number" ["draws"] (sp__law_number K mg) := fun base p1 p2 => WP.Callee.mk' (ok__law_number Fx3 B (Cx1 base p1 p2) (Cx2 base p1 p2)) (PySem.W.mg_of X G ax3) kx3 bx3
  have Fx4 := fun_mk (st := s__law_least) lx4 cx4 kx4
  have bx4 := Fx4.binds (ps := ["units", "scale"]) fun _ _ _ _ _ _ us hl => match us, hl with | [_, _], _ => rfl
  have Cx4 : ∀ base : Heap, K.In base → base.Ns mainGlobals mg → WP.Callee l.prog w K mg base CX0 1 "_law_least" ["units", "scale"] (sp__law_least K mg) := fun base p1 p2 => WP.Callee.mk' (ok__law_least Fx4 B ) (PySem.W.mg_of X G ax4) kx4 bx4
  have Fx5 := fun_mk (st := s__law_same) lx5 cx5 kx5
  have bx5 := Fx5.binds (ps := ["actual", "expected"]) fun _ _ _ _ _ _ us hl => match us, hl with | [_, _], _ => rfl
  have Cx5_0 : ∀ base : Heap, K.In base → base.Ns mainGlobals mg → WP.Callee l.prog w K mg base CX0 0 "_law_same" ["actual", "expected"] (sp__law_same K mg 0) := fun base p1 p2 => WP.Callee.mk' ⟨fun _ _ _ _ h => (h : False).elim, fun _ _ _ _ _ _ _ _ _ _ _ _ _ h => (h : False).elim⟩ (PySem.W.mg_of X G ax5) kx5 bx5
  have Cx5_1 : ∀ base : Heap, K.In base → base.Ns mainGlobals mg → WP.Callee l.prog w K mg base CX0 1 "_law_same" ["actual", "expected"] (sp__law_same K mg 1) := fun base p1 p2 => WP.Callee.mk' (ok__law_same Fx5 B (Cx5_0 base p1 p2)) (PySem.W.mg_of X G ax5) kx5 bx5
  have Cx5_2 : ∀ base : Heap, K.In base → base.Ns mainGlobals mg → WP.Callee l.prog w K mg base CX0 2 "_law_same" ["actual", "expected"] (sp__law_same K mg 2) := fun base p1 p2 => WP.Callee.mk' (ok__law_same Fx5 B (Cx5_1 base p1 p2)) (PySem.W.mg_of X G ax5) kx5 bx5
  have Cx5_3 : ∀ base : Heap, K.In base → base.Ns mainGlobals mg → WP.Callee l.prog w K mg base CX0 3 "_law_same" ["actual", "expected"] (sp__law_same K mg 3) := fun base p1 p2 => WP.Callee.mk' (ok__law_same Fx5 B (Cx5_2 base p1 p2)) (PySem.W.mg_of X G ax5) kx5 bx5
  have Cx5 := Cx5_3
  have Fx6 := fun_mk (st := s_normal) lx6 cx6 kx6
  have bx6 := Fx6.binds (ps := ["units", "scale"]) fun _ _ _ _ _ _ us hl => match us, hl with | [_, _], _ => rfl
  have Cx6 : ∀ base : Heap, K.In base → base.Ns mainGlobals mg → WP.Callee l.prog w K mg base CX0 1 "normal" ["units", "scale"] (sp_normal K mg) := fun base p1 p2 => WP.Callee.mk' (ok_normal Fx6 B ) (PySem.W.mg_of X G ax6) kx6 bx6
  have Fx7 := fun_mk (st := s_power) lx7 cx7 kx7
  have bx7 := Fx7.binds (ps := ["exponent"]) fun _ _ _ _ _ _ us hl => match us, hl with | [_], _ => rfl
  have Cx7 : ∀ base : Heap, K.In base → base.Ns mainGlobals mg → WP.Callee l.prog w K mg base CX0 1 "power" ["exponent"] (sp_power K mg) := fun base p1 p2 => WP.Callee.mk' (ok_power Fx7 B ) (PySem.W.mg_of X G ax7) kx7 bx7
  have Fx8 := fun_mk (st := s_aligned) lx8 cx8 kx8
  have bx8 := Fx8.binds (ps := ["a", "scale"]) fun _ _ _ _ _ _ us hl => match us, hl with | [_, _], _ => rfl
  have Cx8 : ∀ base : Heap, K.In base → base.Ns mainGlobals mg → WP.Callee l.prog w K mg base CX0 2 "aligned" ["a", "scale"] (sp_aligned K mg) := fun base p1 p2 => WP.Callee.mk' (ok_aligned Fx8 B (Cx7 base p1 p2)) (PySem.W.mg_of X G ax8) kx8 bx8
  have Fx9 := fun_mk (st := s_add) lx9 cx9 kx9
  have bx9 := Fx9.binds (ps := ["a", "b"]) fun _ _ _ _ _ _ us hl => match us, hl with | [_, _], _ => rfl
  have Cx9 : ∀ base : Heap, K.In base → base.Ns mainGlobals mg → WP.Callee l.prog w K mg base CX0 3 "add" ["a", "b"] (sp_add K mg) := fun base p1 p2 => WP.Callee.mk' (ok_add Fx9 B (Cx6 base p1 p2) (Cx8 base p1 p2)) (PySem.W.mg_of X G ax9) kx9 bx9
  have Fx10 := fun_mk (st := s_negative) lx10 cx10 kx10
  have bx10 := Fx10.binds (ps := ["a"]) fun _ _ _ _ _ _ us hl => match us, hl with | [_], _ => rfl
  have Cx10 : ∀ base : Heap, K.In base → base.Ns mainGlobals mg → WP.Callee l.prog w K mg base CX0 1 "negative" ["a"] (sp_negative K mg) := fun base p1 p2 => WP.Callee.mk' (ok_negative Fx10 B ) (PySem.W.mg_of X G ax10) kx10 bx10
  have Fx11 := fun_mk (st := s_subtract) lx11 cx11 kx11
  have bx11 := Fx11.binds (ps := ["a", "b"]) fun _ _ _ _ _ _ us hl => match us, hl with | [_, _], _ => rfl
  have Cx11 : ∀ base : Heap, K.In base → base.Ns mainGlobals mg → WP.Callee l.prog w K mg base CX0 4 "subtract" ["a", "b"] (sp_subtract K mg) := fun base p1 p2 => WP.Callee.mk' (ok_subtract Fx11 B (Cx9 base p1 p2) (Cx10 base p1 p2)) (PySem.W.mg_of X G ax11) kx11 bx11
  have Fx12 := fun_mk (st := s_multiply) lx12 cx12 kx12
  have bx12 := Fx12.binds (ps := ["a", "b"]) fun _ _ _ _ _ _ us hl => match us, hl with | [_, _], _ => rfl
  have Cx12 : ∀ base : Heap, K.In base → base.Ns mainGlobals mg → WP.Callee l.prog w K mg base CX0 2 "multiply" ["a", "b"] (sp_multiply K mg) := fun base p1 p2 => WP.Callee.mk' (ok_multiply Fx12 B (Cx6 base p1 p2)) (PySem.W.mg_of X G ax12) kx12 bx12
  have Fx13 := fun_mk (st := s__law_part) lx13 cx13 kx13
  have bx13 := Fx13.binds (ps := ["above", "below", "is_rounded"]) fun _ _ _ _ _ _ us hl => match us, hl with | [_, _, _], _ => rfl
  have Cx13 : ∀ base : Heap, K.In base → base.Ns mainGlobals mg → WP.Callee l.prog w K mg base CX0 1 "_law_part" ["above", "below", "is_rounded"] (sp__law_part K mg) := fun base p1 p2 => WP.Callee.mk' (ok__law_part Fx13 B ) (PySem.W.mg_of X G ax13) kx13 bx13
  have Fx14 := fun_mk (st := s_quotient) lx14 cx14 kx14
  have bx14 := Fx14.binds (ps := ["above", "below", "is_rounded"]) fun _ _ _ _ _ _ us hl => match us, hl with | [_, _, _], _ => rfl
  have Cx14 : ∀ base : Heap, K.In base → base.Ns mainGlobals mg → WP.Callee l.prog w K mg base CX0 1 "quotient" ["above", "below", "is_rounded"] (sp_quotient K mg) := fun base p1 p2 => WP.Callee.mk' (ok_quotient Fx14 B ) (PySem.W.mg_of X G ax14) kx14 bx14
  have Fx15 := fun_mk (st := s_units_at) lx15 cx15 kx15
  have bx15 := Fx15.binds (ps := ["a", "scale", "is_rounded"]) fun _ _ _ _ _ _ us hl => match us, hl with | [_, _, _], _ => rfl
  have Cx15 : ∀ base : Heap, K.In base → base.Ns mainGlobals mg → WP.Callee l.prog w K mg base CX0 3 "units_at" ["a", "scale", "is_rounded"] (sp_units_at K mg) := fun base p1 p2 => WP.Callee.mk' (ok_units_at Fx15 B (Cx14 base p1 p2) (Cx8 base p1 p2) (Cx7 base p1 p2)) (PySem.W.mg_of X G ax15) kx15 bx15
  have Fx16 := fun_mk (st := s_compare) lx16 cx16 kx16
  have bx16 := Fx16.binds (ps := ["a", "b"]) fun _ _ _ _ _ _ us hl => match us, hl with | [_, _], _ => rfl
  have Cx16 : ∀ base : Heap, K.In base → base.Ns mainGlobals mg → WP.Callee l.prog w K mg base CX0 3 "compare" ["a", "b"] (sp_compare K mg) := fun base p1 p2 => WP.Callee.mk' (ok_compare Fx16 B (Cx8 base p1 p2)) (PySem.W.mg_of X G ax16) kx16 bx16
  have Fx17 := fun_mk (st := s__figures) lx17 cx17 kx17
  have bx17 := Fx17.binds (ps := ["units"]) fun _ _ _ _ _ _ us hl => match us, hl with | [_], _ => rfl
  have Cx17 : ∀ base : Heap, K.In base → base.Ns mainGlobals mg → WP.Callee l.prog w K mg base CX0 1 "_figures" ["units"] (sp__figures K mg) := fun base p1 p2 => WP.Callee.mk' (ok__figures Fx17 B ) (PySem.W.mg_of X G ax17) kx17 bx17
  have Fx18 := fun_mk (st := s_show) lx18 cx18 kx18
  have bx18 := Fx18.binds (ps := ["a"]) fun _ _ _ _ _ _ us hl => match us, hl with | [_], _ => rfl
  have Cx18 : ∀ base : Heap, K.In base → base.Ns mainGlobals mg → WP.Callee l.prog w K mg base CX0 2 "show" ["a"] (sp_show K mg) := fun base p1 p2 => WP.Callee.mk' (ok_show Fx18 B (Cx17 base p1 p2)) (PySem.W.mg_of X G ax18) kx18 bx18
  have Fx19 := fun_mk (st := s__law_text) lx19 cx19 kx19
  have bx19 := Fx19.binds (ps := ["number"]) fun _ _ _ _ _ _ us hl => match us, hl with | [_], _ => rfl
  have Cx19 : ∀ base : Heap, K.In base → base.Ns mainGlobals mg → WP.Callee l.prog w K mg base CX0 1 "_law_text" ["number"] (sp__law_text K mg) := fun base p1 p2 => WP.Callee.mk' (ok__law_text Fx19 B ) (PySem.W.mg_of X G ax19) kx19 bx19
  have Fx20 := fun_mk (st := s_fits) lx20 cx20 kx20
  have bx20 := Fx20.binds (ps := ["units", "digits"]) fun _ _ _ _ _ _ us hl => match us, hl with | [_, _], _ => rfl
  have Cx20 : ∀ base : Heap, K.In base → base.Ns mainGlobals mg → WP.Callee l.prog w K mg base CX0 2 "fits" ["units", "digits"] (sp_fits K mg) := fun base p1 p2 => WP.Callee.mk' (ok_fits Fx20 B (Cx7 base p1 p2)) (PySem.W.mg_of X G ax20) kx20 bx20
  have Fx21 := fun_mk (st := s_law) lx21 cx21 kx21
  exact ⟨PySem.W.fnOf "law" "law" (defArgs s_law) (defBody s_law) (defScope s_law) .none kVx21 dcx21 pmx21 anx21 cdx21 ctx21, fun s v => .of_eq rfl, fun base p1 p2 => ok_law Fx21 B (Cx0 base p1 p2) (Cx3 base p1 p2) (Cx4 base p1 p2) (Cx1 base p1 p2) (Cx5 base p1 p2) (Cx2 base p1 p2) (Cx6 base p1 p2) (Cx9 base p1 p2) (Cx11 base p1 p2) (Cx12 base p1 p2) (Cx10 base p1 p2) (Cx13 base p1 p2) (Cx15 base p1 p2) (Cx16 base p1 p2) (Cx18 base p1 p2) (Cx19 base p1 p2) (Cx8 base p1 p2) (Cx20 base p1 p2)⟩
theorem walk {l : PySem.W.OpenLaw} {q : Program} {loose : List Str} {XP : (Str → Option Value) → Heap → Prop} {YP : World → Heap → Prop} {d : DefRec} {K : Params → PySem.W.Frag} (hn : l.most = some 63) (hdf : d.params.defaults = [])
    (hY : ∀ (w : World) (h : Heap), YP w h → (K w.params).In h)
    (F : ∀ (w : World) (mg : Str → Option Value) (fa : Addr) (h : Heap), (K w.params).In h → h.Ns mainGlobals mg → mg d.name = some (.ref fa) →
      ∃ fd : FuncData, (∀ (s : Shared) (u : Value), BindsTo s fd ⟨[u], []⟩ [("script", u)]) ∧ ∀ base : Heap, (K w.params).In base → base.Ns mainGlobals mg → FnOk l.prog w (K w.params) mg base CX0 5 fa fd ["script"] (sp_law (K w.params))) :
    PySem.W.WalkO q loose XP YP l.row.toRowW d [] (fun f vs => PySem.call f vs) :=
  L2.walk_of (n := 63) (k := 5) (x := "script") (CX := fun _ => CX0) (sp := fun w => sp_law (K w.params)) hn (by decide) hdf ⟨rfl, by decide, by decide⟩ hY F (fun _ _ a ns hl _ hS => ⟨a, ns, rfl, hS, hl, fun _ => rfl⟩) fun _ _ _ _ _ z => z
end D
open PySem PySem.W PyProof.Rows
set_option maxRecDepth 100000 in
set_option maxHeartbeats 0 in
theorem PySem.Challenge.cw_cardwright_k05_decimals_without_bound_holds : PySem.Challenge.rw_cardwright_k05_decimals_without_bound.Holds := by
  w_on; o_law; k_head; (case hw => w_witness2)
  k_fill
  refine D.walk (l := PySem.Challenge.rw_cardwright_k05_decimals_without_bound) rfl rfl (fun w h Y => PySem.W.kIn_of Y) ?F
  case F =>
    intro w mg fa h KX G hmg
    refine' D.all_mk KX G hmg ?ax0 ?lx0 ?cx0 ?kx0 ?ax1 ?lx1 ?cx1 ?kx1 ?ax2 ?lx2 ?cx2 ?kx2 ?ax3 ?lx3 ?cx3 ?kx3 ?ax4 ?lx4 ?cx4 ?kx4 ?ax5 ?lx5 ?cx5 ?kx5 ?ax6 ?lx6 ?cx6 ?kx6 ?ax7 ?lx7 ?cx7 ?kx7 ?ax8 ?lx8 ?cx8 ?kx8 ?ax9 ?lx9 ?cx9 ?kx9 ?ax10 ?lx10 ?cx10 ?kx10 ?ax11 ?lx11 ?cx11 ?kx11 ?ax12 ?lx12 ?cx12 ?kx12 ?ax13 ?lx13 ?cx13 ?kx13 ?ax14 ?lx14 ?cx14 ?kx14 ?ax15 ?lx15 ?cx15 ?kx15 ?ax16 ?lx16 ?cx16 ?kx16 ?ax17 ?lx17 ?cx17 ?kx17 ?ax18 ?lx18 ?cx18 ?kx18 ?ax19 ?lx19 ?cx19 ?kx19 ?ax20 ?lx20 ?cx20 ?kx20 ?ax21 ?lx21 ?cx21 ?kx21 ?z_abs ?z_bool ?z_divmod ?z_int ?z_isinstance ?z_len ?z_list ?z_max ?z_range ?z_reversed ?z_str ?z_tuple ?g_PART ?g_PART_FIGURES
    (case ax0 => k_is); (case lx0 => k_is); (case cx0 => k_is); (case kx0 => k_is); (case ax1 => k_is); (case lx1 => k_is)
    (case cx1 => k_is); (case kx1 => k_is); (case ax2 => k_is); (case lx2 => k_is); (case cx2 => k_is); (case kx2 => k_is)
    (case ax3 => k_is); (case lx3 => k_is); (case cx3 => k_is); (case kx3 => k_is); (case ax4 => k_is); (case lx4 => k_is)
    (case cx4 => k_is); (case kx4 => k_is); (case ax5 => k_is); (case lx5 => k_is); (case cx5 => k_is); (case kx5 => k_is)
    (case ax6 => k_is); (case lx6 => k_is); (case cx6 => k_is); (case kx6 => k_is); (case ax7 => k_is); (case lx7 => k_is)
    (case cx7 => k_is); (case kx7 => k_is); (case ax8 => k_is); (case lx8 => k_is); (case cx8 => k_is); (case kx8 => k_is)
    (case ax9 => k_is); (case lx9 => k_is); (case cx9 => k_is); (case kx9 => k_is); (case ax10 => k_is); (case lx10 => k_is)
    (case cx10 => k_is); (case kx10 => k_is); (case ax11 => k_is); (case lx11 => k_is); (case cx11 => k_is); (case kx11 => k_is)
    (case ax12 => k_is); (case lx12 => k_is); (case cx12 => k_is); (case kx12 => k_is); (case ax13 => k_is); (case lx13 => k_is)
    (case cx13 => k_is); (case kx13 => k_is); (case ax14 => k_is); (case lx14 => k_is); (case cx14 => k_is); (case kx14 => k_is)
    (case ax15 => k_is); (case lx15 => k_is); (case cx15 => k_is); (case kx15 => k_is); (case ax16 => k_is); (case lx16 => k_is)
    (case cx16 => k_is); (case kx16 => k_is); (case ax17 => k_is); (case lx17 => k_is); (case cx17 => k_is); (case kx17 => k_is)
    (case ax18 => k_is); (case lx18 => k_is); (case cx18 => k_is); (case kx18 => k_is); (case ax19 => k_is); (case lx19 => k_is)
    (case cx19 => k_is); (case kx19 => k_is); (case ax20 => k_is); (case lx20 => k_is); (case cx20 => k_is); (case kx20 => k_is)
    (case ax21 => k_is); (case lx21 => k_is); (case cx21 => k_is); (case kx21 => k_is); (case z_abs => k_is); (case z_bool => k_is)
    (case z_divmod => k_is); (case z_int => k_is); (case z_isinstance => k_is); (case z_len => k_is); (case z_list => k_is); (case z_max => k_is)
    (case z_range => k_is); (case z_reversed => k_is); (case z_str => k_is); (case z_tuple => k_is); (case g_PART => k_is); (case g_PART_FIGURES => k_is)
#print axioms PySem.Challenge.cw_cardwright_k05_decimals_without_bound_holds
