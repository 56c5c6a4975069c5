import PyProof.Rows.All
import Wide.All
import OpenK.AllK
import Wide.FinOn
import HandS.ForMost
import HandS.Wide
import HandS.IsInst
import HandS.Evl
import HandS.ForExc
import HandS.ExcIs
import HandS.WideBits
import HandS.Codes
import HandS.Comp
import HandS.Dict
import HandS.Iter
import HandS.MapJoin
import HandS.MapObj
import HandS.More
import HandS.Rev
import HandS.RevTup
import HandS.StrMore
import HandS.Walk
import PySem.Challenge.RW_cardwright_k12_fields_are_written
set_option Elab.async false
set_option linter.all false
set_option maxRecDepth 100000
set_option maxHeartbeats 4000000
namespace WP
open PySem PySem.Spec PyProof.Rows L2

/-! ### a def that may be called -/
structure Callee (P : Program) (w : World) (K : PySem.W.Frag) (mg : Str → Option Value) (base : Heap) (CX : CXT) (lv : Nat) (nm : Str) (ps : List Str) (sp : Sp) : Prop where
  ex : ∃ (f : Addr) (fd : FuncData), FnOk P w K mg base CX lv f fd ps sp ∧ mg nm = some (.ref f) ∧ PySem.W.keepIn K (.ref f) = true ∧ Binds K fd ps []
theorem Callee.mk' {P : Program} {w : World} {K : PySem.W.Frag} {mg : Str → Option Value} {base : Heap} {CX : CXT} {lv : Nat} {nm : Str} {ps : List Str} {sp : Sp} {f : Addr} {fd : FuncData}
    (h : FnOk P w K mg base CX lv f fd ps sp) (m : mg nm = some (.ref f)) (k : PySem.W.keepIn K (.ref f) = true) (b : Binds K fd ps []) : Callee P w K mg base CX lv nm ps sp := ⟨⟨f, fd, h, m, k, b⟩⟩
section
variable {X : Cx} {CX : CXT} {k j : Nat} {ps : List Str} {sp : Sp} {E : XK} {x : Str} {p pos : Pos} {e : Expr} {es : List Expr} {t : TA}
theorem pe_callC (C : Callee X.prog X.w X.K X.mg X.base CX k x ps sp) (hr : Room j X.A) (hg : Gl X x) (hx : Passes CX X E) (ha : PA X (e :: es) t) (hl : k ≤ j := by decide)
    (hdb : (x == ("__debug__" : Str)) = false := by decide) (he : starEach (e :: es) X.env = (false, eval e X.env) :: starEach es X.env := by rfl) (hpl : (backTo pos (starEach es X.env)).any (·.1) = false := by rfl) :
    PE X (.Call (.Name x p) (e :: es) [] pos) (tCall sp [] E t) := by
  obtain ⟨f, fd, F, hm, hk, hb⟩ := C.ex
  exact pe_call F (hr.mono hl) hg hm hk hb .nil hx ha hdb he hpl
theorem pe_callC0 (C : Callee X.prog X.w X.K X.mg X.base CX k x ps sp) (hr : Room j X.A) (hg : Gl X x) (hx : Passes CX X E) (hl : k ≤ j := by decide)
    (hdb : (x == ("__debug__" : Str)) = false := by decide) : PE X (.Call (.Name x p) [] [] pos) (tCall sp [] E tNil) := by
  obtain ⟨f, fd, F, hm, hk, hb⟩ := C.ex
  exact pe_call0 F (hr.mono hl) hg hm hk hb .nil hx hdb
end

/-! ### readings, a step at a time -/
section
variable {σ : L2.St} {H : Hp} {D : Ends} {t u : TS} {te ta tb : TE} {tt tu : TT} {g : TG} {Q : VK} {QB : Bool → Hp → Prop} {QA : List V → Hp → Prop} {r : R2} {i j : Int} {n : Nat} {v x y : V}
theorem seq (h : t { D with nx := u D } σ H) : tSeq t u D σ H := h
theorem asg (h : te σ H fun x H1 => g x σ H1 D.nx) : tAsg te g D σ H := h
theorem name {QS : L2.St → Hp → Prop} (h : QS (σ.set n (some v)) H) : gName n v σ H QS := h
theorem var (e : σ[n]? = some (some v)) (h : Q v H) : tVar n σ H Q := ⟨v, e, h⟩
theorem con (h : Q v H) : tC v σ H Q := h
theorem op (h : ta σ H fun x H1 => tb σ H1 fun y H2 => r x y H2 Q) : tOp r ta tb σ H Q := h
theorem un {ru : V → Hp → VK → Prop} (h : ta σ H fun x H1 => ru x H1 Q) : tUn ru ta σ H Q := h
theorem rU_ {g : Int → V} (h : Q (g i) H) : rU g (.int i) H Q := ⟨i, rfl, h⟩
theorem i0 {g : Int → Int → V} (h : Q (g i j) H) : rI0 g (.int i) (.int j) H Q := ⟨i, j, rfl, rfl, h⟩
theorem iC {C : Int → Int → Prop} {g : Int → Int → V} (c : C i j) (h : Q (g i j) H) : rI C g (.int i) (.int j) H Q := ⟨i, j, rfl, rfl, c, h⟩
theorem eqS (s : scal x y = true) (h : Q (.bl (decide (x = y))) H) : rEq x y H Q := ⟨s, h⟩
theorem neS (s : scal x y = true) (h : Q (.bl (!decide (x = y))) H) : rNe x y H Q := ⟨s, h⟩
theorem ifS (h : tt σ H fun b H1 => if b = true then t D σ H1 else u D σ H1) : tIfS tt t u D σ H := h
theorem ifE (h : tt σ H fun b H1 => if b = true then ta σ H1 Q else tb σ H1 Q) : tIf tt ta tb σ H Q := h
theorem test (h : te σ H fun x H1 => ∃ k, x = .bl k ∧ QB k H1) : tTest te σ H QB := h
theorem bt (h : te σ H fun x H1 => ∃ k, x = .bl k ∧ QB k H1) : tB te σ H QB := h
theorem isb {b : Bool} (h : QB b H) : ∃ k, V.bl b = V.bl k ∧ QB k H := ⟨b, rfl, h⟩
theorem ret (h : te σ H D.rt) : tRet te D σ H := h
theorem retN (h : D.rt .non H) : tRetN D σ H := h
theorem drop (h : te σ H fun _ H1 => D.nx σ H1) : tDrop te D σ H := h
theorem next (h : D.nx σ H) : tNext D σ H := h
theorem brk (h : D.bk σ H) : tBreak D σ H := h
theorem cont (h : D.ct σ H) : tCont D σ H := h
theorem cb {rc : List V → Hp → VK → Prop} {a : TA} (h : a σ H fun vs H1 => rc vs H1 Q) : tCB rc a σ H Q := h
theorem call {sp : Sp} {E : XK} {a : TA} (h : a σ H fun vs H1 => sp (vs ++ []) H1 Q E) : tCall sp [] E a σ H Q := h
theorem cons {a : TA} (h : te σ H fun x H1 => a σ H1 fun xs H2 => QA (x :: xs) H2) : tCons te a σ H QA := h
theorem nil (h : QA [] H) : tNil σ H QA := h
theorem tup {a : TA} (h : a σ H fun xs H1 => xs.length ≤ sizeLine ∧ ∀ p, H1 p = none → Q (.ref p) (upd H1 p (.tup xs))) : tTup a σ H Q := h
theorem lst {a : TA} (h : a σ H fun xs H1 => xs.length ≤ sizeLine ∧ ∀ p, H1 p = none → Q (.ref p) (upd H1 p (.lst xs))) : tLst a σ H Q := h
theorem notT (h : tt σ H fun c H1 => QB (!c) H1) : tNot tt σ H QB := h
theorem andT (h : tt σ H fun c H1 => if c = true then tu σ H1 QB else QB false H1) : tAnd tt tu σ H QB := h
theorem orT (h : tt σ H fun c H1 => if c = true then QB true H1 else tu σ H1 QB) : tOr tt tu σ H QB := h
theorem andV (h : ta σ H fun x H1 => ∃ c, x = .bl c ∧ if c = true then tb σ H1 Q else Q (.bl false) H1) : tAndV ta tb σ H Q := h
theorem orV (h : ta σ H fun x H1 => ∃ c, x = .bl c ∧ if c = true then Q (.bl true) H1 else tb σ H1 Q) : tOrV ta tb σ H Q := h
theorem notV (h : ta σ H fun x H1 => ∃ c, x = .bl c ∧ Q (.bl (!c)) H1) : tNotV ta σ H Q := h
theorem isbV {b : Bool} {R : Bool → Prop} (h : R b) : ∃ k, V.bl b = V.bl k ∧ R k := ⟨b, rfl, h⟩
theorem sl {r : V → Option Int → Option Int → Hp → VK → Prop} {tl th : TO} (h : te σ H fun x H1 => tl σ H1 fun l H2 => th σ H2 fun u H3 => r x l u H3 Q) : tSl r te tl th σ H Q := h
theorem noPart {QO : Option Int → Hp → Prop} (h : QO none H) : tNoPart σ H QO := h
theorem part {QO : Option Int → Hp → Prop} (h : te σ H fun x H1 => ∃ i, x = .int i ∧ QO (some i) H1) : tPart te σ H QO := h
theorem isi {R : Int → Prop} (h : R i) : ∃ k, V.int i = V.int k ∧ R k := ⟨i, rfl, h⟩
/-- tests -/
theorem br {c A B : Prop} [Decidable c] (h1 : c → A) (h2 : ¬ c → B) : if decide c = true then A else B := by
  by_cases h : c
  · rw [decide_eq_true h, if_pos rfl]; exact h1 h
  · rw [decide_eq_false h, if_neg Bool.false_ne_true]; exact h2 h
theorem brN {c A B : Prop} [Decidable c] (h1 : ¬ c → A) (h2 : c → B) : if (!decide c) = true then A else B := by
  by_cases h : c
  · rw [decide_eq_true h]; exact iteF (h2 h)
  · rw [decide_eq_false h]; exact iteT (h1 h)
theorem brT {b : Bool} {A B : Prop} (e : b = true) (h : A) : if b = true then A else B := by rw [if_pos e]; exact h
theorem brF {b : Bool} {A B : Prop} (e : b = false) (h : B) : if b = true then A else B := by rw [if_neg (by rw [e]; exact Bool.false_ne_true)]; exact h
theorem brB {b : Bool} {A B : Prop} (h1 : b = true → A) (h2 : b = false → B) : if b = true then A else B := by
  cases b
  · exact iteF (h2 rfl)
  · exact iteT (h1 rfl)
theorem dec_int {i j : Int} : decide (V.int i = V.int j) = decide (i = j) := by
  by_cases h : i = j
  · rw [decide_eq_true h, decide_eq_true (congrArg V.int h)]
  · rw [decide_eq_false h, decide_eq_false fun e => h (V.int.inj e)]
theorem dec_str {i j : Str} : decide (V.str i = V.str j) = decide (i = j) := by
  by_cases h : i = j
  · rw [decide_eq_true h, decide_eq_true (congrArg V.str h)]
  · rw [decide_eq_false h, decide_eq_false fun e => h (V.str.inj e)]
theorem dec_bl {i j : Bool} : decide (V.bl i = V.bl j) = decide (i = j) := by
  by_cases h : i = j
  · rw [decide_eq_true h, decide_eq_true (congrArg V.bl h)]
  · rw [decide_eq_false h, decide_eq_false fun e => h (V.bl.inj e)]
theorem eqI (h : Q (.bl (decide (i = j))) H) : rEq (.int i) (.int j) H Q := ⟨rfl, by rw [dec_int]; exact h⟩
theorem neI (h : Q (.bl (!decide (i = j))) H) : rNe (.int i) (.int j) H Q := ⟨rfl, by rw [dec_int]; exact h⟩
theorem eqT {a b : Str} (h : Q (.bl (decide (a = b))) H) : rEq (.str a) (.str b) H Q := ⟨rfl, by rw [dec_str]; exact h⟩
theorem neT {a b : Str} (h : Q (.bl (!decide (a = b))) H) : rNe (.str a) (.str b) H Q := ⟨rfl, by rw [dec_str]; exact h⟩
theorem eqB {a b : Bool} (h : Q (.bl (decide (a = b))) H) : rEq (.bl a) (.bl b) H Q := ⟨rfl, by rw [dec_bl]; exact h⟩
theorem neB {a b : Bool} (h : Q (.bl (!decide (a = b))) H) : rNe (.bl a) (.bl b) H Q := ⟨rfl, by rw [dec_bl]; exact h⟩
end
/-! ### numbers of a known number of bits -/
theorem sz2 : (2 : Nat) ≤ sizeLine := by rw [sizeLine_eq]; decide
theorem sz {n : Nat} (h : n ≤ 1000000) : n ≤ sizeLine := by rw [sizeLine_eq]; omega
end WP
namespace WP
open PySem PySem.Spec PyProof.Rows L2
section
variable {X : Cx} {x : Str} {v : V} {pos : Pos}
theorem pe_const (hg : Gl X x) (h : ∃ u, X.mg x = some u ∧ RelV v u) (hd : (x == ("__debug__" : Str)) = false := by decide) : PE X (.Name x pos) (tC v) := by
  obtain ⟨u, hm, r⟩ := h
  exact pe_glob hg hm r hd
end
/-- a number of at most a bits -/
def Bt (i : Int) (a : Nat) : Prop := i.natAbs < 2 ^ a
theorem Bt.mono {i : Int} {a b : Nat} (h : Bt i a) (l : a ≤ b) : Bt i b := Nat.lt_of_lt_of_le h (Nat.pow_le_pow_right (by decide) l)
theorem Bt.mul {i j : Int} {a b : Nat} (h : Bt i a) (k : Bt j b) : Bt (i * j) (a + b) := wide_lt h k
theorem Bt.neg {i : Int} {a : Nat} (h : Bt i a) : Bt (-i) a := by unfold Bt at *; rw [Int.natAbs_neg]; exact h
theorem Bt.add {i j : Int} {a : Nat} (h : Bt i a) (k : Bt j a) : Bt (i + j) (a + 1) := by
  unfold Bt at *
  have := Int.natAbs_add_le i j
  rw [Nat.pow_succ]; omega
theorem Bt.sub {i j : Int} {a : Nat} (h : Bt i a) (k : Bt j a) : Bt (i - j) (a + 1) := by
  rw [Int.sub_eq_add_neg]; exact h.add k.neg
theorem Bt.le {i j : Int} {a : Nat} (h : Bt i a) (k : j.natAbs ≤ i.natAbs) : Bt j a := Nat.lt_of_le_of_lt k h
theorem Bt.ten (n : Nat) : Bt (10 ^ n) (4 * n + 1) := by
  unfold Bt
  have e : ((10 : Int) ^ n).natAbs = 10 ^ n := by rw [Int.natAbs_pow]; rfl
  rw [e]
  have h : 10 ^ n ≤ 16 ^ n := Nat.pow_le_pow_left (by decide) n
  have h2 : (16 : Nat) ^ n = 2 ^ (4 * n) := by rw [show (16 : Nat) = 2 ^ 4 from rfl, ← Nat.pow_mul]
  rw [h2] at h
  rw [Nat.pow_succ]
  have : 0 < 2 ^ (4 * n) := Nat.pow_pos (by decide)
  omega
theorem Bt.w {i j : Int} {a b : Nat} (h : Bt i a) (k : Bt j b) (l : a + b ≤ 999998 := by omega) : CMulW i j :=
  wide_mul (h.mono (Nat.le_succ a)) (k.mono (Nat.le_succ b)) (Nat.succ_pos _) (Nat.succ_pos _) (by omega)
theorem Bt.d {j : Int} {b : Nat} (h : 0 < j) (k : Bt j b) (l : b ≤ 8999 := by omega) : CDivW 0 j := wide_div h (k.mono (Nat.le_succ b)) (Nat.succ_pos _) (by omega)
theorem Bt.d' {i j : Int} {b : Nat} (h : 0 < j) (k : Bt j b) (l : b ≤ 8999 := by omega) : CDivW i j := Bt.d h k l
theorem ten_pos (n : Nat) : (0 : Int) < 10 ^ n := Int.pow_pos (by decide)
end WP
namespace WP
open PySem PySem.Spec PyProof.Rows L2
/-! ### what comes back -/
def RetT (xs : List V) (H : Hp) (Q : VK) : Prop := ∀ p H', Same H H' → H' p = some (.tup xs) → Q (.ref p) H'
def RetL (xs : List V) (H : Hp) (Q : VK) : Prop := ∀ p H', H p = none → Same H H' → H' p = some (.lst xs) → Q (.ref p) H'
def RetV (v : V) (H : Hp) (Q : VK) : Prop := ∀ H', Same H H' → Q v H'
theorem same_new {H : Hp} {p : Addr} {o : HO} (h : H p = none) : Same H (upd H p o) := fun b u e => by
  rw [upd_ne (ne_of_none e h)]; exact e
theorem same_mut {H H' : Hp} {p : Addr} {o : HO} (e : Same H H') (h : H p = none) : Same H (upd H' p o) := fun a u ha => by
  rw [upd_ne (ne_of_none ha h)]; exact e a u ha
theorem sqt {K : PySem.W.Frag} {H H' : Hp} {a : Addr} {xs : List V} (e : Same H H') (h : SqT K H a xs) : SqT K H' a xs := by
  rcases h with (h | ⟨o, h⟩) | h
  · exact .inl (.inl (e _ _ h))
  · exact .inl (.inr ⟨o, e _ _ h⟩)
  · exact .inr h
theorem RetT.new {xs : List V} {H H' : Hp} {Q : VK} (k : RetT xs H Q) (e : Same H H') : ∀ p, H' p = none → Q (.ref p) (upd H' p (.tup xs)) := fun p hp =>
  k p _ (e.trans (same_new hp)) upd_same
theorem RetL.new {xs : List V} {H H' : Hp} {Q : VK} (k : RetL xs H Q) (e : Same H H') : ∀ p, H' p = none → Q (.ref p) (upd H' p (.lst xs)) := fun p hp =>
  k p _ (e.free hp) (e.trans (same_new hp)) upd_same
/-- a decimal's two parts -/
abbrev dv (u : Int) (s : Nat) : List V := [.int u, .int (s : Int)]
theorem at0 {α : Type} {x : α} {xs : List α} : atI (x :: xs) (0 : Int) = some x := atI_nat (j := 0) rfl
theorem at1 {α : Type} {x y : α} {xs : List α} : atI (x :: y :: xs) (1 : Int) = some y := atI_nat (j := 1) rfl
theorem at2 {α : Type} {x y z : α} {xs : List α} : atI (x :: y :: z :: xs) (2 : Int) = some z := atI_nat (j := 2) rfl
theorem at3 {α : Type} {x y z u : α} {xs : List α} : atI (x :: y :: z :: u :: xs) (3 : Int) = some u := atI_nat (j := 3) rfl
theorem at4 {α : Type} {x y z u v : α} {xs : List α} : atI (x :: y :: z :: u :: v :: xs) (4 : Int) = some v := atI_nat (j := 4) rfl
section
variable {K : PySem.W.Frag} {H : Hp} {p : Addr} {xs : List V} {v : V} {i : Int} {Q : VK}
theorem ixT (h : SqT K H p xs) (a : atI xs i = some v) (q : Q v H) : rIxT K (.ref p) (.int i) H Q := ⟨p, xs, i, v, rfl, rfl, h, a, q⟩
theorem ixL (h : SqL K H p xs) (a : atI xs i = some v) (q : Q v H) : rIxL K (.ref p) (.int i) H Q := ⟨p, xs, i, v, rfl, rfl, h, a, q⟩
theorem unT {n : Nat} {t : TGs} {σ : L2.St} {QS : L2.St → Hp → Prop} (h : SqT K H p xs) (l : xs.length = n) (q : t xs σ H QS) : gTup K n t (.ref p) σ H QS := ⟨p, xs, rfl, h, l, q⟩
theorem gsCons {g : TG} {gs : TGs} {x : V} {r : List V} {σ : L2.St} {QS : L2.St → Hp → Prop} (q : g x σ H fun σ' H' => gs r σ' H' QS) : gCons g gs (x :: r) σ H QS := ⟨x, r, rfl, q⟩
theorem gsNil {σ : L2.St} {QS : L2.St → Hp → Prop} (q : QS σ H) : gNil [] σ H QS := ⟨rfl, q⟩
end
end WP
namespace WP
open PySem PySem.Spec PyProof.Rows L2
section
variable {K : PySem.W.Frag} {H : Hp} {p : Addr} {xs : List V} {v x : V} {i : Int} {Q : VK} {σ : L2.St} {D : Ends}
theorem forl {wi : TI} {g : TG} {tb : TS} (h : wi σ H fun J H1 => ∃ W : Nat → Nat → L2.St → Hp → Prop, (∃ m, W 0 m σ H1) ∧ ∀ i m σ H, W i m σ H →
  (J.stop i H ∧ D.nx σ H) ∨ (J.go i H ∧ ∃ N : L2.St → Hp → Prop, (∀ σ' H', N σ' H' → ∃ m', m' < m ∧ W (i + 1) m' σ' H') ∧ ∀ x H', J.yld i H x H' → g x σ H' fun σ2 H2 => tb { D with nx := N, ct := N, bk := D.nx } σ2 H2)) : tFor wi g tb D σ H := h
theorem rng1 {ta : TA} {R : It → Hp → Prop} (h : ta σ H fun vs H1 => ∃ j : Int, vs = [.int j] ∧ -(2 ^ 62) ≤ j ∧ j < 2 ^ 62 ∧ R (Itr 0 j.toNat) H1) : iRng1 ta σ H R := h
theorem rng2 {ta : TA} {R : It → Hp → Prop} (h : ta σ H fun vs H1 => ∃ i j : Int, vs = [.int i, .int j] ∧ (-(2 ^ 62) ≤ i ∧ i < 2 ^ 62 ∧ -(2 ^ 62) ≤ j ∧ j < 2 ^ 62) ∧ R (Itr i (j - i).toNat) H1) : iRng2 ta σ H R := h
theorem walkL {tl : TE} {R : It → Hp → Prop} (h : tl σ H fun x H1 => ∃ a, x = .ref a ∧ (∃ xs, SqL K H1 a xs) ∧ R (Itl K a) H1) : iList K tl σ H R := h
theorem walkT {tl : TE} {R : It → Hp → Prop} (h : tl σ H fun x H1 => ∃ a, x = .ref a ∧ (∃ xs, SqT K H1 a xs) ∧ R (Itt K a) H1) : iTup K tl σ H R := h
theorem isT {t n : String} {b : Bool} (ty : TyX K H x (.type t)) (q : Q (.bl b) H) (hb : kitB t n = some b := by decide +kernel) : rIsi K [x, .ty n] H Q :=
  ⟨x, .ty n, _, _, b, rfl, ClsV.ty n, ty, kit_ty hb, q⟩
theorem isY {t n : String} (ty : TyX K H x (.type t)) (q : Q (.bl true) H) (hb : kitB t n = some true := by decide +kernel) : rIsi K [x, .ty n] H Q := isT ty q hb
theorem isN {t n : String} (ty : TyX K H x (.type t)) (q : Q (.bl false) H) (hb : kitB t n = some false := by decide +kernel) : rIsi K [x, .ty n] H Q := isT ty q hb
def rLen (K : PySem.W.Frag) : List V → Hp → VK → Prop := fun xs H Q => ∃ x n, xs = [x] ∧ LenV K x H n ∧ Q (.int (n : Nat)) H
theorem c_len {X : Cx} : CallR X (.builtin "len") (rLen X.K) := call_len
theorem lenL (h : SqL K H p xs) (q : Q (.int (xs.length : Int)) H) : rLen K [V.ref p] H Q := ⟨_, _, rfl, .inl ⟨xs, h, rfl⟩, q⟩
theorem lenT (h : SqT K H p xs) (q : Q (.int (xs.length : Int)) H) : rLen K [V.ref p] H Q := ⟨_, _, rfl, .inr ⟨xs, h, rfl⟩, q⟩
theorem lenS {z : Str} (h : z.length ≤ sizeLine) (q : Q (.int (z.length : Int)) H) : rLen K [V.str z] H Q := ⟨_, _, rfl, ⟨h, rfl⟩, q⟩
def rInt1 : List V → Hp → VK → Prop := fun xs H Q => (∃ i, xs = [.int i] ∧ Q (.int i) H) ∨ ∃ k, xs = [.bl k] ∧ Q (.int (if k then 1 else 0)) H
theorem c_int1 {X : Cx} : CallR X (.type "int") rInt1 := call_int1
theorem intI (q : Q (.int i) H) : rInt1 [V.int i] H Q := .inl ⟨i, rfl, q⟩
theorem intB {b : Bool} (q : Q (.int (if b then 1 else 0)) H) : rInt1 [V.bl b] H Q := .inr ⟨b, rfl, q⟩
def rAbs : List V → Hp → VK → Prop := fun xs H Q => ∃ i, xs = [.int i] ∧ Q (.int (if i < 0 then -i else i)) H
theorem c_abs {X : Cx} : CallR X (.builtin "abs") rAbs := call_abs
theorem absI (q : Q (.int (i.natAbs : Int)) H) : rAbs [V.int i] H Q := ⟨i, rfl, by
  have e : (if i < 0 then -i else i) = (i.natAbs : Int) := by split <;> omega
  rw [e]; exact q⟩
def rMax2 : List V → Hp → VK → Prop := fun xs H Q => ∃ i j, xs = [.int i, .int j] ∧ Q (.int (if j > i then j else i)) H
def rMin2 : List V → Hp → VK → Prop := fun xs H Q => ∃ i j, xs = [.int i, .int j] ∧ Q (.int (if j < i then j else i)) H
theorem c_max2 {X : Cx} (hc : X.calm = true) : CallR X (.builtin "max") rMax2 := call_max2 hc
theorem c_min2 {X : Cx} (hc : X.calm = true) : CallR X (.builtin "min") rMin2 := call_min2 hc
theorem maxI {j : Int} (q : Q (.int (max i j)) H) : rMax2 [V.int i, V.int j] H Q := ⟨i, j, rfl, by
  have e : (if j > i then j else i) = max i j := by split <;> omega
  rw [e]; exact q⟩
theorem minI {j : Int} (q : Q (.int (min i j)) H) : rMin2 [V.int i, V.int j] H Q := ⟨i, j, rfl, by
  have e : (if j < i then j else i) = min i j := by split <;> omega
  rw [e]; exact q⟩
def rStrI : List V → Hp → VK → Prop := fun xs H Q => ∃ i : Int, xs = [.int i] ∧ i.natAbs.log2 < 1920 ∧ Q (.str (toString i)) H
theorem c_str {X : Cx} : CallR X (.type "str") rStrI := call_str_int
theorem strI (h : i.natAbs.log2 < 1920) (q : Q (.str (toString i)) H) : rStrI [V.int i] H Q := ⟨i, rfl, h, q⟩
def rListOf (K : PySem.W.Frag) : List V → Hp → VK → Prop := fun xs H Q => ∃ p ys, xs = [.ref p] ∧ (SqL K H p ys ∨ SqT K H p ys) ∧ ∀ l, H l = none → Q (.ref l) (upd H l (.lst ys))
theorem c_listOf {X : Cx} : CallR X (.type "list") (rListOf X.K) := call_list_of
theorem listL (h : SqL K H p xs) (q : ∀ l, H l = none → Q (.ref l) (upd H l (.lst xs))) : rListOf K [V.ref p] H Q := ⟨p, xs, rfl, .inl h, q⟩
theorem listT (h : SqT K H p xs) (q : ∀ l, H l = none → Q (.ref l) (upd H l (.lst xs))) : rListOf K [V.ref p] H Q := ⟨p, xs, rfl, .inr h, q⟩
def rTupOf (K : PySem.W.Frag) : List V → Hp → VK → Prop := fun xs H Q => ∃ p ys, xs = [.ref p] ∧ ((SqL K H p ys ∧ ∀ l, H l = none → Q (.ref l) (upd H l (.tup ys))) ∨ (SqT K H p ys ∧ Q (.ref p) H))
theorem c_tupOf {X : Cx} : CallR X (.type "tuple") (rTupOf X.K) := call_tuple_of
theorem tupL (h : SqL K H p xs) (q : ∀ l, H l = none → Q (.ref l) (upd H l (.tup xs))) : rTupOf K [V.ref p] H Q := ⟨p, xs, rfl, .inl ⟨h, q⟩⟩
def rOrd : List V → Hp → VK → Prop := fun xs H Q => ∃ x : Str, xs = [.str x] ∧ x.length = 1 ∧ Q (.int (x.cps.getD 0 0 : Nat)) H
theorem c_ord {X : Cx} : CallR X (.builtin "ord") rOrd := call_ord
theorem ordS {z : Str} (h : z.length = 1) (q : Q (.int (z.cps.getD 0 0 : Nat)) H) : rOrd [V.str z] H Q := ⟨z, rfl, h, q⟩
def rDivmod : List V → Hp → VK → Prop := fun xs H Q => ∃ i j, xs = [.int i, .int j] ∧ CDiv i j ∧ ∀ p, H p = none → Q (.ref p) (upd H p (.tup [.int (i / j), .int (i % j)]))
theorem c_divmod {X : Cx} : CallR X (.builtin "divmod") rDivmod := call_divmod
theorem sql {H' : Hp} {a : Addr} (e : Same H H') (h : SqL K H a xs) : SqL K H' a xs := e.seq h
theorem at_ints {ns : List Int} (h0 : 0 ≤ i) (h1 : i < (ns.length : Int)) : atI (ns.map V.int) i = some (.int (ns.getD i.toNat 0)) := by
  have e : i = ((i.toNat : Nat) : Int) := (Int.toNat_of_nonneg h0).symm
  rw [e]
  refine atI_nat ?_
  have hl : i.toNat < ns.length := by omega
  rw [List.getElem?_map, List.getElem?_eq_getElem hl, Int.toNat_natCast, List.getD_eq_getElem?_getD, List.getElem?_eq_getElem hl]
  rfl
end
end WP
namespace WP
open PySem PySem.Spec PyProof.Rows L2
section
variable {X : Cx}
theorem cut {t u : TS} {D : Ends} {σ : L2.St} {H : Hp} (Mid : L2.St → Hp → Prop) (h : t { D with nx := Mid } σ H) (k : ∀ σ' H', Mid σ' H' → u D σ' H') : Evl.tCut t u D σ H := ⟨Mid, h, k⟩
end
/-! ### == of data -/
section
variable {K : PySem.W.Frag} {H : Hp} {x y : V} {d e : PyData} {Q : VK}
theorem eqD (a : Dp K H x d) (b : Dp K H y e) (h : Q (.bl (PyData.eqv d e)) H) (s1 : SeqAt.shaped d = true := by first | rfl | decide +kernel) (s2 : SeqAt.shaped e = true := by first | rfl | decide +kernel) : rEqD K x y H Q := ⟨d, e, a, b, s1, s2, h⟩
theorem neD (a : Dp K H x d) (b : Dp K H y e) (h : Q (.bl (!PyData.eqv d e)) H) (s1 : SeqAt.shaped d = true := by first | rfl | decide +kernel) (s2 : SeqAt.shaped e = true := by first | rfl | decide +kernel) : rNeD K x y H Q := ⟨d, e, a, b, s1, s2, h⟩
theorem dpv {p : Addr} {u : Int} {s : Nat} (h : SqT K H p (dv u s)) : Dp K H (.ref p) (.tuple [.int u, .int (s : Int)]) := .tup h (.cons (.int _) (.cons (.int _) .nil))
end
end WP
namespace WP
open PySem PySem.Spec PyProof.Rows L2
abbrev MG := Str → Option Value
/-- the address that a module's name holds -/
def ca (mg : MG) (nm : Str) : Addr := match mg nm with
  | some (.ref a) => a
  | _ => 0
theorem ca_of {mg : MG} {nm : Str} {a : Addr} (h : mg nm = some (.ref a)) : ca mg nm = a := by unfold ca; rw [h]
/-! ### own exceptions without an __init__ of their own -/
structure ExcAt (K : PySem.W.Frag) (C : Addr) : Prop where
  x : PySem.W.excIn K C [.type "ValueError", .type "Exception", .type "BaseException", .type "object"] "ValueError.__new__" = true
  k : PySem.W.keepIn K (.ref C) = true
  t : PySem.W.typeIn K (.ref C) = some (.type "type")
  c : ExcC K C
structure ExcOk (K : PySem.W.Frag) (mg : MG) (nm : Str) : Prop where
  m : mg nm = some (.ref (ca mg nm))
  a : ExcAt K (ca mg nm)
theorem ExcOk.mk' {K : PySem.W.Frag} {mg : MG} {nm : Str} {C : Addr} (h : mg nm = some (.ref C)) (x : ExcAt K C) : ExcOk K mg nm := by
  have e := ca_of h
  exact ⟨by rw [e]; exact h, by rw [e]; exact x⟩
theorem ExcAt.raises {X : Cx} {C : Addr} (x : ExcAt X.K C) : Raises X (.ref C) := raises_own x.c.hs x.t
theorem ExcAt.catches {K : PySem.W.Frag} {C : Addr} (x : ExcAt K C) {cls : Value} {b : Bool} (h : PySem.W.subIn K cls (.ref C) = some b) : PySem.W.exmOne K cls (.ref C) = some b := PySem.W.exm_ref x.c.hs x.c.hd x.t h
section
variable {X : Cx} {x m : Str} {j : Nat} {p p2 pos pos2 : Pos} {W : WX}
theorem ps_raiseC (hc : X.calm = true) (tk : Takes X W) (e : ExcOk X.K X.mg x) (hg : Gl X x) (hdb : (x == ("__debug__" : Str)) = false := by decide) :
    PS X (.Raise (some (.Call (.Name x p) [.Constant (.str m) j p2] [] pos)) none pos2) (fun _ σ H => W (.ref (ca X.mg x)) none σ H) :=
  ps_raise hc tk (pmk_own PySem.F.excBase_ValueError e.a.x e.m e.a.k e.a.raises hg hdb)
end
/-- isinstance of the caught error -/
def rIsX (K : PySem.W.Frag) (a : Addr) (cls : Value) (d : Option Addr) : List V → Hp → VK → Prop := fun xs H Q => ∃ D, cls = .ref D ∧ d = none ∧ ExcC K D ∧ rIsE K D a xs H Q
theorem call_isX {X : Cx} {a : Addr} {oe : Obj} {cls : Value} {d : Option Addr} {pn : List (Addr × Obj)} (hz : Zc cls d oe) (hf : ∃ vs, oe.data = .fields vs) : CallR (X.suite a ((a, oe) :: pn)) (.builtin "isinstance") (rIsX X.K a cls d) := by
  intro pins s σ H xs us Q I r h
  obtain ⟨D, rfl, rfl, c, h⟩ := h
  exact call_isE c hz hf pins s σ H xs us Q I r h
theorem isX {K : PySem.W.Frag} {a D C : Addr} {b : Bool} {H : Hp} {Q : VK} (c : ExcC K D) (h : PySem.W.kitOne K (.ref D) (.ref C) = some b) (q : Q (.bl b) H) : rIsX K a (.ref D) none [.ref a, .ref C] H Q :=
  ⟨D, rfl, rfl, c, .ref C, .ref C, b, rfl, fun _ r => r, h, q⟩
section
variable {X : Cx} {CX' : CXT} {k j : Nat} {ps : List Str} {sp : Sp} {E : L2.St → XK} {E0 : XK} {x : Str} {p pos : Pos} {e : Expr} {es : List Expr} {t : TA}
theorem pe_callSC (C : Callee X.prog X.w X.K X.mg X.base (L2.CX X.prog X.w) k x ps sp) (hr : Room j X.A) (hg : Gl X x) (hx : ∀ σ, PassesAt (L2.CX X.prog X.w) X σ (E σ)) (ha : PA X (e :: es) t) (hl : k ≤ j := by decide)
    (hdb : (x == ("__debug__" : Str)) = false := by decide) (he : starEach (e :: es) X.env = (false, eval e X.env) :: starEach es X.env := by rfl) (hpl : (backTo pos (starEach es X.env)).any (·.1) = false := by rfl) :
    PE X (.Call (.Name x p) (e :: es) [] pos) (tCallS sp E t) := by
  obtain ⟨f, fd, F, hm, hk, hb⟩ := C.ex
  exact pe_callS F (hr.mono hl) hg hm hk hb hx ha hdb he hpl
/-- what a callee lets out leaves this def too -/
theorem passX {E : XK} {E₁ : Value → Shared → Prop} (hs : X.stack = X.env :: X.outer) (hf : X.env.frame = some X.env.locals) (hex : X.ex = [])
    (hx : X.xe = fun e s' => wpAny (model X.prog X.w) X.A (leaving X.env e) (fun _ s'' => L2.CX X.prog X.w X.outer X.H_0 X.s_0 E e s'') E₁ s') : Passes (L2.CX X.prog X.w) X E :=
  fun pins σ H s e s' I c => passes_call (takes_of hs hf hex hx) (fun _ _ _ _ z => z) pins σ H s e s' I c
end
theorem callS {sp : Sp} {E : L2.St → XK} {a : TA} {σ : L2.St} {H : Hp} {Q : VK} (h : a σ H fun vs H1 => sp vs H1 Q (E σ)) : tCallS sp E a σ H Q := h
end WP
namespace WP
open PySem PySem.Spec PyProof.Rows L2
def rDivmodW : List V → Hp → VK → Prop := fun xs H Q => ∃ i j, xs = [.int i, .int j] ∧ CDivP i j ∧ ∀ p, H p = none → Q (.ref p) (upd H p (.tup [.int (i / j), .int (i % j)]))
theorem c_divmodW {X : Cx} : CallR X (.builtin "divmod") rDivmodW := call_divmodW
theorem Bt.p {i j : Int} {a : Nat} (h : Bt i a) (hj : 0 < j) (l : a ≤ 4000 := by omega) : CDivP i j := divp_ok hj (by have := intBits_le h; omega)
theorem divW {i j : Int} {H : Hp} {Q : VK} (c : CDivP i j) (q : ∀ p, H p = none → Q (.ref p) (upd H p (.tup [.int (i / j), .int (i % j)]))) : rDivmodW [.int i, .int j] H Q := ⟨i, j, rfl, c, q⟩
end WP

namespace MD
open WP
/-- the least scale: zeros at the end are dropped -/
def nrm : Int → Nat → Int × Nat
  | u, 0 => (u, 0)
  | u, s + 1 => if u % 10 = 0 then nrm (u / 10) s else (u, s + 1)
theorem nrm_le : ∀ (s : Nat) (u : Int), (nrm u s).2 ≤ s
  | 0, u => Nat.le_refl _
  | s + 1, u => by
    unfold nrm
    split
    · exact Nat.le_succ_of_le (nrm_le s _)
    · exact Nat.le_refl _
theorem nrm_val : ∀ (s : Nat) (u : Int), (nrm u s).1 * 10 ^ (s - (nrm u s).2) = u
  | 0, u => by unfold nrm; simp
  | s + 1, u => by
    unfold nrm
    split
    · rename_i h
      have ih := nrm_val s (u / 10)
      have l := nrm_le s (u / 10)
      have e : s + 1 - (nrm (u / 10) s).2 = (s - (nrm (u / 10) s).2) + 1 := by omega
      rw [e, Int.pow_succ, ← Int.mul_assoc, ih]
      omega
    · simp
/-- a decimal: the scale is the least one -/
def Dec (u : Int) (s : Nat) : Prop := s = 0 ∨ u % 10 ≠ 0
theorem nrm_dec : ∀ (s : Nat) (u : Int), Dec (nrm u s).1 (nrm u s).2
  | 0, u => .inl rfl
  | s + 1, u => by
    unfold nrm
    split
    · exact nrm_dec s _
    · rename_i h; exact .inr h
theorem nrm_self {u : Int} {s : Nat} (h : Dec u s) : nrm u s = (u, s) := by
  cases s with
  | zero => rfl
  | succ s =>
    unfold nrm
    rcases h with h | h
    · cases h
    · rw [if_neg h]
theorem nrm_up : ∀ (m s : Nat) (u : Int), nrm (u * 10 ^ m) (s + m) = nrm u s
  | 0, s, u => by simp
  | m + 1, s, u => by
    have e : u * 10 ^ (m + 1) = u * 10 ^ m * 10 := by rw [Int.pow_succ, Int.mul_assoc]
    rw [← Nat.add_assoc, e]
    show (if (u * 10 ^ m * 10) % 10 = 0 then nrm (u * 10 ^ m * 10 / 10) (s + m) else _) = _
    rw [if_pos (Int.mul_emod_left _ _), Int.mul_ediv_cancel _ (by decide)]
    exact nrm_up m s u
theorem nrm_abs : ∀ (s : Nat) (u : Int), (nrm u s).1.natAbs ≤ u.natAbs
  | 0, u => Nat.le_refl _
  | s + 1, u => by
    unfold nrm
    split
    · have := nrm_abs s (u / 10)
      omega
    · exact Nat.le_refl _
theorem nrm_bt {u : Int} {s a : Nat} (h : Bt u a) : Bt (nrm u s).1 a := h.le (nrm_abs s u)
end MD
namespace MD
theorem nrm_eq (u : Int) (s : Nat) : (nrm u s).1 * 10 ^ s = u * 10 ^ (nrm u s).2 := by
  have h := nrm_val s u
  have l := nrm_le s u
  have e : (10 : Int) ^ s = 10 ^ (s - (nrm u s).2) * 10 ^ (nrm u s).2 := by rw [← Int.pow_add]; congr 1; omega
  rw [e, ← Int.mul_assoc, h]
end MD

namespace WP
open PySem PySem.Spec PyProof.Rows L2
open SX (S S_len S_cat)
section
variable {X : Cx}
theorem pe_strL {x : Str} {j pos} (l : List Nat) (h : x = S l) : PE X (.Constant (.str x) j pos) (tC (.str (S l))) := by subst h; exact pe_str
/-- text * number -/
def rMulS : R2 := fun x y H Q => ∃ (a : Str) (i : Int), x = .str a ∧ y = .int i ∧ MulOk a i ∧ Q (.str (Txt.mul a i)) H
theorem op_mul_str : OpR X (binaryOp .Mult) rMulS := by
  intro pins s σ H x y v u Q I rx ry h
  obtain ⟨a, i, rfl, rfl, hz, q⟩ := h
  obtain ⟨t, rfl⟩ := rx
  obtain ⟨t', rfl⟩ := ry
  exact SB.mul hz fun t' k => ⟨.str _, H, I.tok _, ⟨_, rfl⟩, q⟩
def rAddS : R2 := fun x y H Q => ∃ (a b : Str), x = .str a ∧ y = .str b ∧ a.length + b.length ≤ sizeLine ∧ Q (.str (a ++ b)) H
theorem op_addS : OpR X (binaryOp .Add) rAddS := op_add_str
def rZfill : V → List V → Hp → VK → Prop := fun x xs H Q => ∃ (a : Str) (i : Int), x = .str a ∧ xs = [.int i] ∧ PadOk i = true ∧ Q (.str (Txt.zfill a i)) H
theorem m_zfill : MtR X "str.zfill" rZfill := mt_zfill
def rIntS : List V → Hp → VK → Prop := fun xs H Q => ∃ (a : Str) (n : Int), xs = [.str a] ∧ PySem.intText? a = some n ∧ a.length ≤ 640 ∧ Q (.int n) H
theorem c_intS : CallR X (.type "int") rIntS := call_int_str
end
section
variable {a b l : List Nat} {i : Int} {H : Hp} {Q : VK}
theorem catS (q : Q (.str (S (a ++ b))) H) (h : a.length + b.length ≤ sizeLine := by size_fits) : rAddS (.str (S a)) (.str (S b)) H Q := ⟨_, _, rfl, rfl, by rw [S_len, S_len]; exact h, by rw [S_cat]; exact q⟩
theorem reps1 (c : Nat) : ∀ (k : Nat) (acc : Array Nat), ((List.replicate k #[c]).foldl (· ++ ·) acc) = (acc.toList ++ List.replicate k c).toArray
  | 0, acc => by simp
  | k + 1, acc => by
    rw [List.replicate_succ, List.foldl_cons, reps1 c k]
    simp [List.replicate_succ]
theorem mul_S (c : Nat) (i : Int) : Txt.mul (S [c]) i = S (List.replicate i.toNat c) := by
  unfold Txt.mul
  split
  · rename_i h
    rw [show i.toNat = 0 by omega]; rfl
  · rename_i h
    split
    · rename_i h2
      have : i = 1 := by
        rw [Bool.or_eq_true] at h2
        rcases h2 with h2 | h2
        · exact eq_of_beq h2
        · exact absurd h2 (by rw [S_len]; exact Bool.false_ne_true)
      subst this
      rfl
    · show (⟨(List.replicate i.toNat #[c]).foldl (· ++ ·) #[]⟩ : Str) = _
      rw [reps1]; simp [S]
theorem mulOk1 (c : Nat) {i : Int} (h : i ≤ 100000) (h2 : -100000 ≤ i) : MulOk (S [c]) i := by
  refine ⟨by rw [decide_eq_false (by omega), decide_eq_false (by omega)]; rfl, fun h1 _ => ?_, fun h1 _ => ?_⟩
  · rw [S_len]
    show ¬ (((1 : Nat) : Int) > _)
    have : (1 : Int) ≤ (2 ^ 63 - 1) / i := by
      rw [Int.le_ediv_iff_mul_le (by omega)]; omega
    omega
  · rw [S_len]
    unfold Builtin.Str.tooLong
    exact decide_eq_false (by rw [sizeLine_eq]; show ¬ (1 * i.toNat > _); omega)
theorem mulS {c : Nat} (h : i ≤ 100000) (h2 : -100000 ≤ i) (q : Q (.str (S (List.replicate i.toNat c))) H) : rMulS (.str (S [c])) (.int i) H Q :=
  ⟨_, _, rfl, rfl, mulOk1 c h h2, by rw [mul_S]; exact q⟩
/-- zfill of a text without a sign -/
theorem zfill_S (h : ∀ c, l.head? = some c → c ≠ 43 ∧ c ≠ 45) (hi : 0 ≤ i) : Txt.zfill (S l) i = S (List.replicate (i.toNat - l.length) 48 ++ l) := by
  unfold Txt.zfill
  rw [S_len]
  split
  · rename_i h1
    rw [show i.toNat - l.length = 0 by omega]; rfl
  · unfold PySem.zfilled
    have e : (S l).cps[0]? = l.head? := by simp [S, List.head?_eq_getElem?]
    rw [e]
    have fin : Builtin.Str.padded (S l) (i.toNat - l.length) 0 48 = S (List.replicate (i.toNat - l.length) 48 ++ l) := by
      unfold Builtin.Str.padded
      simp [S]
    split
    · rename_i hc; exact absurd rfl (h _ hc).1
    · rename_i hc; exact absurd rfl (h _ hc).2
    · exact fin
theorem zfillS (h : ∀ c, l.head? = some c → c ≠ 43 ∧ c ≠ 45) (hi : 0 ≤ i) (h2 : i ≤ 100000) (q : Q (.str (S (List.replicate (i.toNat - l.length) 48 ++ l))) H) : rZfill (.str (S l)) [.int i] H Q :=
  ⟨_, _, rfl, rfl, by unfold PadOk fitsSsize; rw [decide_eq_false (by omega), decide_eq_false (by omega)]; unfold Builtin.Str.tooLong; rw [decide_eq_false (by rw [sizeLine_eq]; omega)]; rfl, by rw [zfill_S h hi]; exact q⟩
theorem lenS' (h : l.length ≤ sizeLine) (q : Q (.int (l.length : Int)) H) {K : PySem.W.Frag} : rLen K [V.str (S l)] H Q := ⟨_, _, rfl, ⟨by rw [S_len]; exact h, rfl⟩, by rw [S_len]; exact q⟩
theorem strN {n : Nat} (h : n.log2 < 1920) (q : Q (.str (S (TL.numL n))) H) : rStrI [V.int (n : Int)] H Q := ⟨_, rfl, by rw [Int.natAbs_natCast]; exact h, by
  have e : Str.ofString (toString ((n : Nat) : Int)) = S (TL.numL n) := SX.num_S n
  rw [e]; exact q⟩
theorem intSd (h : l.all (fun c => decide (48 ≤ c) && decide (c ≤ 57)) = true) (hne : l ≠ []) (hl : l.length ≤ 640) (q : Q (.int ((NumText.digitsVal l : Nat) : Int)) H) : rIntS [V.str (S l)] H Q :=
  ⟨_, _, rfl, SX.int_S h hne (by omega), by rw [S_len]; exact hl, q⟩
theorem slS {lo hi : Option Int} (z : Str) (h : z.length ≤ sizeLine) (q : Q (.str (Txt.slice z lo hi)) H) : rSlS (.str z) lo hi H Q := ⟨z, rfl, h, by rw [C8.cutS_slice]; exact q⟩
theorem slTo (hi : 0 ≤ i) (h : l.length ≤ sizeLine) (q : Q (.str (S (l.take i.toNat))) H) : rSlS (.str (S l)) none (some i) H Q := slS _ (by rw [S_len]; exact h) (by rw [SX.slice_to hi]; exact q)
theorem slFrom (hi : 0 ≤ i) (h : l.length ≤ sizeLine) (q : Q (.str (S (l.drop i.toNat))) H) : rSlS (.str (S l)) (some i) none H Q := slS _ (by rw [S_len]; exact h) (by rw [SX.slice_from hi]; exact q)
/-- an index from the end -/
theorem idx_neg_hi {l1 : Option Int} {n : Nat} {i : Int} (h : i < 0) (h2 : 0 ≤ i + n) : Builtin.Str.strSliceIndices l1 (some i) 1 n = Builtin.Str.strSliceIndices l1 (some (i + n)) 1 n := by
  have h1 : ¬ (i + n < 0) := by omega
  simp only [Builtin.Str.strSliceIndices, h, h1, if_false, if_true]
theorem idx_neg_lo {l1 : Option Int} {n : Nat} {i : Int} (h : i < 0) (h2 : 0 ≤ i + n) : Builtin.Str.strSliceIndices (some i) l1 1 n = Builtin.Str.strSliceIndices (some (i + n)) l1 1 n := by
  have h1 : ¬ (i + n < 0) := by omega
  simp only [Builtin.Str.strSliceIndices, h, h1, if_false, if_true]
theorem slice_toN (h : i < 0) (h2 : 0 ≤ i + (l.length : Int)) : Txt.slice (S l) none (some i) = S (l.take (i + (l.length : Int)).toNat) := by
  rw [← SX.slice_to h2]
  unfold Txt.slice
  rw [S_len, idx_neg_hi h h2]
theorem slice_fromN (h : i < 0) (h2 : 0 ≤ i + (l.length : Int)) : Txt.slice (S l) (some i) none = S (l.drop (i + (l.length : Int)).toNat) := by
  rw [← SX.slice_from h2]
  unfold Txt.slice
  rw [S_len, idx_neg_lo h h2]
theorem slToN (hi : i < 0) (h2 : 0 ≤ i + (l.length : Int)) (h : l.length ≤ sizeLine) (q : Q (.str (S (l.take (i + (l.length : Int)).toNat))) H) : rSlS (.str (S l)) none (some i) H Q := slS _ (by rw [S_len]; exact h) (by rw [slice_toN hi h2]; exact q)
theorem slFromN (hi : i < 0) (h2 : 0 ≤ i + (l.length : Int)) (h : l.length ≤ sizeLine) (q : Q (.str (S (l.drop (i + (l.length : Int)).toNat))) H) : rSlS (.str (S l)) (some i) none H Q := slS _ (by rw [S_len]; exact h) (by rw [slice_fromN hi h2]; exact q)
theorem eqTS {a b : List Nat} (h : Q (.bl (decide (a = b))) H) : rEq (.str (S a)) (.str (S b)) H Q := ⟨rfl, by
  have e : decide ((S a : Str) = S b) = decide (a = b) := by
    by_cases h : a = b
    · subst h; rw [decide_eq_true rfl, decide_eq_true rfl]
    · rw [decide_eq_false h, decide_eq_false fun z => h (SX.S_inj z)]
  rw [dec_str, e]; exact h⟩
theorem neTS {a b : List Nat} (h : Q (.bl (!decide (a = b))) H) : rNe (.str (S a)) (.str (S b)) H Q := ⟨rfl, by
  have e : decide ((S a : Str) = S b) = decide (a = b) := by
    by_cases h : a = b
    · subst h; rw [decide_eq_true rfl, decide_eq_true rfl]
    · rw [decide_eq_false h, decide_eq_false fun z => h (SX.S_inj z)]
  rw [dec_str, e]; exact h⟩
/-- range with a step -/
theorem rng3 {ta : TA} {σ : L2.St} {R : It → Hp → Prop} (h : ta σ H fun vs H1 => ∃ (i j c : Int) (n : Nat), vs = [.int i, .int j, .int c] ∧ RgC i j c n ∧ R (Itc i c n) H1) : iRng3 ta σ H R := h
end
/-! ### the figures of a number -/
/-- k figures of n -/
def padL : Nat → Nat → List Nat
  | 0, _ => []
  | k + 1, n => padL k (n / 10) ++ [48 + n % 10]
theorem padL_len : ∀ k n, (padL k n).length = k
  | 0, _ => rfl
  | k + 1, n => by unfold padL; rw [List.length_append, padL_len]; rfl
theorem numL_app : ∀ (k q r : Nat), 0 < q → r < 10 ^ k → TL.numL (q * 10 ^ k + r) = TL.numL q ++ padL k r
  | 0, q, r, _, hr => by
    have : r = 0 := by simp at hr; exact hr
    subst this
    simp [padL]
  | k + 1, q, r, hq, hr => by
    have e10 : 10 ^ (k + 1) = 10 ^ k * 10 := Nat.pow_succ ..
    have hp : 0 < 10 ^ k := Nat.pow_pos (by decide)
    have b : 10 ≤ q * 10 ^ (k + 1) + r := by
      have : 1 * 10 ^ (k + 1) ≤ q * 10 ^ (k + 1) := Nat.mul_le_mul_right _ hq
      omega
    have d : (q * 10 ^ (k + 1) + r) / 10 = q * 10 ^ k + r / 10 := by
      rw [e10, ← Nat.mul_assoc]; omega
    have m : (q * 10 ^ (k + 1) + r) % 10 = r % 10 := by
      rw [e10, ← Nat.mul_assoc]; omega
    rw [TL.numL_step b, d, m, numL_app k q (r / 10) hq (by omega)]
    rw [show padL (k + 1) r = padL k (r / 10) ++ [48 + r % 10] from rfl, List.append_assoc]
theorem padL_zero : ∀ k, padL k 0 = List.replicate k 48
  | 0 => rfl
  | k + 1 => by unfold padL; rw [show 0 / 10 = 0 from rfl, padL_zero k, List.replicate_succ']
theorem padL_num : ∀ (k n : Nat), 0 < k → n < 10 ^ k → padL k n = List.replicate (k - (TL.numL n).length) 48 ++ TL.numL n
  | k + 1, n, _, h => by
    by_cases c : n < 10
    · rw [TL.numL_lt c]
      unfold padL
      rw [show n / 10 = 0 by omega, padL_zero, show n % 10 = n by omega]
      rfl
    · have hk : 0 < k := by
        rcases k with _ | k
        · simp at h; omega
        · omega
      have e10 : 10 ^ (k + 1) = 10 ^ k * 10 := Nat.pow_succ ..
      rw [TL.numL_step (by omega)]
      unfold padL
      rw [padL_num k (n / 10) hk (by omega), List.length_append, List.append_assoc]
      congr 2
      simp
theorem numL_head {n c : Nat} (h : (TL.numL n).head? = some c) : c ≠ 43 ∧ c ≠ 45 := by
  have m : c ∈ TL.numL n := List.mem_of_head? h
  have := TL.numL_digits n c m
  omega
theorem digits_rep (n : Nat) : NumText.digitsVal (49 :: List.replicate n 48) = 10 ^ n := by
  unfold NumText.digitsVal
  rw [List.foldl_cons]
  have : ∀ (n a : Nat), (List.replicate n 48).foldl (fun acc c => acc * 10 + (c - 48)) a = a * 10 ^ n := by
    intro n
    induction n with
    | zero => intro a; simp
    | succ n ih => intro a; rw [List.replicate_succ, List.foldl_cons, ih, Nat.pow_succ]; rw [Nat.sub_self, Nat.add_zero, Nat.mul_assoc, Nat.mul_comm 10]
  rw [this]; simp
end WP
namespace WP
open PySem PySem.Spec PyProof.Rows L2
section
variable {K : PySem.W.Frag} {σ : L2.St} {H : Hp} {Q : VK} {x v : V} {p : Addr} {xs : List V}
theorem bm {T : String} {r : V → List V → Hp → VK → Prop} {to : TE} {t : TA} (h : to σ H fun x H1 => tyV K T x H1 ∧ t σ H1 fun xs H2 => r x xs H2 Q) : tBM K T r to t σ H Q := h
theorem tyS {z : Str} {A : Prop} (q : A) : tyV K "str" (.str z) H ∧ A := ⟨rfl, q⟩
theorem gsub {to ti : TE} {t : TSet} {QS : L2.St → Hp → Prop} (h : to σ H fun o H1 => ti σ H1 fun i H2 => t o i v H2 fun H3 => QS σ H3) : gSub to ti t v σ H QS := h
theorem setL {k : Int} {j : Nat} {R : Hp → Prop} (hp : H p = some (.lst xs)) (hj : ixN xs.length k = some j) (q : R (upd H p (.lst (xs.set j v)))) : rSetL (.ref p) (.int k) v H R := ⟨p, xs, k, j, rfl, rfl, hp, hj, q⟩
theorem appL (hp : H p = some (.lst xs)) (hz : xs.length < sizeLine) (q : Q .non (upd H p (.lst (xs ++ [v])))) : rAppend (.ref p) [v] H Q := ⟨p, xs, v, rfl, rfl, hp, hz, q⟩
theorem tyL {A : Prop} (hp : SqL K H p xs) (q : A) : tyV K "list" (.ref p) H ∧ A := ⟨.inl ⟨rfl, xs, hp⟩, q⟩
theorem tyT (h : SqT K H p xs) : TyX K H (.ref p) (.type "tuple") := by
  rcases h with (h | ⟨o, h⟩) | h
  · exact .base (.tup h)
  · exact .fTuple h
  · obtain ⟨o, its, n, h1, h2, h3⟩ := h
    exact .kTuple h1 h2
/-- all objects but the one at d are kept -/
def Sx (d : Addr) (H H' : Hp) : Prop := ∀ a o, a ≠ d → H a = some o → H' a = some o
theorem Sx.refl {d : Addr} {H : Hp} : Sx d H H := fun _ _ _ e => e
theorem Sx.trans {d : Addr} {H H' H2 : Hp} (h : Sx d H H') (k : Sx d H' H2) : Sx d H H2 := fun a o n e => k a o n (h a o n e)
theorem Sx.of {d : Addr} {H H' : Hp} (h : Same H H') : Sx d H H' := fun a o _ e => h a o e
theorem Sx.upd {d : Addr} {H : Hp} {o : HO} : Sx d H (upd H d o) := fun a u n e => by rw [upd_ne n]; exact e
theorem sqtX {d : Addr} {H H' : Hp} {ys : List V} (e : Sx d H H') (hd : H d = some (.lst ys)) (h : SqT K H p xs) : SqT K H' p xs := by
  rcases h with (h | ⟨o, h⟩) | h
  · exact .inl (.inl (e _ _ (fun z => by rw [z, hd] at h; cases h) h))
  · exact .inl (.inr ⟨o, e _ _ (fun z => by rw [z, hd] at h; cases h) h⟩)
  · exact .inr h
end
end WP
namespace WP
theorem log2_lt {n k : Nat} (hk : 0 < k) (h : n < 2 ^ k) : n.log2 < k := by
  by_cases z : n = 0
  · subst z; exact hk
  · exact (Nat.log2_lt z).mpr h
end WP
namespace WP
open PySem PySem.Spec PyProof.Rows L2
theorem ifSS {c : Prop} [Decidable c] {a b : List Nat} {σ : L2.St} {H : Hp} {Q : VK} (q : Q (.str (SX.S (if c then a else b))) H) : if decide c = true then tC (.str (SX.S a)) σ H Q else tC (.str (SX.S b)) σ H Q := by
  by_cases h : c
  · rw [if_pos (decide_eq_true h)]; rw [if_pos h] at q; exact q
  · rw [if_neg (by rw [decide_eq_false h]; exact Bool.false_ne_true)]; rw [if_neg h] at q; exact q
end WP
namespace WP
open PySem PySem.Spec PyProof.Rows L2
section
variable {K : PySem.W.Frag} {H H' : Hp} {a d : Addr} {xs : List V}
theorem sqlX (e : Sx d H H') (n : a ≠ d) (h : SqL K H a xs) : SqL K H' a xs := by
  rcases h with (h | ⟨o, h⟩) | h
  · exact .inl (.inl (e _ _ n h))
  · exact .inl (.inr ⟨o, e _ _ n h⟩)
  · exact .inr h
end
end WP
namespace WP
open PySem PySem.Spec PyProof.Rows L2
/-- a text that may stand in data -/
def SOk (z : Str) : Prop := (PyData.str z).canLay0 = true
theorem SOk.sh {z : Str} (h : SOk z) : SeqAt.shaped (.str z) = true := Bool.and_eq_true_iff.mpr ⟨h, rfl⟩
theorem sok_S {l : List Nat} (h : ∀ c ∈ l, c < 1114112) : SOk (SX.S l) := by
  show (SX.S l).cps.all (· < 0x110000) = true
  rw [← Array.all_toList]
  exact List.all_eq_true.mpr fun c hc => decide_eq_true (h c hc)
end WP
namespace WP
open PySem PySem.Spec PyProof.Rows L2
theorem rg9 {j : Int} (h1 : 1 ≤ j) (h2 : j ≤ 1000) : RgC 0 j 9 ((j - 1) / 9 + 1).toNat := by
  have e : Builtin.Range.rangeSize 0 j 9 = (j - 1) / 9 + 1 := by
    unfold Builtin.Range.rangeSize
    rw [if_pos (by decide), if_pos (by omega), show j - 0 - 1 = j - 1 by omega]
  refine ⟨by decide, by decide, ?_, by rw [e]; omega⟩
  unfold Builtin.Range.small
  rw [e]
  simp only [Builtin.Range.rangeFitsLong, Bool.and_eq_true, Bool.or_eq_true, decide_eq_true_eq, beq_iff_eq]
  simp
  omega
end WP

namespace WJ
open PySem PySem.W PySem.Calls PyProof.Rows PySem.SC
section
variable {prog : Program} {w : World} {A : Around} {E : Value → Shared → Prop} {s : Shared}
/-- x.join(reversed(a list)): the walk backwards is collected, then glued -/
theorem join_rev {x : Str} {t : Tok} {ys : List Str} {it l : Addr} {its : Array Value} {Q : Value → Shared → Prop} (hh : A.handled = none)
    (hi : s.heap.IsRevIter it l ((its.size : Int) - 1)) (hl : s.heap.IsList l its) (ne : l ≠ it) (hn : its.size ≤ sizeLine)
    (hy : ∀ acc : Array Value, ItemsOf (fun i v => its[its.size - 1 - i]? = some v) acc its.size → StrsAre acc.toList ys) (fit : (ys.map (·.length)).sum + ys.length * x.length ≤ 16777216)
    (done : ∀ (h' : Heap) (t' : Tok) (k : Nat), (∀ b o, b ≠ it → s.heap.get? b = some o → h'.get? b = some o) → Q (.str (Txt.join x ys) t') { s with heap := h', toks := k }) :
    wpAny (model prog w) A (call (.builtin "str.join") [.str x t, .ref it]) Q E s := by
  have T : s.TypeIs (.ref it) "list_reverseiterator" := Heap.IsRevIter.typeIs hi
  refine wpAny_call (codeAny_call_builtin F.slot_str_join.plain F.entry_str_join ?_)
  refine F.slot_str_join.check _ _ _ _ _ _ _ _ (typeIs_str _ _ _) (F.args_str_join_2 _ _) ?_
  rw [join_tree_other]
  refine wpAny_bind (wpAny_typeOf T ?_)
  show wpAny _ A.in1 ((pyIter (.ref it)).tryCatch _ >>= fun j => collect j >>= fun zs => joinTail x zs) _ _ s
  refine wpAny_bind (wpAny_tryCatch (wpAny_pyIter_revIter hi ?_))
  refine wpAny_bind (RT.collect_rev hh hi hl ne hn fun h' k acc kept got => ?_)
  obtain ⟨ts, et, ey⟩ := strsAre_values (hy acc got)
  subst ey
  rw [et]
  have ok := joinOk_of fit
  unfold JoinOk at ok
  rw [Bool.not_eq_true'] at ok
  have G : Gives (joinTail x (strValues ts)) (joinMade x ts) := by
    rcases ts with _ | ⟨_, _ | ⟨_, _⟩⟩ <;> exact gives_joinTail x _ ok
  refine G prog w A (wants Q E) { s with heap := h', toks := k } (post_join ts ⟨joinFit_length ok, fun t' k' => ?_⟩)
  exact done h' t' k' kept
end
end WJ
namespace WP
open PySem PySem.Spec PyProof.Rows L2
/-- sep.join(reversed(xs)), xs a list of texts -/
def tJoinRev (K : PySem.W.Frag) (to te : TE) : TE := fun σ H Q => to σ H fun x H1 => (∃ a, x = .str a) ∧ te σ H1 fun v H2 => ∃ (a : Str) (q : Addr) (ys : List Str),
  x = .str a ∧ v = .ref q ∧ SqL K H2 q (ys.map V.str) ∧ ((ys.map (·.length)).sum + ys.length * a.length ≤ 16777216) ∧ Q (.str (Txt.join a ys.reverse)) H2
theorem pe_joinRev {X : Cx} {o e : Expr} {to te : TE} {apos pos p2 pos2 : Pos} (hc : X.calm = true) (ho : PE X o to) (hg : Gl X "reversed") (hm : X.mg "reversed" = none) (he : PE X e te)
    (hs1 : starEach [.Call (.Name "reversed" p2) [e] [] pos2] X.env = [(false, eval (.Call (.Name "reversed" p2) [e] [] pos2) X.env)] := by rfl)
    (hs : starEach [e] X.env = (false, eval e X.env) :: starEach [] X.env := by rfl)
    (hbase : attributeBase o "join" X.env (eval o X.env) = eval o X.env := by rfl) (hline : (apos.endLine == pos.line) = true := by rfl) :
    PE X (.Call (.Attribute o "join" apos) [.Call (.Name "reversed" p2) [e] [] pos2] [] pos) (tJoinRev X.K to te) := by
  refine ⟨fun pins s σ H Q I h => ?_⟩
  refine PySem.Call_method1 hbase hs1 hline (thn (ho.run pins s σ H _ I h) fun v s1 ⟨x, H1, I1, r1, q1⟩ => ?_)
  obtain ⟨⟨a, rfl⟩, q1⟩ := q1
  obtain ⟨t, rfl⟩ := _root_.id r1
  refine ⟨"str", _, F.plainAttrs_str, F.slot_str_join, F.type_str_join, typeIs_str _ _ _, (fun _ e => nomatch e), Calls.callWith_builtin rfl (Calls.evalArgs_plain (Calls.spliced_cons ?_))⟩
  refine Call_ (ld_blt I1 hg hm PyProof.Rows.boot_reversed (PyProof.Rows.callWith_type1 (args_cons (thn (he.run pins s1 σ H1 _ I1 q1) fun u s2 ⟨v2, H2, I2, r2, q2⟩ => args_nil ?_) hs) hs rfl))
  obtain ⟨a', q, ys, ea, ev, hq, hz, q2⟩ := q2
  cases ea
  subst ev
  obtain rfl : u = Value.ref q := r2
  obtain ⟨its, rv, pl, hsz⟩ := I2.list hq
  refine call_reversed_list pl.isList (Calls.spliced_nil ?_)
  have k0 : ∀ b o, s2.heap.get? b = some o → (s2.heap.push (revObj q ((its.toArray.size : Int) - 1))).get? b = some o := fun b o e => Heap.get?_push_of_some _ e
  have I3 : Inv X pins σ H2 { s2 with heap := s2.heap.push (revObj q ((its.toArray.size : Int) - 1)) } := I2.kept (t' := s2.toks) k0
  obtain ⟨f0, f1, f2, f3, f4, f5⟩ := I2.fpOk (H' := H2) (b := s2.heap.objs.size) (Nat.le_refl _) (I2.hok.fresh (Nat.le_refl _))
  have hl := pl.isList
  obtain ⟨ol, hol, _⟩ := _root_.id hl
  refine WJ.join_rev (s := { s2 with heap := s2.heap.push (revObj q ((its.toArray.size : Int) - 1)) }) (ys := ys.reverse) (I2.ok.hd hc) ⟨_, Heap.get?_push_size _ rfl, rfl, rfl⟩ (hl.push _) (Nat.ne_of_lt (Heap.lt_size hol))
    (by rw [List.size_toArray, ← rv.length]; exact hsz) (fun acc hacc => ?_) (by rw [List.map_reverse, List.sum_reverse, List.length_reverse]; exact hz) fun h' t' k hk => ?_
  · have z := RT.vals_rev rv hacc
    rw [← List.map_reverse] at z
    exact strs_of_vals z
  · exact ⟨.str _, H2, I3.turned (t' := k) (fun b o hb e => hk b o hb e) f0 f1 f3 f4 f5, ⟨t', rfl⟩, q2⟩
end WP
namespace WP
open PySem PySem.Spec PyProof.Rows L2
theorem jr {K : PySem.W.Frag} {to te : TE} {σ : L2.St} {H : Hp} {Q : VK} (h : to σ H fun x H1 => (∃ a, x = .str a) ∧ te σ H1 fun v H2 => ∃ (a : Str) (q : Addr) (ys : List Str),
  x = .str a ∧ v = .ref q ∧ SqL K H2 q (ys.map V.str) ∧ ((ys.map (·.length)).sum + ys.length * a.length ≤ 16777216) ∧ Q (.str (Txt.join a ys.reverse)) H2) : tJoinRev K to te σ H Q := h
theorem joinL_nil : ∀ l : List (List Nat), TL.joinL [] l = l.flatten
  | [] => rfl
  | [p] => by simp [TL.joinL]
  | p :: q :: r => by rw [TL.joinL, joinL_nil (q :: r)]; simp
theorem join_nilS (ys : List (List Nat)) : Txt.join (SX.S []) (ys.map SX.S) = SX.S ys.flatten := by rw [SX.join_S, joinL_nil]
end WP

namespace WP
open PySem PySem.Spec PyProof.Rows L2
open SX (S S_len S_cat)
/-! ### tuples and dicts of the module -/
structure KTp (K : PySem.W.Frag) (mg : MG) (nm : Str) (xs : List V) : Prop where
  m : mg nm = some (.ref (ca mg nm))
  s : ∀ H, SqT K H (ca mg nm) xs
theorem KTp.mk' {K : PySem.W.Frag} {mg : MG} {nm : Str} {C : Addr} {xs : List V} (h : mg nm = some (.ref C)) (x : ∀ H, SqT K H C xs) : KTp K mg nm xs := by
  have e := ca_of h
  exact ⟨by rw [e]; exact h, by rw [e]; exact x⟩
structure KDc (K : PySem.W.Frag) (w : World) (mg : MG) (nm : Str) (l : List (Str × V)) : Prop where
  m : mg nm = some (.ref (ca mg nm))
  s : ∀ p ∈ l, KDct K w (ca mg nm) p.1 p.2
theorem KDc.mk' {K : PySem.W.Frag} {w : World} {mg : MG} {nm : Str} {C : Addr} {l : List (Str × V)} (h : mg nm = some (.ref C)) (x : ∀ p ∈ l, KDct K w C p.1 p.2) : KDc K w mg nm l := by
  have e := ca_of h
  exact ⟨by rw [e]; exact h, by rw [e]; exact x⟩
theorem kdc_cons {K : PySem.W.Frag} {w : World} {C : Addr} {k : Str} {v : V} {l : List (Str × V)} (h : KDct K w C k v) (t : ∀ p ∈ l, KDct K w C p.1 p.2) : ∀ p ∈ (k, v) :: l, KDct K w C p.1 p.2 := fun p hp => by
  rcases List.mem_cons.mp hp with e | e
  · subst e; exact h
  · exact t p e
section
variable {X : Cx}
theorem pe_ktup {x : Str} {xs : List V} {pos : Pos} (hg : Gl X x) (h : KTp X.K X.mg x xs) (hd : (x == ("__debug__" : Str)) = false := by decide) : PE X (.Name x pos) (tC (.ref (ca X.mg x))) := pe_glob hg h.m rfl hd
def rUpper : V → List V → Hp → VK → Prop := fun x xs H Q => ∃ a, x = .str a ∧ xs = [] ∧ a.length ≤ 5592405 ∧ Q (.str (Txt.upper a)) H
theorem m_upper : MtR X "str.upper" rUpper := mt_upper
theorem pe_dgetD {o e f : Expr} {td ty tx : TE} {apos cpos : Pos} (hu : X.A.units + 1 < cLine) (ho : PE X o td) (he : PE X e ty) (hf : PE X f tx) (m : M2 X o "get" apos e f cpos) : PE X (.Call (.Attribute o "get" apos) [e, f] [] cpos) (tDGet2 td ty tx) :=
  pe_dget2 hu ho he hf m
end
section
variable {K : PySem.W.Frag} {w : World} {σ : L2.St} {H : Hp} {Q : VK} {l : List Nat} {i : Int} {c : Nat}
theorem ixS1 (a : atI l i = some c) (hz : l.length ≤ sizeLine) (q : Q (.str (S [c])) H) : rIxS (.str (S l)) (.int i) H Q := ⟨S l, i, c, rfl, rfl, by rw [S_len]; exact hz, a, q⟩
theorem wstr {te : TE} {R : It → Hp → Prop} (h : te σ H fun v H1 => ∃ x, v = .str x ∧ R (Its x) H1) : iStr te σ H R := h
theorem upS (h : l.all (· < 128) = true) (hl : l.length ≤ 1000) (q : Q (.str (S (l.map up1))) H) : rUpper (.str (S l)) [] H Q := ⟨_, rfl, rfl, by rw [S_len]; omega, by rw [SX.upper_S h]; exact q⟩
theorem inV_S {s : List Nat} : ∀ {ls : List (List Nat)}, inV (.str (S s)) (ls.map fun a => V.str (S a)) = decide (s ∈ ls)
  | [] => rfl
  | a :: ls => by
    show (eqV (.str (S a)) (.str (S s)) || inV (.str (S s)) (ls.map fun a => V.str (S a))) = _
    rw [inV_S]
    show ((S a == S s) || _) = _
    rw [SX.S_beq_eq]
    by_cases h : a = s
    · subst h; simp
    · rw [decide_eq_false h, Bool.false_or]
      congr 1
      exact propext ⟨fun z => List.mem_cons_of_mem _ z, fun z => by
        rcases List.mem_cons.mp z with z | z
        · exact absurd z.symm h
        · exact z⟩
theorem flat_S : ∀ (ls : List (List Nat)), (ls.map fun a => V.str (S a)).all flatV = true
  | [] => rfl
  | a :: ls => flat_S ls
/-- a text in a tuple, a list of texts -/
theorem inT (ls : List (List Nat)) {p : Addr} {xs : List V} {s : List Nat} (h : SqT K H p xs) (e : xs = ls.map fun a => V.str (S a)) (q : Q (.bl (decide (s ∈ ls))) H) : rIn K false (.str (S s)) (.ref p) H Q := by
  subst e
  exact ⟨p, _, rfl, .inr h, rfl, flat_S ls, by rw [inV_S]; exact q⟩
theorem inL (ls : List (List Nat)) {p : Addr} {xs : List V} {s : List Nat} (h : SqL K H p xs) (e : xs = ls.map fun a => V.str (S a)) (q : Q (.bl (decide (s ∈ ls))) H) : rIn K false (.str (S s)) (.ref p) H Q := by
  subst e
  exact ⟨p, _, rfl, .inl h, rfl, flat_S ls, by rw [inV_S]; exact q⟩
/-- a sign in a text -/
def rInSign : R2 := fun x y H Q => ∃ (c : Nat) (z : Str), x = .str ⟨#[c]⟩ ∧ y = .str z ∧ Q (.bl (decide (c ∈ z.cps.toList))) H
theorem op_inSign {X : Cx} : OpR X (compareOp .In) rInSign := op_in_sign
theorem inSign (q : Q (.bl (decide (c ∈ l))) H) : rInSign (.str (S [c])) (.str (S l)) H Q := ⟨c, S l, rfl, rfl, q⟩
theorem ixK {nm : Str} {mg : MG} {ls : List (Str × V)} {s : Str} {v : V} (h : KDc K w mg nm ls) (m : (s, v) ∈ ls) (q : Q v H) : rIxD K w (.ref (ca mg nm)) (.str s) H Q := ⟨_, _, _, rfl, rfl, h.s _ m, q⟩
/-- displays of one and two pairs -/
theorem disp1 {a : Str} {v : V} (q : ∀ p, H p = none → Q (.ref p) (upd (upd H p (.dK [])) p (.dK [(.inr a, v)]))) : tDisp [(tC (.str a), tC v)] σ H Q := fun p hp =>
  ⟨upd_same, [(.inr a, v)], rfl, show 1 ≤ 15 by decide, q p hp⟩
theorem disp2 {a b : Str} {v u : V} (ne : ¬ a = b) (q : ∀ p, H p = none → Q (.ref p) (upd (upd H p (.dK [])) p (.dK [(.inr a, v), (.inr b, u)]))) : tDisp [(tC (.str a), tC v), (tC (.str b), tC u)] σ H Q := fun p hp =>
  ⟨upd_same, [(.inr a, v), (.inr b, u)], rfl, show 2 ≤ 15 by decide, by
    have e : mergeK [] [((Sum.inr a : Key), v), ((Sum.inr b : Key), u)] = [((Sum.inr a : Key), v), ((Sum.inr b : Key), u)] := by
      show putK (putK ([] : List (Key × V)) (Sum.inr a) v) (Sum.inr b) u = _
      have e1 : putK ([] : List (Key × V)) (Sum.inr a) v = [((Sum.inr a : Key), v)] := rfl
      rw [e1]
      unfold putK
      rw [if_neg (by simp [ne])]
      rfl
    rw [e]; exact q p hp⟩
theorem same_disp {p : Addr} {o u : HO} (hp : H p = none) : Same H (upd (upd H p o) p u) := fun b x e => by
  rw [upd_ne (ne_of_none e hp), upd_ne (ne_of_none e hp)]; exact e
end
end WP
namespace WP
open PySem PySem.Spec PyProof.Rows L2
theorem bm0 {K : PySem.W.Frag} {σ : L2.St} {H : Hp} {Q : VK} {T : String} {r : V → List V → Hp → VK → Prop} {to : TE} (h : to σ H fun x H1 => tyV K T x H1 ∧ r x [] H1 Q) : tBM0 K T r to σ H Q := h
/-- a for over the signs of a text -/
theorem for_txt {l : List Nat} {g : TG} {tb : TS} {D : Ends} {σ : L2.St} {H : Hp} (Pv : Nat → L2.St → Hp → Prop) (h0 : Pv 0 σ H)
    (hs : ∀ i c σ H, l[i]? = some c → Pv i σ H → g (.str (SX.S [c])) σ H fun σ2 H2 => tb { D with nx := Pv (i + 1), ct := Pv (i + 1), bk := D.nx } σ2 H2) (hd : ∀ σ H, Pv l.length σ H → D.nx σ H) :
    ∃ W : Nat → Nat → L2.St → Hp → Prop, (∃ m, W 0 m σ H) ∧ ∀ i m σ H, W i m σ H →
      ((Its (SX.S l)).stop i H ∧ D.nx σ H) ∨ ((Its (SX.S l)).go i H ∧ ∃ N : L2.St → Hp → Prop, (∀ σ' H', N σ' H' → ∃ m', m' < m ∧ W (i + 1) m' σ' H') ∧ ∀ x H', (Its (SX.S l)).yld i H x H' → g x σ H' fun σ2 H2 => tb { D with nx := N, ct := N, bk := D.nx } σ2 H2) := by
  have e : (SX.S l).cps.size = l.length := by simp [SX.S]
  refine for_it walk_str Pv h0 (fun _ _ _ _ _ => True.intro) (fun i x σ H H' hi p y => ?_) fun σ H p => hd σ H (by rw [← e]; exact p)
  obtain ⟨rfl, c, hc, rfl⟩ := y
  refine hs i c σ H' ?_ p
  simpa [SX.S] using hc
end WP
namespace WP
open PySem PySem.Spec PyProof.Rows L2
theorem pe_kdict {X : Cx} {x : Str} {xs : List (Str × V)} {pos : Pos} (hg : Gl X x) (h : KDc X.K X.w X.mg x xs) (hd : (x == ("__debug__" : Str)) = false := by decide) : PE X (.Name x pos) (tC (.ref (ca X.mg x))) := pe_glob hg h.m rfl hd
end WP
namespace WP
open PySem PySem.Spec PyProof.Rows L2
theorem lc {wi : TI} {g : TG} {tt : TT} {te : TE} {vs : List Nat} {σ : L2.St} {H : Hp} {Q : VK} (h : wi σ H fun J H1 => ∀ D, H1 D = none → ∃ W : Nat → Nat → Hp → Prop, (∃ m, W 0 m (upd H1 D (.lst []))) ∧ ∀ i m H, W i m H →
    (J.stop i H ∧ Q (.ref D) H) ∨ (J.go i H ∧ ∃ Nx : Hp → Prop, (∀ H', Nx H' → ∃ m', m' < m ∧ W (i + 1) m' H') ∧ ∀ x H', J.yld i H x H' → g x (wipe σ vs) H' fun σ2 H2 => wipe σ2 vs = wipe σ vs ∧ tt σ2 H2 fun b H3 =>
      if b = true then te σ2 H3 fun y H4 => ∃ acc, H4 D = some (.lst acc) ∧ acc.length < sizeLine ∧ Nx (upd H4 D (.lst (acc ++ [y]))) else Nx H3)) : tLc wi g tt te vs σ H Q := h
theorem lc_txt {l : List Nat} {g : TG} {tt : TT} {te : TE} {vs : List Nat} {σ : L2.St} {H1 : Hp} {D : Addr} {Qd : Hp → Prop} (Pv : Nat → Hp → Prop) (h0 : Pv 0 (upd H1 D (.lst [])))
    (hs : ∀ i c H, l[i]? = some c → Pv i H → g (.str (SX.S [c])) (wipe σ vs) H fun σ2 H2 => wipe σ2 vs = wipe σ vs ∧ tt σ2 H2 fun b H3 =>
      if b = true then te σ2 H3 fun y H4 => ∃ acc, H4 D = some (.lst acc) ∧ acc.length < sizeLine ∧ Pv (i + 1) (upd H4 D (.lst (acc ++ [y]))) else Pv (i + 1) H3) (hd : ∀ H, Pv l.length H → Qd H) :
    ∃ W : Nat → Nat → Hp → Prop, (∃ m, W 0 m (upd H1 D (.lst []))) ∧ ∀ i m H, W i m H →
      ((Its (SX.S l)).stop i H ∧ Qd H) ∨ ((Its (SX.S l)).go i H ∧ ∃ Nx : Hp → Prop, (∀ H', Nx H' → ∃ m', m' < m ∧ W (i + 1) m' H') ∧ ∀ x H', (Its (SX.S l)).yld i H x H' → g x (wipe σ vs) H' fun σ2 H2 => wipe σ2 vs = wipe σ vs ∧ tt σ2 H2 fun b H3 =>
        if b = true then te σ2 H3 fun y H4 => ∃ acc, H4 D = some (.lst acc) ∧ acc.length < sizeLine ∧ Nx (upd H4 D (.lst (acc ++ [y]))) else Nx H3) := by
  have e : (SX.S l).cps.size = l.length := by simp [SX.S]
  refine lc_it walk_str Pv h0 (fun _ _ _ _ => True.intro) (fun i x H H' hi p y => ?_) fun H p => hd H (by rw [← e]; exact p)
  obtain ⟨rfl, c, hc, rfl⟩ := y
  refine hs i c H' ?_ p
  simpa [SX.S] using hc
theorem at_S {ls : List (List Nat)} {i : Int} (h0 : 0 ≤ i) (h1 : i < (ls.length : Int)) : ∃ a ∈ ls, atI (ls.map fun a => V.str (SX.S a)) i = some (.str (SX.S a)) := by
  obtain ⟨j, rfl⟩ : ∃ j : Nat, i = (j : Int) := ⟨i.toNat, by omega⟩
  have hj : j < ls.length := by omega
  exact ⟨ls[j], List.getElem_mem hj, atI_nat (by rw [List.getElem?_map, List.getElem?_eq_getElem hj]; rfl)⟩
end WP
namespace WP
open PySem PySem.Spec PyProof.Rows L2
theorem dget2 {td ty tx : TE} {σ : L2.St} {H : Hp} {Q : VK} (h : td σ H fun x H1 => ∃ a, x = .ref a ∧ IsD H1 a ∧ ty σ H1 fun y H2 => tx σ H2 fun z H3 => ∃ o, DGet H3 a y o ∧ Q (o.getD z) H3) : tDGet2 td ty tx σ H Q := h
theorem dget {td ty : TE} {σ : L2.St} {H : Hp} {Q : VK} (h : td σ H fun x H1 => ty σ H1 fun y H2 => ∃ a v, x = .ref a ∧ DGet H2 a y (some v) ∧ Q v H2) : tDGet td ty σ H Q := h
theorem at_I {ls : List Int} {i : Int} (h0 : 0 ≤ i) (h1 : i < (ls.length : Int)) : ∃ a, atI (ls.map V.int) i = some (.int a) := ⟨_, at_ints h0 h1⟩
theorem valV1 {a c : List Nat} {v : V} : valV [((Sum.inr (SX.S a) : Key), v)] (Sum.inr (SX.S c)) = if a = c then some v else none := by
  by_cases h : a = c
  · subst h; rw [if_pos rfl]; exact valV_pos rfl
  · rw [if_neg h]; exact (valV_neg fun e => h (SX.S_inj (Sum.inr.inj e))).trans valV_nil
theorem valV2 {a b c : List Nat} {v u : V} : valV [((Sum.inr (SX.S a) : Key), v), ((Sum.inr (SX.S b) : Key), u)] (Sum.inr (SX.S c)) = if a = c then some v else if b = c then some u else none := by
  by_cases h : a = c
  · subst h; rw [if_pos rfl]; exact valV_pos rfl
  · rw [if_neg h]; exact (valV_neg fun e => h (SX.S_inj (Sum.inr.inj e))).trans valV1
end WP
namespace WP
open PySem PySem.Spec PyProof.Rows L2
theorem andOr {σ : L2.St} {H : Hp} {Q : VK} {ta tb tc : TE} {x y z : Bool} (ha : ∀ Q : VK, Q (.bl x) H → ta σ H Q) (hb : ∀ Q : VK, Q (.bl y) H → tb σ H Q) (hc : ∀ Q : VK, Q (.bl z) H → tc σ H Q)
    (q : Q (.bl (x && (y || z))) H) : tAndV ta (tOrV tb tc) σ H Q := by
  refine WP.andV (ha _ ⟨x, rfl, ?_⟩)
  cases x with
  | false => exact q
  | true =>
    refine WP.brT rfl (WP.orV (hb _ ⟨y, rfl, ?_⟩))
    cases y with
    | true => exact q
    | false => exact WP.brF rfl (hc _ q)
end WP

namespace MP
open PySem PySem.Spec PyProof.Rows L2
open SX (S)
/-- a picture with digits: a number picture or an edited one -/
inductive Pic where
  | num (sg : Bool) (w f : Nat)
  | ed (body : List Nat) (w f : Nat) (sign : List Nat)
def Pic.wh : Pic → Nat
  | .num _ w _ => w
  | .ed _ w _ _ => w
def Pic.fr : Pic → Nat
  | .num _ _ f => f
  | .ed _ _ f _ => f
def Pic.n (p : Pic) : Nat := p.wh + p.fr
def Pic.sgd : Pic → Bool
  | .num sg _ _ => sg
  | .ed _ _ _ s => !decide (s = [])
/-- the sign as the text is written -/
def Pic.sgn : Pic → List Nat
  | .num sg _ _ => if sg then [43] else []
  | .ed _ _ _ s => s
def Pic.vs : Pic → List V
  | .num sg w f => [.str (S [110, 117, 109, 98, 101, 114]), .bl sg, .int (w : Int), .int (f : Int)]
  | .ed b w f s => [.str (S [101, 100, 105, 116, 101, 100]), .str (S b), .int (w : Int), .int (f : Int), .str (S s)]
/-- z * 9 -/
def isD (c : Nat) : Bool := c == 122 || c == 42 || c == 57
/-- , b 0 / -/
def isI (c : Nat) : Bool := c == 44 || c == 98 || c == 48 || c == 47
def okM (c : Nat) : Bool := isD c || c == 46 || isI c
def signs : List (List Nat) := [[], [45], [43], [46, 45], [46, 43], [99, 114], [100, 98]]
structure Body (b : List Nat) (n : Nat) : Prop where
  hd : ∃ c r, b = c :: r ∧ isD c = true
  ok : ∀ c ∈ b, okM c = true
  ct : (b.filter isD).length = n
  ln : b.length ≤ 60
def Pic.Ok : Pic → Prop
  | .num _ w f => 1 ≤ w + f ∧ w + f ≤ 18
  | .ed b w f s => 1 ≤ w + f ∧ w + f ≤ 18 ∧ Body b (w + f) ∧ s ∈ signs
theorem Pic.Ok.n1 {p : Pic} (h : p.Ok) : 1 ≤ p.n ∧ p.n ≤ 18 := by
  cases p with
  | num sg w f => exact h
  | ed b w f s => exact ⟨h.1, h.2.1⟩
/-- what an inserted mark becomes -/
def insM (c : Nat) : Nat := if c = 98 then 32 else c
def bodyF (fill : Nat) : Bool → List Nat → List Nat → List Nat
  | _, [], _ => []
  | hid, m :: ms, fs =>
    if isD m then
      (match fs with
      | [] => []
      | c :: cs => let h := hid && (!(m == 57)) && (c == 48); (if h then fill else c) :: bodyF fill h ms cs)
    else if m = 46 then 46 :: bodyF fill false ms fs
    else (if hid then fill else insM m) :: bodyF fill hid ms fs
def hd (b : List Nat) : Nat := b.headD 0
def fillOf (b : List Nat) : Nat := if hd b = 42 then 42 else 32
def bodyText (b fs : List Nat) : List Nat := bodyF (fillOf b) (!(hd b == 57)) b fs
def signText (s : List Nat) (neg : Bool) : List Nat :=
  if s = [99, 114] then (if neg then [67, 82] else [32, 32]) else if s = [100, 98] then (if neg then [68, 66] else [32, 32])
  else if s = [] then [] else if neg then [45] else if s = [43] ∨ s = [46, 43] then [43] else [32]
/-- the text of a field -/
def writ : Pic → Int → List Nat
  | .num sg w f, u => signText (if sg then [43] else []) (decide (u < 0)) ++ WP.padL (w + f) u.natAbs
  | .ed b w f s, u => if s = [45] ∨ s = [43] then signText s (decide (u < 0)) ++ bodyText b (WP.padL (w + f) u.natAbs) else bodyText b (WP.padL (w + f) u.natAbs) ++ signText s (decide (u < 0))
def Suits (p : Pic) (u : Int) : Prop := u.natAbs < 10 ^ p.n ∧ (0 ≤ u ∨ p.sgd = true)
instance {p : Pic} {u : Int} : Decidable (Suits p u) := by unfold Suits; infer_instance
end MP
namespace MP
theorem drop_some {l : List Nat} {i c : Nat} (h : l[i]? = some c) : l.drop i = c :: l.drop (i + 1) := by
  obtain ⟨hi, e⟩ := List.getElem?_eq_some_iff.mp h
  rw [List.drop_eq_getElem_cons hi, e]
theorem memD (c : Nat) : decide ([c] ∈ [[122], [42], [57]]) = isD c := by
  unfold isD
  by_cases h1 : c = 122
  · subst h1; rfl
  by_cases h2 : c = 42
  · subst h2; rfl
  by_cases h3 : c = 57
  · subst h3; rfl
  rw [decide_eq_false (by simp [h1, h2, h3])]
  simp [h1, h2, h3]
theorem memH {c : Nat} (h : isD c = true) : decide ([c] ∈ [[122], [42]]) = !(c == 57) := by
  have h' : c = 122 ∨ c = 42 ∨ c = 57 := by simpa [isD, or_assoc] using h
  rcases h' with rfl | rfl | rfl <;> rfl
theorem bodyF_D {fill m : Nat} {hid : Bool} {ms cs : List Nat} {c : Nat} (h : isD m = true) : bodyF fill hid (m :: ms) (c :: cs) = (if (hid && (!(m == 57)) && (c == 48)) = true then fill else c) :: bodyF fill (hid && (!(m == 57)) && (c == 48)) ms cs := by
  rw [bodyF, if_pos h]
theorem bodyF_P {fill : Nat} {hid : Bool} {ms fs : List Nat} : bodyF fill hid (46 :: ms) fs = 46 :: bodyF fill false ms fs := by
  conv => lhs; unfold bodyF
  show (if isD 46 = true then _ else if (46 : Nat) = 46 then _ else _) = _
  rw [if_neg (by decide), if_pos rfl]
theorem bodyF_I {fill m : Nat} {hid : Bool} {ms fs : List Nat} (h : isD m = false) (h2 : m ≠ 46) : bodyF fill hid (m :: ms) fs = (if hid = true then fill else insM m) :: bodyF fill hid ms fs := by
  conv => lhs; unfold bodyF
  show (if isD m = true then _ else if m = 46 then _ else _) = _
  rw [if_neg (by rw [h]; decide), if_neg h2]
end MP
namespace MP
def bodies : List (List Nat) := [[122, 122, 57], [122, 122, 122], [122, 57], [57], [42, 42, 42], [42, 42, 57], [122, 122, 44, 122, 122, 57], [42, 42, 44, 42, 42, 42], [57, 57, 47, 57, 57], [122, 44, 122, 122, 57, 98, 57], [57, 98, 57], [122, 48, 122], [57, 57], [122, 98, 57]]
theorem bodies_ok : ∀ b ∈ bodies, ∀ f < 4, (b ++ [46] ++ [57, 57, 57].take f).head?.any isD = true ∧ (b ++ [46] ++ [57, 57, 57].take f).all okM = true ∧ (b ++ [46] ++ [57, 57, 57].take f).length ≤ 60 ∧
    ((b ++ [46] ++ [57, 57, 57].take f).filter isD).length = (b.filter isD).length + f ∧ 1 ≤ (b.filter isD).length ∧ (b.filter isD).length ≤ 5 ∧ b.head?.any isD = true ∧ b.all okM = true ∧ b.length ≤ 60 := by decide
theorem body_of {b : List Nat} {n : Nat} (h1 : b.head?.any isD = true) (h2 : b.all okM = true) (h3 : b.length ≤ 60) (h4 : (b.filter isD).length = n) : Body b n := by
  refine ⟨?_, fun c hc => List.all_eq_true.mp h2 c hc, h4, h3⟩
  cases b with
  | nil => cases h1
  | cons c r => exact ⟨c, r, rfl, h1⟩
theorem memI (c : Nat) : decide (c ∈ [122, 42, 57]) = isD c := by
  rw [← memD]
  congr 1
  simp
end MP
namespace MP
open PySem PySem.Spec PyProof.Rows L2
open SX (S)
theorem at_w (p : Pic) : atI p.vs (2 : Int) = some (.int (p.wh : Int)) := by cases p <;> exact WP.at2
theorem at_f (p : Pic) : atI p.vs (3 : Int) = some (.int (p.fr : Int)) := by cases p <;> exact WP.at3
/-- picture[1] if picture[0] == 'number' else picture[4] != '' -/
theorem sgdE {K : PySem.W.Frag} {σ : L2.St} {H : Hp} {Q : VK} {i : Nat} {p : Addr} {pic : Pic} (hv : σ[i]? = some (some (.ref p))) (hp : SqT K H p pic.vs) (q : Q (.bl pic.sgd) H) :
    tIf (tTest (tOp rEq (tOp (rIxT K) (tVar i) (tC (.int 0))) (tC (.str (S [110, 117, 109, 98, 101, 114]))))) (tOp (rIxT K) (tVar i) (tC (.int 1))) (tOp rNe (tOp (rIxT K) (tVar i) (tC (.int 4))) (tC (.str (S [])))) σ H Q := by
  refine WP.ifE (WP.test (WP.op (WP.op (WP.var hv (WP.con ?_)))))
  cases pic with
  | num sg a b =>
    refine WP.ixT hp WP.at0 (WP.con (WP.eqTS ?_))
    refine WP.isbV (R := fun b => if b = true then _ else _) ?_
    refine WP.brT (by decide) (WP.op (WP.var hv (WP.con (WP.ixT hp WP.at1 q))))
  | ed m a b s =>
    refine WP.ixT hp WP.at0 (WP.con (WP.eqTS ?_))
    refine WP.isbV (R := fun b => if b = true then _ else _) ?_
    refine WP.brF (by decide) (WP.op (WP.op (WP.var hv (WP.con (WP.ixT hp WP.at4 (WP.con (WP.neTS q)))))))
theorem ten_cast (n : Nat) : ((10 ^ n : Nat) : Int) = (10 : Int) ^ n := by rw [Int.natCast_pow]; rfl
theorem suits_abs {pic : Pic} {u : Int} (h0 : 0 ≤ u) (h : u < 10 ^ pic.n) : Suits pic u := ⟨by have := ten_cast pic.n; omega, .inl h0⟩
end MP
namespace MP
theorem memJ (c : Nat) : decide (c ∈ [44, 98, 48, 47]) = isI c := by
  unfold isI
  by_cases h1 : c = 44
  · subst h1; rfl
  by_cases h2 : c = 98
  · subst h2; rfl
  by_cases h3 : c = 48
  · subst h3; rfl
  by_cases h4 : c = 47
  · subst h4; rfl
  rw [decide_eq_false (by simp [h1, h2, h3, h4])]
  simp [h1, h2, h3, h4]
theorem bodyF_lt (fill : Nat) (hf : fill < 128) : ∀ (ms : List Nat) (hid : Bool) (fs : List Nat), (∀ c ∈ ms, okM c = true) → (∀ c ∈ fs, c < 128) → ∀ c ∈ bodyF fill hid ms fs, c < 128
  | [], hid, fs, _, _, c, hc => by unfold bodyF at hc; cases hc
  | m :: ms, hid, fs, h1, h2, c, hc => by
    have ok := h1 m (.head _)
    have h1' : ∀ c ∈ ms, okM c = true := fun c hc => h1 c (.tail _ hc)
    cases hD : isD m with
    | true =>
      cases fs with
      | nil =>
        unfold bodyF at hc
        rw [if_pos hD] at hc
        cases hc
      | cons d ds =>
        rw [bodyF_D hD] at hc
        have h2' : ∀ c ∈ ds, c < 128 := fun c hc => h2 c (.tail _ hc)
        rcases List.mem_cons.mp hc with e | e
        · rw [e]
          split
          · exact hf
          · exact h2 d (.head _)
        · exact bodyF_lt fill hf ms _ ds h1' h2' c e
    | false =>
      by_cases h46 : m = 46
      · subst h46
        rw [bodyF_P] at hc
        rcases List.mem_cons.mp hc with e | e
        · rw [e]; decide
        · exact bodyF_lt fill hf ms _ fs h1' h2 c e
      · rw [bodyF_I hD h46] at hc
        rcases List.mem_cons.mp hc with e | e
        · rw [e]
          split
          · exact hf
          · have hI : m = 44 ∨ m = 98 ∨ m = 48 ∨ m = 47 := by
              have : (m == 46) = false := beq_eq_false_iff_ne.mpr h46
              simpa [okM, hD, this, isI, or_assoc] using ok
            rcases hI with rfl | rfl | rfl | rfl <;> decide
        · exact bodyF_lt fill hf ms _ fs h1' h2 c e
theorem padL_lt : ∀ (k n c : Nat), c ∈ WP.padL k n → c < 128
  | 0, _, _, h => by cases h
  | k + 1, n, c, h => by
    rcases List.mem_append.mp (show c ∈ WP.padL k (n / 10) ++ [48 + n % 10] from h) with e | e
    · exact padL_lt k _ c e
    · rw [List.mem_singleton.mp e]; omega
theorem signText_lt : ∀ s ∈ signs, ∀ neg : Bool, ∀ c ∈ signText s neg, c < 128 := by decide
theorem writ_ok {pic : Pic} {u : Int} (h : pic.Ok) : WP.SOk (SX.S (writ pic u)) := WP.sok_S fun c hc => by
  have : c < 128 := by
    cases pic with
    | num sg w f =>
      rcases List.mem_append.mp (show c ∈ signText (if sg then [43] else []) (decide (u < 0)) ++ WP.padL (w + f) u.natAbs from hc) with e | e
      · refine signText_lt _ ?_ _ c e
        cases sg
        · exact (show ([] : List Nat) ∈ signs by decide)
        · exact (show ([43] : List Nat) ∈ signs by decide)
      · exact padL_lt _ _ c e
    | ed b w f s =>
      have hb : ∀ c ∈ bodyText b (WP.padL (w + f) u.natAbs), c < 128 := bodyF_lt _ (by unfold fillOf; split <;> decide) _ _ _ h.2.2.1.ok (fun c hc => padL_lt _ _ c hc)
      have hs := signText_lt s h.2.2.2 (decide (u < 0))
      have hc' : c ∈ (if s = [45] ∨ s = [43] then signText s (decide (u < 0)) ++ bodyText b (WP.padL (w + f) u.natAbs) else bodyText b (WP.padL (w + f) u.natAbs) ++ signText s (decide (u < 0))) := hc
      split at hc'
      · rcases List.mem_append.mp hc' with e | e
        · exact hs c e
        · exact hb c e
      · rcases List.mem_append.mp hc' with e | e
        · exact hb c e
        · exact hs c e
  omega
end MP
namespace MP
theorem due_eq {pic : Pic} {u : Int} : (decide ((u.natAbs : Int) < 10 ^ pic.n) && (decide (0 ≤ u) || pic.sgd)) = decide (Suits pic u) := by
  have c := ten_cast pic.n
  have e : ((u.natAbs : Int) < 10 ^ pic.n) ↔ u.natAbs < 10 ^ pic.n := by omega
  rw [Bool.eq_iff_iff, Bool.and_eq_true, Bool.or_eq_true, decide_eq_true_eq, decide_eq_true_eq, decide_eq_true_eq]
  unfold Suits
  rw [e]
end MP

namespace MP
theorem suits_cut {pic : Pic} {u : Int} : Suits pic (if u < 0 ∧ pic.sgd = true then -((u.natAbs : Int) % 10 ^ pic.n) else (u.natAbs : Int) % 10 ^ pic.n) := by
  have c := ten_cast pic.n
  have hT : (0 : Int) < 10 ^ pic.n := Int.pow_pos (by decide)
  have h0 := Int.emod_nonneg (u.natAbs : Int) (show (10 : Int) ^ pic.n ≠ 0 by omega)
  have h1 := Int.emod_lt_of_pos (u.natAbs : Int) hT
  generalize (u.natAbs : Int) % 10 ^ pic.n = x at h0 h1 ⊢
  split
  · rename_i h
    exact ⟨by omega, .inr h.2⟩
  · exact ⟨by omega, .inl h0⟩
end MP

namespace D
open PySem PySem.Spec PyProof.Rows L2
local macro_rules | `(tactic| k_memK) => `(tactic| first
  | (with_reducible refine WP.eqTS ?_) | (with_reducible refine WP.neTS ?_) | (with_reducible refine WP.bm ?_) | (with_reducible refine WP.tyS ?_) | (with_reducible refine WP.gsub ?_) | (with_reducible refine WP.rng3 ?_) | (with_reducible refine WP.wstr ?_) | (with_reducible refine WP.bm0 ?_) | (with_reducible refine WP.lc ?_) | (with_reducible refine WP.jr ?_)
  | (with_reducible refine WP.seq ?_) | (with_reducible refine WP.asg ?_) | (with_reducible refine WP.name ?_)
  | ((with_reducible show tVar _ _ _ _); refine WP.var rfl ?_) | (with_reducible refine WP.con ?_) | (with_reducible refine WP.op ?_) | (with_reducible refine WP.i0 ?_)
  | (with_reducible refine WP.un ?_) | (with_reducible refine WP.rU_ ?_)
  | (with_reducible refine WP.ifS ?_) | (with_reducible refine WP.ifE ?_) | (with_reducible refine WP.test ?_) | (with_reducible refine WP.bt ?_) | (with_reducible refine WP.isbV ?_)
  | (with_reducible refine WP.ret ?_) | (with_reducible refine WP.retN ?_) | (with_reducible refine WP.drop ?_) | (with_reducible refine WP.next ?_) | (with_reducible refine WP.brk ?_) | (with_reducible refine WP.cont ?_)
  | (with_reducible refine WP.cb ?_) | (with_reducible refine WP.call ?_) | (with_reducible refine WP.cons ?_) | (with_reducible refine WP.nil ?_) | (with_reducible refine WP.tup ?_) | (with_reducible refine WP.lst ?_)
  | (with_reducible refine WP.eqI ?_) | (with_reducible refine WP.neI ?_) | (with_reducible refine WP.eqT ?_) | (with_reducible refine WP.neT ?_) | (with_reducible refine WP.eqB ?_) | (with_reducible refine WP.neB ?_)
  | (with_reducible refine WP.notT ?_) | (with_reducible refine WP.andT ?_) | (with_reducible refine WP.orT ?_) | (with_reducible refine WP.andV ?_) | (with_reducible refine WP.orV ?_) | (with_reducible refine WP.notV ?_)
  | (with_reducible refine WP.sl ?_) | (with_reducible refine WP.noPart ?_) | (with_reducible refine WP.part ?_) | (with_reducible refine WP.isi ?_) | (with_reducible refine WP.isbV ?_) | (with_reducible refine WP.gsCons ?_) | (with_reducible refine WP.gsNil ?_) | (with_reducible refine WP.forl ?_) | (with_reducible refine WP.rng1 ?_) | (with_reducible refine WP.rng2 ?_) | (with_reducible refine WP.walkL ?_) | (with_reducible refine WP.walkT ?_))
local macro_rules | `(tactic| k_updF) => `(tactic| repeat k_memK)

def top (i : Nat) : Stmt := PySem.Challenge.pw_cardwright_k12_fields_are_written.main.body.getD i (.Pass ⟨0, 0, 0, 0⟩)
structure Blt (w : World) (K : PySem.W.Frag) (mg : Str → Option Value) : Prop where
  b_abs : mg "abs" = none
  b_bool : mg "bool" = none
  b_int : mg "int" = none
  b_isinstance : mg "isinstance" = none
  b_len : mg "len" = none
  b_max : mg "max" = none
  b_min : mg "min" = none
  b_range : mg "range" = none
  b_str : mg "str" = none
  c_DIGIT_MARKS : WP.KTp K mg "DIGIT_MARKS" [.str (SX.S [122]), .str (SX.S [42]), .str (SX.S [57])]
  c_HIDING_MARKS : WP.KTp K mg "HIDING_MARKS" [.str (SX.S [122]), .str (SX.S [42])]
  c_INSERTED_CHARACTERS : WP.KDc K w mg "INSERTED_CHARACTERS" [(",", .str (SX.S [44])), ("b", .str (SX.S [32])), ("0", .str (SX.S [48])), ("/", .str (SX.S [47]))]
  e_BadPicture : WP.ExcOk K mg "BadPicture"
  e_CardError : WP.ExcOk K mg "CardError"
  s_BadPicture_CardError : PySem.W.subIn K (.ref (WP.ca mg "BadPicture")) (.ref (WP.ca mg "CardError")) = some true
  i_BadPicture_BadPicture : PySem.W.kitOne K (.ref (WP.ca mg "BadPicture")) (.ref (WP.ca mg "BadPicture")) = some true
abbrev s__law_rich : Stmt := top 23
abbrev N__law_rich : List Str := ["cell", "k", "mixed"]
theorem sc__law_rich : FnScope N__law_rich ["cell", "k"] (defScope s__law_rich) := ⟨rfl, rfl, rfl, by decide +kernel, rfl, by decide +kernel, by decide +kernel⟩
def sp__law_rich (K : PySem.W.Frag) (mg : WP.MG) : Sp := fun vs H Q _ => ∃ c k : Int, vs = [.int c, .int k] ∧ ∀ r : Int, 0 ≤ r → Q (.int r) H
section
variable {P : Program} {w : World} {K : PySem.W.Frag} {mg : Str → Option Value} {base : Heap}
theorem ok__law_rich {f : Addr} {fd : FuncData} (F : Fun K "_law_rich" "_law_rich" s__law_rich f fd) (B : Blt w K mg)  : FnOk P w K mg base CX0 1 f fd ["cell", "k"] (sp__law_rich K mg) := by
  refine F.ok sc__law_rich (fun vs H Q E h => ?_) (fun cdv A outer s H vs Q E hr h => ?_)
  · first | (obtain ⟨_, rfl, _⟩ := h; rfl) | (obtain ⟨_, _, rfl, _⟩ := h; rfl) | (obtain ⟨_, _, _, rfl, _⟩ := h; rfl) | (obtain ⟨_, _, _, _, rfl, _⟩ := h; rfl) | (obtain ⟨_, _, _, _, _, rfl, _⟩ := h; rfl) | (obtain ⟨_, _, _, _, _, _, rfl, _⟩ := h; rfl) | (obtain ⟨_, _, _, _, _, _, _, rfl, _⟩ := h; rfl) | (obtain ⟨_, _, _, _, _, _, _, _, rfl, _⟩ := h; rfl) | (obtain ⟨rfl, _⟩ := h; rfl)
  · obtain ⟨c, i, rfl, k⟩ := h
    refine ⟨_, (pss_cons (ps_if (pt_cmpR op_ge (pv 0) (pe_op op_pow pe_int pe_int) (nomark _)) (pss_one (ps_ret (pe_callTy WP.c_int1 (by rfl) B.b_int (by decide +kernel) (pa_cons (pv 0) pa_nil)))) pss_nil)
      (pss_cons (ps_set (i := 2) sc__law_rich.nd rfl (Or.inl rfl) (pe_op op_mod (pe_callTy WP.c_int1 (by rfl) B.b_int (by decide +kernel) (pa_cons (pe_op op_add (pe_op op_add (pe_op op_mul (pv 0) pe_int) (pe_op op_mul (pv 1) pe_int)) pe_int) pa_nil)) pe_int))
      (pss_one (ps_ret (pe_op op_add (pe_op op_mul (pv 2) pe_int) (pe_op op_mod (pe_callTy WP.c_int1 (by rfl) B.b_int (by decide +kernel) (pa_cons (pe_op op_add (pe_op op_mul (pv 2) pe_int) (pv 0)) pa_nil)) pe_int)))))), ?_⟩
    k_updF
    refine WP.iC ⟨by decide, by decide, by decide⟩ ?_
    k_updF
    refine WP.br (fun g => ?_) (fun g => ?_)
    · k_updF
      refine WP.intI (k _ ?_)
      have : (0 : Int) ≤ 10 ^ (18 : Int).toNat := by decide
      omega
    · k_updF
      refine WP.iC (.inr (by decide)) ?_
      k_updF
      refine WP.iC (.inr (by decide)) ?_
      k_updF
      refine WP.intI ?_
      k_updF
      refine WP.iC (by decide) ?_
      k_updF
      refine WP.iC (.inr (by decide)) ?_
      k_updF
      refine WP.iC (.inr (by decide)) ?_
      k_updF
      refine WP.intI ?_
      k_updF
      refine WP.iC (by decide) ?_
      k_updF
      refine k _ ?_
      have h1 := Int.emod_nonneg (c * 48271 + i * 69621 + 11) (show (2147483647 : Int) ≠ 0 by decide)
      have h2 := Int.emod_nonneg ((c * 48271 + i * 69621 + 11) % 2147483647 * 16807 + c) (show (2147483629 : Int) ≠ 0 by decide)
      omega
end
abbrev s__law_picture : Stmt := top 24
abbrev N__law_picture : List Str := ["rich", "choice", "rest", "whole", "body", "fraction", "sign", "digits", "mark"]
theorem sc__law_picture : FnScope N__law_picture ["rich"] (defScope s__law_picture) := ⟨rfl, rfl, rfl, by decide +kernel, rfl, by decide +kernel, by decide +kernel⟩
def sp__law_picture (K : PySem.W.Frag) (mg : WP.MG) : Sp := fun vs H Q _ => ∃ r : Int, vs = [.int r] ∧ (r % 8 = 0 → ∀ n : Nat, 1 ≤ n → n ≤ 12 → WP.RetT [.str (SX.S [116, 101, 120, 116]), .int (n : Int)] H Q) ∧ (r % 8 ≠ 0 → ∀ pic : MP.Pic, pic.Ok → WP.RetT pic.vs H Q)
section
variable {P : Program} {w : World} {K : PySem.W.Frag} {mg : Str → Option Value} {base : Heap}
theorem ok__law_picture {f : Addr} {fd : FuncData} (F : Fun K "_law_picture" "_law_picture" s__law_picture f fd) (B : Blt w K mg)  : FnOk P w K mg base CX0 1 f fd ["rich"] (sp__law_picture K mg) := by
  refine F.ok sc__law_picture (fun vs H Q E h => ?_) (fun cdv A outer s H vs Q E hr h => ?_)
  · first | (obtain ⟨_, rfl, _⟩ := h; rfl) | (obtain ⟨_, _, rfl, _⟩ := h; rfl) | (obtain ⟨_, _, _, rfl, _⟩ := h; rfl) | (obtain ⟨_, _, _, _, rfl, _⟩ := h; rfl) | (obtain ⟨_, _, _, _, _, rfl, _⟩ := h; rfl) | (obtain ⟨_, _, _, _, _, _, rfl, _⟩ := h; rfl) | (obtain ⟨_, _, _, _, _, _, _, rfl, _⟩ := h; rfl) | (obtain ⟨_, _, _, _, _, _, _, _, rfl, _⟩ := h; rfl) | (obtain ⟨rfl, _⟩ := h; rfl)
  · obtain ⟨r, rfl, kT, k⟩ := h
    refine ⟨_, (pss_cons (ps_set (i := 1) sc__law_picture.nd rfl (Or.inl rfl) (pe_op op_mod (pv 0) pe_int))
      (pss_cons (ps_set (i := 2) sc__law_picture.nd rfl (Or.inl rfl) (pe_op op_fdiv (pv 0) pe_int))
      (pss_cons (ps_if (pt_cmpR op_eq (pv 1) pe_int (nomark _)) (pss_one (ps_ret (pe_tup (pa_cons (WP.pe_strL [116, 101, 120, 116] (by decide +kernel)) (pa_cons (pe_op op_add pe_int (pe_op op_mod (pv 2) pe_int)) pa_nil))))) pss_nil)
      (pss_cons (ps_if (pt_cmpR op_lt (pv 1) pe_int (nomark _)) (pss_cons (ps_set (i := 3) sc__law_picture.nd rfl (Or.inl rfl) (pe_op op_mod (pv 2) pe_int))
      (pss_one (ps_ret (pe_tup (pa_cons (WP.pe_strL [110, 117, 109, 98, 101, 114] (by decide +kernel)) (pa_cons (pe_cmpR op_eq (pe_op op_mod (pe_op op_fdiv (pv 2) pe_int) pe_int) pe_int (nomark _)) (pa_cons (pe_callB (WP.c_max2 rfl) (by rfl) B.b_max (by decide +kernel) (pa_cons (pv 3) (pa_cons (pe_op op_sub pe_int (pe_op op_mod (pe_op op_fdiv (pv 2) pe_int) pe_int)) pa_nil))) (pa_cons (pe_op op_mod (pe_op op_fdiv (pv 2) pe_int) pe_int) pa_nil)))))))) pss_nil)
      (pss_cons (ps_set (i := 4) sc__law_picture.nd rfl (Or.inl rfl) (pe_ix ix_list (pe_lst (pa_cons (WP.pe_strL [122, 122, 57] (by decide +kernel)) (pa_cons (WP.pe_strL [122, 122, 122] (by decide +kernel)) (pa_cons (WP.pe_strL [122, 57] (by decide +kernel)) (pa_cons (WP.pe_strL [57] (by decide +kernel)) (pa_cons (WP.pe_strL [42, 42, 42] (by decide +kernel)) (pa_cons (WP.pe_strL [42, 42, 57] (by decide +kernel)) (pa_cons (WP.pe_strL [122, 122, 44, 122, 122, 57] (by decide +kernel)) (pa_cons (WP.pe_strL [42, 42, 44, 42, 42, 42] (by decide +kernel)) (pa_cons (WP.pe_strL [57, 57, 47, 57, 57] (by decide +kernel)) (pa_cons (WP.pe_strL [122, 44, 122, 122, 57, 98, 57] (by decide +kernel)) (pa_cons (WP.pe_strL [57, 98, 57] (by decide +kernel)) (pa_cons (WP.pe_strL [122, 48, 122] (by decide +kernel)) (pa_cons (WP.pe_strL [57, 57] (by decide +kernel)) (pa_cons (WP.pe_strL [122, 98, 57] (by decide +kernel)) pa_nil))))))))))))))) (pe_op op_mod (pv 2) pe_int) (fun _ _ => rfl)))
      (pss_cons (ps_set (i := 5) sc__law_picture.nd rfl (Or.inl rfl) (pe_op op_mod (pe_op op_fdiv (pv 2) pe_int) pe_int))
      (Evl.pss_cut (ps_if (pt_cmpR op_gt (pv 5) pe_int (nomark _)) (pss_one (ps_set (i := 4) sc__law_picture.nd rfl (Or.inl rfl) (pe_op WP.op_addS (pe_op WP.op_addS (pv 4) (WP.pe_strL [46] (by decide +kernel))) (pe_slice sl_str (WP.pe_strL [57, 57, 57] (by decide +kernel)) po_none (po_some (pv 5)))))) pss_nil)
      (pss_cons (ps_set (i := 6) sc__law_picture.nd rfl (Or.inl rfl) (pe_ix ix_list (pe_lst (pa_cons (WP.pe_strL [] (by decide +kernel)) (pa_cons (WP.pe_strL [45] (by decide +kernel)) (pa_cons (WP.pe_strL [43] (by decide +kernel)) (pa_cons (WP.pe_strL [46, 45] (by decide +kernel)) (pa_cons (WP.pe_strL [46, 43] (by decide +kernel)) (pa_cons (WP.pe_strL [99, 114] (by decide +kernel)) (pa_cons (WP.pe_strL [100, 98] (by decide +kernel)) (pa_cons (WP.pe_strL [] (by decide +kernel)) pa_nil))))))))) (pe_op op_mod (pe_op op_fdiv (pv 2) pe_int) pe_int) (fun _ _ => rfl)))
      (pss_cons (ps_set (i := 7) sc__law_picture.nd rfl (Or.inl rfl) (pe_callB WP.c_len (by rfl) B.b_len (by decide +kernel) (pa_cons (pe_lc (own := [("mark", 8)]) (g := gName 8) rfl sc__law_picture.nd (pi_str (pv 4)) (blkOk_by (own := [("mark", 8)]) (N := N__law_picture) (sc := defScope s__law_picture) (by decide +kernel)) (fun _ _ _ _ _ => pg_name (i := 8) sc__law_picture.nd rfl (Or.inl rfl)) (fun _ _ _ _ _ => (pts_one (pt_cmpR WP.op_inSign (pv 8) (WP.pe_strL [122, 42, 57] (by decide +kernel)) rfl))) (fun _ _ _ _ _ => (pv 8))) pa_nil)))
      (Evl.pss_cut (ps_if (PW.pt (pw_and (pt_cmpR op_eq (pv 6) (WP.pe_strL [] (by decide +kernel)) (nomark _)) (pw_and1 (pt_cmpR op_in_seq (pv 4) (pe_lst (pa_cons (WP.pe_strL [57] (by decide +kernel)) (pa_cons (WP.pe_strL [57, 57] (by decide +kernel)) pa_nil))) rfl)))) (pss_one (ps_set (i := 6) sc__law_picture.nd rfl (Or.inl rfl) (WP.pe_strL [45] (by decide +kernel)))) pss_nil)
      (pss_one (ps_ret (pe_tup (pa_cons (WP.pe_strL [101, 100, 105, 116, 101, 100] (by decide +kernel)) (pa_cons (pv 4) (pa_cons (pe_op op_sub (pv 7) (pv 5)) (pa_cons (pv 5) (pa_cons (pv 6) pa_nil)))))))))))))))))), ?_⟩
    k_updF
    refine WP.iC (by decide) ?_
    k_updF
    refine WP.iC ⟨by decide, by decide⟩ ?_
    k_updF
    generalize r / 8 = rest
    refine WP.br (fun c => ?_) (fun c => ?_)
    · k_updF
      refine WP.iC (by decide) ?_
      k_updF
      have h0 := Int.emod_nonneg rest (show (12 : Int) ≠ 0 by decide)
      have h1 := Int.emod_lt_of_pos rest (show (0 : Int) < 12 by decide)
      refine ⟨WP.sz2, ?_⟩
      have := kT c (1 + rest % 12).toNat (by omega) (by omega)
      rw [show (((1 + rest % 12).toNat : Nat) : Int) = 1 + rest % 12 by omega] at this
      exact this.new (Same.refl _)
    have k := k c
    clear kT c
    k_updF
    refine WP.br (fun c => ?_) (fun c => ?_)
    · k_updF
      refine WP.iC (by decide) ?_
      k_updF
      refine WP.iC ⟨by decide, by decide⟩ ?_
      k_updF
      refine WP.iC (by decide) ?_
      k_updF
      refine WP.iC ⟨by decide, by decide⟩ ?_
      k_updF
      refine WP.iC (by decide) ?_
      k_updF
      refine WP.maxI ?_
      k_updF
      refine WP.iC ⟨by decide, by decide⟩ ?_
      k_updF
      refine WP.iC (by decide) ?_
      k_updF
      have h0 := Int.emod_nonneg rest (show (5 : Int) ≠ 0 by decide)
      have h1 := Int.emod_lt_of_pos rest (show (0 : Int) < 5 by decide)
      have h2 := Int.emod_nonneg (rest / 10) (show (3 : Int) ≠ 0 by decide)
      have h3 := Int.emod_lt_of_pos (rest / 10) (show (0 : Int) < 3 by decide)
      generalize rest % 5 = v0 at *
      generalize rest / 10 % 3 = v1 at *
      refine ⟨WP.sz (show 4 ≤ 1000000 by decide), ?_⟩
      obtain ⟨m0, hm0⟩ : ∃ m0 : Nat, max v0 (1 - v1) = (m0 : Int) := ⟨(max v0 (1 - v1)).toNat, by omega⟩
      obtain ⟨m1, hm1⟩ : ∃ m1 : Nat, v1 = (m1 : Int) := ⟨v1.toNat, by omega⟩
      rw [hm0, hm1]
      exact (k (.num (decide (rest / 5 % 2 = 1)) m0 m1) ⟨by omega, by omega⟩).new (Same.refl _)
    k_updF
    refine ⟨WP.sz (show 14 ≤ 1000000 by decide), fun L hL => ?_⟩
    k_updF
    refine WP.iC (by decide) ?_
    obtain ⟨b, hb, eb⟩ := WP.at_S (ls := MP.bodies) (Int.emod_nonneg rest (show (14 : Int) ≠ 0 by decide)) (Int.emod_lt_of_pos rest (show (0 : Int) < 14 by decide))
    refine WP.ixL (SqL.of upd_same) eb ?_
    generalize hH : upd H L _ = H1
    have e1 : Same H H1 := by rw [← hH]; exact WP.same_new hL
    clear hH eb
    k_updF
    refine WP.iC ⟨by decide, by decide⟩ ?_
    k_updF
    refine WP.iC (by decide) ?_
    k_updF
    have f0 := Int.emod_nonneg (rest / 14) (show (4 : Int) ≠ 0 by decide)
    have f1 := Int.emod_lt_of_pos (rest / 14) (show (0 : Int) < 4 by decide)
    obtain ⟨fr, hfr⟩ : ∃ fr : Nat, rest / 14 % 4 = (fr : Int) := ⟨(rest / 14 % 4).toNat, by omega⟩
    rw [hfr] at f0 f1 ⊢
    obtain ⟨q1, q2, q3, q4, q5, q6, q7, q8, q9⟩ := MP.bodies_ok b hb fr (by omega)
    refine WP.cut (fun σ' H' => H' = H1 ∧ ∃ (b' : List Nat) (n : Nat), σ' = [some (.int r), some (.int (r % 8)), some (.int rest), none, some (.str (SX.S b')), some (.int (fr : Int)), none, none, none] ∧ MP.Body b' (n + fr) ∧ 1 ≤ n ∧ n ≤ 5) ?_ ?_
    · k_updF
      refine WP.br (fun c => ?_) (fun c => ?_)
      · k_updF
        refine WP.catS ?_ (by rw [sizeLine_eq]; show _ + 1 ≤ _; omega)
        k_updF
        refine WP.slTo (by omega) (by rw [sizeLine_eq]; decide) ?_
        rw [Int.toNat_natCast]
        refine WP.catS ?_ (by rw [sizeLine_eq, ← List.length_append]; omega)
        k_updF
        exact ⟨rfl, _, _, rfl, MP.body_of q1 q2 q3 q4, q5, q6⟩
      · k_updF
        obtain rfl : fr = 0 := by omega
        exact ⟨rfl, _, _, rfl, MP.body_of q7 q8 q9 rfl, q5, q6⟩
    clear q1 q2 q3 q4 q5 q6 q7 q8 q9 hb
    rintro σ' H' ⟨rfl, b', n, rfl, hB, n1, n5⟩
    k_updF
    refine ⟨WP.sz (show 8 ≤ 1000000 by decide), fun L2 hL2 => ?_⟩
    k_updF
    refine WP.iC ⟨by decide, by decide⟩ ?_
    k_updF
    refine WP.iC (by decide) ?_
    obtain ⟨s, hs, es⟩ := WP.at_S (ls := [[], [45], [43], [46, 45], [46, 43], [99, 114], [100, 98], []]) (Int.emod_nonneg (rest / 56) (show (8 : Int) ≠ 0 by decide)) (Int.emod_lt_of_pos (rest / 56) (show (0 : Int) < 8 by decide))
    refine WP.ixL (SqL.of upd_same) es ?_
    have hs' : s ∈ MP.signs := (show ∀ s ∈ [[], [45], [43], [46, 45], [46, 43], [99, 114], [100, 98], []], s ∈ MP.signs by decide) s hs
    clear hs es
    generalize hH : upd H' L2 _ = H2
    have e2 : Same H H2 := by rw [← hH]; exact e1.trans (WP.same_new hL2)
    clear hH
    k_updF
    refine ⟨_, rfl, fun D hD => WP.lc_txt (fun i Hx => Hx = upd H2 D (.lst (((b'.take i).filter MP.isD).map fun c => V.str (SX.S [c])))) rfl ?_ ?_⟩
    · rintro i c Hx hc rfl
      obtain ⟨hib, hget⟩ := List.getElem?_eq_some_iff.mp hc
      have et : b'.take (i + 1) = b'.take i ++ [c] := by rw [List.take_succ, hc]; rfl
      k_updF
      refine ⟨rfl, ?_⟩
      k_updF
      refine WP.inSign ?_
      rw [MP.memI]
      k_updF
      cases hDc : MP.isD c with
      | true =>
        refine WP.brT rfl ?_
        k_updF
        refine ⟨_, upd_same, ?_, ?_⟩
        · rw [List.length_map, sizeLine_eq]
          have := List.length_filter_le MP.isD (b'.take i)
          have := hB.ln
          rw [List.length_take] at *
          omega
        · rw [et, List.filter_append, List.map_append, show [c].filter MP.isD = [c] by simp [hDc], upd_upd]
          rfl
      | false =>
        refine WP.brF rfl ?_
        rw [et, List.filter_append, show [c].filter MP.isD = [] by simp [hDc], List.append_nil]
    rintro Hx rfl
    have e3 : Same H (upd H2 D (.lst (((b'.take b'.length).filter MP.isD).map fun c => V.str (SX.S [c])))) := e2.trans (WP.same_new hD)
    k_updF
    refine WP.lenL (SqL.of upd_same) ?_
    rw [List.length_map, List.take_length, hB.ct]
    rw [List.take_length] at e3
    generalize upd H2 D _ = H3 at e3 ⊢
    k_updF
    refine WP.cut (fun σ' H' => Same H H' ∧ ∃ (s : List Nat) (z : Option V), σ' = [some (.int r), some (.int (r % 8)), some (.int rest), none, some (.str (SX.S b')), some (.int (fr : Int)), some (.str (SX.S s)), some (.int ((n + fr : Nat) : Int)), z] ∧ s ∈ MP.signs) ?_ ?_
    · k_updF
      refine WP.br (fun c => ?_) (fun c => ?_)
      · k_updF
        refine ⟨WP.sz2, fun L3 hL3 => ?_⟩
        refine WP.inL [[57], [57, 57]] (SqL.of upd_same) rfl ?_
        k_updF
        refine WP.br (fun d => ?_) (fun d => ?_)
        · k_updF
          exact ⟨e3.trans (WP.same_new hL3), [45], _, rfl, by decide⟩
        · k_updF
          exact ⟨e3.trans (WP.same_new hL3), s, _, rfl, hs'⟩
      · refine WP.brF rfl ?_
        k_updF
        exact ⟨e3, s, _, rfl, hs'⟩
    rintro σ' H4 ⟨e4, s, z, rfl, hs'⟩
    k_updF
    refine ⟨WP.sz (show 5 ≤ 1000000 by decide), ?_⟩
    rw [show ((n + fr : Nat) : Int) - (fr : Int) = (n : Int) by omega]
    exact (k (.ed b' n fr s) ⟨by omega, by omega, hB, hs'⟩).new e4
end
abbrev s__law_units : Stmt := top 28
abbrev N__law_units : List Str := ["picture", "rich", "limit", "k", "units", "signed"]
theorem sc__law_units : FnScope N__law_units ["picture", "rich"] (defScope s__law_units) := ⟨rfl, rfl, rfl, by decide +kernel, rfl, by decide +kernel, by decide +kernel⟩
def sp__law_units (K : PySem.W.Frag) (mg : WP.MG) : Sp := fun vs H Q _ => ∃ (p : Addr) (pic : MP.Pic) (r : Int), vs = [.ref p, .int r] ∧ SqT K H p pic.vs ∧ pic.Ok ∧ ∀ u : Int, MP.Suits pic u → Q (.int u) H
section
variable {P : Program} {w : World} {K : PySem.W.Frag} {mg : Str → Option Value} {base : Heap}
theorem ok__law_units {f : Addr} {fd : FuncData} (F : Fun K "_law_units" "_law_units" s__law_units f fd) (B : Blt w K mg)  : FnOk P w K mg base CX0 1 f fd ["picture", "rich"] (sp__law_units K mg) := by
  refine F.ok sc__law_units (fun vs H Q E h => ?_) (fun cdv A outer s H vs Q E hr h => ?_)
  · first | (obtain ⟨_, rfl, _⟩ := h; rfl) | (obtain ⟨_, _, rfl, _⟩ := h; rfl) | (obtain ⟨_, _, _, rfl, _⟩ := h; rfl) | (obtain ⟨_, _, _, _, rfl, _⟩ := h; rfl) | (obtain ⟨_, _, _, _, _, rfl, _⟩ := h; rfl) | (obtain ⟨_, _, _, _, _, _, rfl, _⟩ := h; rfl) | (obtain ⟨_, _, _, _, _, _, _, rfl, _⟩ := h; rfl) | (obtain ⟨_, _, _, _, _, _, _, _, rfl, _⟩ := h; rfl) | (obtain ⟨rfl, _⟩ := h; rfl)
  · obtain ⟨p, pic, r, rfl, hp, ho, k⟩ := h
    refine ⟨_, (pss_cons (ps_set (i := 2) sc__law_units.nd rfl (Or.inl rfl) pe_int)
      (pss_cons (ps_for PassesOwn.never rfl (pi_range1 rfl B.b_range (pa_cons (pe_op op_add (pe_ix ix_tup (pv 0) pe_int (fun _ _ => rfl)) (pe_ix ix_tup (pv 0) pe_int (fun _ _ => rfl))) pa_nil)) (pg_name (i := 3) sc__law_units.nd rfl (Or.inl rfl)) (pss_one (ps_set (i := 2) sc__law_units.nd rfl (Or.inl rfl) (pe_op op_mul (pv 2) pe_int))))
      (pss_cons (ps_set (i := 4) sc__law_units.nd rfl (Or.inl rfl) (pe_op op_mod (pv 1) (pv 2)))
      (Evl.pss_cut (ps_if (pt_cmpR op_eq (pe_op op_mod (pe_op op_fdiv (pv 1) pe_int) pe_int) pe_int (nomark _)) (pss_one (ps_set (i := 4) sc__law_units.nd rfl (Or.inl rfl) (pe_op op_mod (pe_op op_mod (pv 1) pe_int) (pv 2)))) pss_nil)
      (pss_cons (ps_set (i := 5) sc__law_units.nd rfl (Or.inl rfl) (pe_ifExp (pt_cmpR op_eq (pe_ix ix_tup (pv 0) pe_int (fun _ _ => rfl)) (WP.pe_strL [110, 117, 109, 98, 101, 114] (by decide +kernel)) (nomark _)) (pe_ix ix_tup (pv 0) pe_int (fun _ _ => rfl)) (pe_cmpR op_ne (pe_ix ix_tup (pv 0) pe_int (fun _ _ => rfl)) (WP.pe_strL [] (by decide +kernel)) (nomark _))))
      (pss_one (ps_ret (pe_ifExp (PW.pt (pw_and (pt_val (pv 5)) (pw_and1 (pt_cmpR op_eq (pe_op op_mod (pe_op op_fdiv (pv 1) pe_int) pe_int) pe_int (nomark _))))) (pe_un un_neg (pv 4)) (pv 4))))))))), ?_⟩
    have hn := ho.n1
    k_updF
    refine WP.ixT hp (MP.at_w pic) ?_
    k_updF
    refine WP.ixT hp (MP.at_f pic) ?_
    k_updF
    rw [← Int.natCast_add]
    refine ⟨_, rfl, by have : pic.wh + pic.fr ≤ 18 := hn.2; omega, by have : pic.wh + pic.fr ≤ 18 := hn.2; omega, for_range (lo := 0) (n := _) (fun i σ' H' => H' = H ∧ ∃ z, σ' = [some (.ref p), some (.int r), some (.int (10 ^ i)), z, none, none]) ⟨rfl, none, rfl⟩ ?_ ?_⟩
    · rintro i σ' H' hi ⟨rfl, z, rfl⟩
      k_updF
      refine WP.iC (.inr (by decide)) ?_
      k_updF
      exact ⟨rfl, some (.int (0 + (i : Int))), by rw [Int.pow_succ]; rfl⟩
    rintro σ' H' ⟨rfl, z, rfl⟩
    rw [Int.toNat_natCast]
    change (_ : Prop)
    have hT := WP.ten_pos (pic.wh + pic.fr)
    k_updF
    refine WP.iC hT ?_
    k_updF
    refine WP.cut (fun σ' H2 => H2 = H' ∧ ∃ u : Int, σ' = [some (.ref p), some (.int r), some (.int (10 ^ (pic.wh + pic.fr))), z, some (.int u), none] ∧ 0 ≤ u ∧ u < 10 ^ (pic.wh + pic.fr)) ?_ ?_
    · k_updF
      refine WP.iC ⟨by decide, by decide⟩ ?_
      k_updF
      refine WP.iC (by decide) ?_
      k_updF
      refine WP.br (fun c => ?_) (fun c => ?_)
      · k_updF
        refine WP.iC (by decide) ?_
        k_updF
        refine WP.iC hT ?_
        k_updF
        exact ⟨rfl, _, rfl, Int.emod_nonneg _ (by omega), Int.emod_lt_of_pos _ hT⟩
      · k_updF
        exact ⟨rfl, _, rfl, Int.emod_nonneg _ (by omega), Int.emod_lt_of_pos _ hT⟩
    rintro σ' H2 ⟨rfl, u, rfl, u0, u1⟩
    have hs : MP.Suits pic u := MP.suits_abs u0 u1
    k_memK; k_memK
    refine MP.sgdE rfl hp ?_
    k_updF
    cases hsg : pic.sgd with
    | false =>
      refine WP.brF rfl ?_
      refine WP.brF rfl ?_
      k_updF
      exact k u hs
    | true =>
      refine WP.brT rfl ?_
      k_updF
      refine WP.iC ⟨by decide, by decide⟩ ?_
      k_updF
      refine WP.iC (by decide) ?_
      k_updF
      refine WP.br (fun c => ?_) (fun c => ?_)
      · k_updF
        exact k _ ⟨by rw [Int.natAbs_neg]; exact hs.1, .inr hsg⟩
      · k_updF
        exact k u hs
end
abbrev s__law_cell : Stmt := top 22
abbrev N__law_cell : List Str := ["script", "k"]
theorem sc__law_cell : FnScope N__law_cell ["script", "k"] (defScope s__law_cell) := ⟨rfl, rfl, rfl, by decide +kernel, rfl, by decide +kernel, by decide +kernel⟩
def sp__law_cell (K : PySem.W.Frag) (mg : WP.MG) : Sp := fun vs H Q _ => ∃ (a : Addr) (ns : List Int) (k : Int), vs = [.ref a, .int k] ∧ SqL K H a (ns.map V.int) ∧ 0 ≤ k ∧ ∀ c : Int, Q (.int c) H
section
variable {P : Program} {w : World} {K : PySem.W.Frag} {mg : Str → Option Value} {base : Heap}
theorem ok__law_cell {f : Addr} {fd : FuncData} (F : Fun K "_law_cell" "_law_cell" s__law_cell f fd) (B : Blt w K mg)  : FnOk P w K mg base CX0 1 f fd ["script", "k"] (sp__law_cell K mg) := by
  refine F.ok sc__law_cell (fun vs H Q E h => ?_) (fun cdv A outer s H vs Q E hr h => ?_)
  · first | (obtain ⟨_, rfl, _⟩ := h; rfl) | (obtain ⟨_, _, rfl, _⟩ := h; rfl) | (obtain ⟨_, _, _, rfl, _⟩ := h; rfl) | (obtain ⟨_, _, _, _, rfl, _⟩ := h; rfl) | (obtain ⟨_, _, _, _, _, rfl, _⟩ := h; rfl) | (obtain ⟨_, _, _, _, _, _, rfl, _⟩ := h; rfl) | (obtain ⟨_, _, _, _, _, _, _, rfl, _⟩ := h; rfl) | (obtain ⟨_, _, _, _, _, _, _, _, rfl, _⟩ := h; rfl) | (obtain ⟨rfl, _⟩ := h; rfl)
  · obtain ⟨a, ns, i, rfl, ha, hi, k⟩ := h
    refine ⟨_, (pss_cons (ps_if (pt_cmpR op_lt (pv 1) (pe_callB WP.c_len (by rfl) B.b_len (by decide +kernel) (pa_cons (pv 0) pa_nil)) (nomark _)) (pss_one (ps_ret (pe_callTy WP.c_int1 (by rfl) B.b_int (by decide +kernel) (pa_cons (pe_ix ix_list (pv 0) (pv 1) (fun _ _ => rfl)) pa_nil)))) pss_nil)
      (pss_one (ps_ret pe_int))), ?_⟩
    k_updF
    refine WP.lenL ha ?_
    k_updF
    refine WP.br (fun c => ?_) (fun c => ?_)
    · k_updF
      rw [List.length_map] at c
      refine WP.ixL ha (WP.at_ints hi c) ?_
      k_updF
      exact WP.intI (k _)
    · k_updF
      exact k 0
end
abbrev s__sign_text : Stmt := top 19
abbrev N__sign_text : List Str := ["sign", "is_negative"]
theorem sc__sign_text : FnScope N__sign_text ["sign", "is_negative"] (defScope s__sign_text) := ⟨rfl, rfl, rfl, by decide +kernel, rfl, by decide +kernel, by decide +kernel⟩
def sp__sign_text (K : PySem.W.Frag) (mg : WP.MG) : Sp := fun vs H Q _ => ∃ (s : List Nat) (neg : Bool), vs = [.str (SX.S s), .bl neg] ∧ s ∈ MP.signs ∧ WP.RetV (.str (SX.S (MP.signText s neg))) H Q
section
variable {P : Program} {w : World} {K : PySem.W.Frag} {mg : Str → Option Value} {base : Heap}
theorem ok__sign_text {f : Addr} {fd : FuncData} (F : Fun K "_sign_text" "_sign_text" s__sign_text f fd) (B : Blt w K mg)  : FnOk P w K mg base CX0 1 f fd ["sign", "is_negative"] (sp__sign_text K mg) := by
  refine F.ok sc__sign_text (fun vs H Q E h => ?_) (fun cdv A outer s H vs Q E hr h => ?_)
  · first | (obtain ⟨_, rfl, _⟩ := h; rfl) | (obtain ⟨_, _, rfl, _⟩ := h; rfl) | (obtain ⟨_, _, _, rfl, _⟩ := h; rfl) | (obtain ⟨_, _, _, _, rfl, _⟩ := h; rfl) | (obtain ⟨_, _, _, _, _, rfl, _⟩ := h; rfl) | (obtain ⟨_, _, _, _, _, _, rfl, _⟩ := h; rfl) | (obtain ⟨_, _, _, _, _, _, _, rfl, _⟩ := h; rfl) | (obtain ⟨_, _, _, _, _, _, _, _, rfl, _⟩ := h; rfl) | (obtain ⟨rfl, _⟩ := h; rfl)
  · obtain ⟨s, neg, rfl, hs, k⟩ := h
    refine ⟨_, (pss_cons (ps_if (pt_cmpR op_in_seq (pv 0) (pe_tup (pa_cons (WP.pe_strL [99, 114] (by decide +kernel)) (pa_cons (WP.pe_strL [100, 98] (by decide +kernel)) pa_nil))) rfl) (pss_one (ps_ret (pe_ifExp (pt_val (pv 1)) (pe_bm0 PySem.F.plainAttrs_str PySem.F.slot_str_upper PySem.F.type_str_upper WP.m_upper (pv 0)) (WP.pe_strL [32, 32] (by decide +kernel))))) pss_nil)
      (pss_cons (ps_if (pt_cmpR op_eq (pv 0) (WP.pe_strL [] (by decide +kernel)) (nomark _)) (pss_one (ps_ret (WP.pe_strL [] (by decide +kernel)))) pss_nil)
      (pss_cons (ps_if (pt_val (pv 1)) (pss_one (ps_ret (WP.pe_strL [45] (by decide +kernel)))) pss_nil)
      (pss_one (ps_ret (pe_ifExp (pt_cmpR op_in_seq (pv 0) (pe_tup (pa_cons (WP.pe_strL [43] (by decide +kernel)) (pa_cons (WP.pe_strL [46, 43] (by decide +kernel)) pa_nil))) rfl) (WP.pe_strL [43] (by decide +kernel)) (WP.pe_strL [32] (by decide +kernel)))))))), ?_⟩
    k_updF
    refine ⟨WP.sz2, fun t ht => ?_⟩
    refine WP.inT [[99, 114], [100, 98]] (SqT.of upd_same) rfl ?_
    generalize hH : upd H t _ = H1
    have e1 : Same H H1 := by rw [← hH]; exact WP.same_new ht
    k_updF
    have hs' : s = [] ∨ s = [45] ∨ s = [43] ∨ s = [46, 45] ∨ s = [46, 43] ∨ s = [99, 114] ∨ s = [100, 98] := by simpa [MP.signs] using hs
    rcases hs' with rfl | rfl | rfl | rfl | rfl | rfl | rfl
    · refine WP.brF (by decide) ?_
      k_updF
      refine WP.brT (by decide) ?_
      k_updF
      exact k _ e1
    all_goals cases neg
    case inr.inr.inr.inr.inr.inl.false | inr.inr.inr.inr.inr.inr.false =>
      refine WP.brT (by decide) ?_
      k_updF
      refine WP.brF rfl ?_
      k_updF
      exact k _ e1
    case inr.inr.inr.inr.inr.inl.true | inr.inr.inr.inr.inr.inr.true =>
      refine WP.brT (by decide) ?_
      k_updF
      refine WP.brT rfl ?_
      k_updF
      refine WP.upS (by decide) (by decide) ?_
      exact k _ e1
    all_goals
      refine WP.brF (by decide) ?_
      k_updF
      refine WP.brF (by decide) ?_
      k_updF
    case inr.inl.true | inr.inr.inl.true | inr.inr.inr.inl.true | inr.inr.inr.inr.inl.true =>
      refine WP.brT rfl ?_
      k_updF
      exact k _ e1
    all_goals
      refine WP.brF rfl ?_
      k_updF
      refine ⟨WP.sz2, fun t ht => ?_⟩
      refine WP.inT [[43], [46, 43]] (SqT.of upd_same) rfl ?_
      k_updF
      have e2 := e1.trans (WP.same_new (o := HO.tup [.str (SX.S [43]), .str (SX.S [46, 43])]) ht)
      first
        | (refine WP.brT (by decide) ?_; k_updF; exact k _ e2)
        | (refine WP.brF (by decide) ?_; k_updF; exact k _ e2)
end
abbrev s__body_text : Stmt := top 20
abbrev N__body_text : List Str := ["marks", "figures", "filler", "is_hiding", "characters", "at", "mark", "character"]
theorem sc__body_text : FnScope N__body_text ["marks", "figures"] (defScope s__body_text) := ⟨rfl, rfl, rfl, by decide +kernel, rfl, by decide +kernel, by decide +kernel⟩
def sp__body_text (K : PySem.W.Frag) (mg : WP.MG) : Sp := fun vs H Q _ => ∃ (b fs : List Nat) (n : Nat), vs = [.str (SX.S b), .str (SX.S fs)] ∧ MP.Body b n ∧ fs.length = n ∧ n ≤ 100 ∧ WP.RetV (.str (SX.S (MP.bodyText b fs))) H Q
section
variable {P : Program} {w : World} {K : PySem.W.Frag} {mg : Str → Option Value} {base : Heap}
theorem ok__body_text {f : Addr} {fd : FuncData} (F : Fun K "_body_text" "_body_text" s__body_text f fd) (B : Blt w K mg)  : FnOk P w K mg base CX0 1 f fd ["marks", "figures"] (sp__body_text K mg) := by
  refine F.ok sc__body_text (fun vs H Q E h => ?_) (fun cdv A outer s H vs Q E hr h => ?_)
  · first | (obtain ⟨_, rfl, _⟩ := h; rfl) | (obtain ⟨_, _, rfl, _⟩ := h; rfl) | (obtain ⟨_, _, _, rfl, _⟩ := h; rfl) | (obtain ⟨_, _, _, _, rfl, _⟩ := h; rfl) | (obtain ⟨_, _, _, _, _, rfl, _⟩ := h; rfl) | (obtain ⟨_, _, _, _, _, _, rfl, _⟩ := h; rfl) | (obtain ⟨_, _, _, _, _, _, _, rfl, _⟩ := h; rfl) | (obtain ⟨_, _, _, _, _, _, _, _, rfl, _⟩ := h; rfl) | (obtain ⟨rfl, _⟩ := h; rfl)
  · obtain ⟨b, fs, n, rfl, hb, hf, hn, k⟩ := h
    refine ⟨_, (pss_cons (ps_set (i := 2) sc__body_text.nd rfl (Or.inl rfl) (pe_ifExp (pt_cmpR op_eq (pe_ix ix_str (pv 0) pe_int (fun _ _ => rfl)) (WP.pe_strL [42] (by decide +kernel)) (nomark _)) (WP.pe_strL [42] (by decide +kernel)) (WP.pe_strL [32] (by decide +kernel))))
      (pss_cons (ps_set (i := 3) sc__body_text.nd rfl (Or.inl rfl) (pe_cmpR op_in_seq (pe_ix ix_str (pv 0) pe_int (fun _ _ => rfl)) (WP.pe_ktup rfl B.c_HIDING_MARKS) rfl))
      (pss_cons (ps_set (i := 4) sc__body_text.nd rfl (Or.inl rfl) (pe_lst pa_nil))
      (pss_cons (ps_set (i := 5) sc__body_text.nd rfl (Or.inl rfl) pe_int)
      (pss_cons (ps_for PassesOwn.never rfl (pi_str (pv 0)) (pg_name (i := 6) sc__body_text.nd rfl (Or.inl rfl)) (Evl.pss_cut (ps_if (pt_cmpR op_in_seq (pv 6) (WP.pe_ktup rfl B.c_DIGIT_MARKS) rfl) (pss_cons (ps_set (i := 3) sc__body_text.nd rfl (Or.inl rfl) (pe_and (pv 3) (pe_and (pe_cmpR op_in_seq (pv 6) (WP.pe_ktup rfl B.c_HIDING_MARKS) rfl) (pe_one (pe_cmpR op_eq (pe_ix ix_str (pv 1) (pv 5) (fun _ _ => rfl)) (WP.pe_strL [48] (by decide +kernel)) (nomark _))))))
      (pss_cons (ps_set (i := 7) sc__body_text.nd rfl (Or.inl rfl) (pe_ix ix_str (pv 1) (pv 5) (fun _ _ => rfl)))
      (pss_one (ps_set (i := 5) sc__body_text.nd rfl (Or.inl rfl) (pe_op op_add (pv 5) pe_int))))) (pss_one (ps_if (pt_cmpR op_eq (pv 6) (WP.pe_strL [46] (by decide +kernel)) (nomark _)) (pss_cons (ps_set (i := 3) sc__body_text.nd rfl (Or.inl rfl) pe_bl)
      (pss_one (ps_set (i := 7) sc__body_text.nd rfl (Or.inl rfl) (WP.pe_strL [46] (by decide +kernel))))) (pss_one (ps_set (i := 7) sc__body_text.nd rfl (Or.inl rfl) (pe_ix ix_kdict (WP.pe_kdict rfl B.c_INSERTED_CHARACTERS) (pv 6) (fun _ _ => rfl)))))))
      (pss_one (ps_expr (pe_bm PySem.F.plainAttrs_list PySem.F.slot_list_append PySem.F.type_list_append mt_append (pv 4) (pa_cons (pe_ifExp (pt_val (pv 3)) (pv 2) (pv 7)) pa_nil))))))
      (pss_one (ps_ret (pe_bm PySem.F.plainAttrs_str PySem.F.slot_str_join PySem.F.type_str_join mt_join (WP.pe_strL [] (by decide +kernel)) (pa_cons (pv 4) pa_nil))))))))), ?_⟩
    obtain ⟨c0, r0, hb0, hD0⟩ := hb.hd
    have hlen := hb.ln
    have hl : b.length ≤ sizeLine := by rw [sizeLine_eq]; omega
    have hfl : fs.length ≤ sizeLine := by rw [sizeLine_eq]; omega
    have at0 : atI b (0 : Int) = some c0 := by rw [hb0]; exact WP.at0
    have hh : MP.hd b = c0 := by rw [hb0]; rfl
    k_updF
    refine WP.ixS1 at0 hl ?_
    k_updF
    refine WP.ifSS ?_
    have ef : (if [c0] = [42] then [42] else [32]) = [MP.fillOf b] := by
      unfold MP.fillOf
      rw [hh]
      by_cases h : c0 = 42
      · subst h; rfl
      · rw [if_neg (by simpa using h), if_neg h]
    rw [ef]
    have eT : MP.bodyText b fs = MP.bodyF (MP.fillOf b) (!(MP.hd b == 57)) b fs := rfl
    rw [hh] at eT
    generalize MP.bodyText b fs = T at eT k
    generalize MP.fillOf b = fill at eT ⊢
    k_updF
    refine WP.ixS1 at0 hl ?_
    k_updF
    refine WP.inT [[122], [42]] (B.c_HIDING_MARKS.s _) rfl ?_
    rw [MP.memH hD0]
    k_updF
    refine ⟨WP.sz (by decide), fun p hp => ?_⟩
    k_updF
    refine ⟨_, rfl, WP.for_txt (fun i σ' H' => ∃ (hid : Bool) (acc : List Nat) (a : Nat) (z6 z7 : Option V), σ' = [some (.str (SX.S b)), some (.str (SX.S fs)), some (.str (SX.S [fill])), some (.bl hid), some (.ref p), some (.int (a : Int)), z6, z7] ∧
      H' p = some (.lst ((acc.map fun c => SX.S [c]).map V.str)) ∧ Same H H' ∧ acc ++ MP.bodyF fill hid (b.drop i) (fs.drop a) = T ∧ ((b.drop i).filter MP.isD).length = (fs.drop a).length ∧ acc.length = i ∧ i ≤ b.length)
      ⟨_, [], 0, none, none, rfl, upd_same, WP.same_new hp, by rw [List.drop_zero, List.drop_zero, eT]; rfl, by rw [List.drop_zero, List.drop_zero, hb.ct, hf], rfl, Nat.zero_le _⟩ ?_ ?_⟩
    · rintro i c σ' H1 hc ⟨hid, acc, a, z6, z7, rfl, hpp, e1, hT, hF, hA, hi⟩
      have hds := MP.drop_some hc
      obtain ⟨hib, hget⟩ := List.getElem?_eq_some_iff.mp hc
      have hok : MP.okM c = true := hb.ok c (by rw [← hget]; exact List.getElem_mem hib)
      rw [hds] at hT hF
      k_updF
      refine WP.cut (fun σ' H' => H' = H1 ∧ ∃ (hid' : Bool) (ch a' : Nat), σ' = [some (.str (SX.S b)), some (.str (SX.S fs)), some (.str (SX.S [fill])), some (.bl hid'), some (.ref p), some (.int (a' : Int)), some (.str (SX.S [c])), some (.str (SX.S [ch]))] ∧
        MP.bodyF fill hid (c :: b.drop (i + 1)) (fs.drop a) = (if hid' = true then fill else ch) :: MP.bodyF fill hid' (b.drop (i + 1)) (fs.drop a') ∧ ((b.drop (i + 1)).filter MP.isD).length = (fs.drop a').length) ?_ ?_
      · k_updF
        refine WP.inT [[122], [42], [57]] (B.c_DIGIT_MARKS.s _) rfl ?_
        rw [MP.memD]
        k_updF
        cases hD : MP.isD c with
        | true =>
          refine WP.brT rfl ?_
          rw [List.filter_cons, if_pos hD, List.length_cons] at hF
          have ha : a < fs.length := by rw [List.length_drop] at hF; omega
          have hfs := MP.drop_some (l := fs) (i := a) (c := fs[a]) (List.getElem?_eq_getElem ha)
          have hat : atI fs (a : Int) = some fs[a] := atI_nat (List.getElem?_eq_getElem ha)
          generalize fs[a] = d at hfs hat
          have hF' : ((b.drop (i + 1)).filter MP.isD).length = (fs.drop (a + 1)).length := by rw [hfs, List.length_cons] at hF; omega
          have fin : ∀ (hid' : Bool), hid' = (hid && (!(c == 57)) && (d == 48)) → ∃ (hid'' : Bool) (ch a' : Nat), [some (V.str (SX.S b)), some (.str (SX.S fs)), some (.str (SX.S [fill])), some (.bl hid'), some (.ref p), some (.int ((a : Int) + 1)), some (.str (SX.S [c])), some (.str (SX.S [d]))] = [some (.str (SX.S b)), some (.str (SX.S fs)), some (.str (SX.S [fill])), some (.bl hid''), some (.ref p), some (.int (a' : Int)), some (.str (SX.S [c])), some (.str (SX.S [ch]))] ∧
              MP.bodyF fill hid (c :: b.drop (i + 1)) (fs.drop a) = (if hid'' = true then fill else ch) :: MP.bodyF fill hid'' (b.drop (i + 1)) (fs.drop a') ∧ ((b.drop (i + 1)).filter MP.isD).length = (fs.drop a').length := fun hid' e =>
            ⟨hid', d, a + 1, rfl, by rw [hfs, MP.bodyF_D hD, e], hF'⟩
          k_updF
          cases hid with
          | false =>
            refine WP.brF rfl ?_
            k_updF
            refine WP.ixS1 hat hfl ?_
            k_updF
            exact ⟨rfl, fin false rfl⟩
          | true =>
            refine WP.brT rfl ?_
            k_updF
            refine WP.inT [[122], [42]] (B.c_HIDING_MARKS.s _) rfl ?_
            rw [MP.memH hD]
            k_updF
            cases h57 : (c == 57) with
            | true =>
              refine WP.brF rfl ?_
              k_updF
              refine WP.ixS1 hat hfl ?_
              k_updF
              exact ⟨rfl, fin false (by rw [h57]; rfl)⟩
            | false =>
              refine WP.brT rfl ?_
              k_updF
              refine WP.ixS1 hat hfl ?_
              k_updF
              refine WP.ixS1 hat hfl ?_
              k_updF
              refine ⟨rfl, fin _ ?_⟩
              rw [h57]
              by_cases h48 : d = 48
              · subst h48; rfl
              · rw [decide_eq_false (by simpa using h48), beq_eq_false_iff_ne.mpr h48]; rfl
        | false =>
          refine WP.brF rfl ?_
          rw [List.filter_cons, if_neg (by rw [hD]; exact Bool.false_ne_true)] at hF
          k_updF
          by_cases h46 : c = 46
          · subst h46
            refine WP.brT (by decide) ?_
            k_updF
            exact ⟨rfl, false, 46, a, rfl, by rw [MP.bodyF_P]; rfl, hF⟩
          · refine WP.brF (decide_eq_false (by simpa using h46)) ?_
            k_updF
            have hI : c = 44 ∨ c = 98 ∨ c = 48 ∨ c = 47 := by
              have : (c == 46) = false := beq_eq_false_iff_ne.mpr h46
              simpa [MP.okM, hD, this, MP.isI, or_assoc] using hok
            refine WP.ixK (v := .str (SX.S [MP.insM c])) B.c_INSERTED_CHARACTERS ?_ ?_
            · rcases hI with rfl | rfl | rfl | rfl
              · exact .head _
              · exact .tail _ (.head _)
              · exact .tail _ (.tail _ (.head _))
              · exact .tail _ (.tail _ (.tail _ (.head _)))
            · k_updF
              exact ⟨rfl, hid, MP.insM c, a, rfl, MP.bodyF_I hD h46, hF⟩
      · rintro σ' H' ⟨rfl, hid', ch, a', rfl, hB, hF'⟩
        k_updF
        refine WP.tyL (SqL.of hpp) ?_
        k_updF
        have hz : ((acc.map fun c => SX.S [c]).map V.str).length < sizeLine := by rw [List.length_map, List.length_map, sizeLine_eq]; omega
        have fin : ∀ x : Nat, x = (if hid' = true then fill else ch) → ∃ (hid : Bool) (acc' : List Nat) (a : Nat) (z6 z7 : Option V), [some (V.str (SX.S b)), some (.str (SX.S fs)), some (.str (SX.S [fill])), some (.bl hid'), some (.ref p), some (.int (a' : Int)), some (.str (SX.S [c])), some (.str (SX.S [ch]))] = [some (.str (SX.S b)), some (.str (SX.S fs)), some (.str (SX.S [fill])), some (.bl hid), some (.ref p), some (.int (a : Int)), z6, z7] ∧
            upd H' p (.lst ((acc.map fun c => SX.S [c]).map V.str ++ [.str (SX.S [x])])) p = some (.lst ((acc'.map fun c => SX.S [c]).map V.str)) ∧ Same H (upd H' p (.lst ((acc.map fun c => SX.S [c]).map V.str ++ [.str (SX.S [x])]))) ∧ acc' ++ MP.bodyF fill hid (b.drop (i + 1)) (fs.drop a) = T ∧ ((b.drop (i + 1)).filter MP.isD).length = (fs.drop a).length ∧ acc'.length = i + 1 ∧ i + 1 ≤ b.length := fun x hx =>
          ⟨hid', acc ++ [x], a', some (.str (SX.S [c])), some (.str (SX.S [ch])), rfl, by rw [upd_same, List.map_append, List.map_append]; rfl, WP.same_mut e1 hp, by rw [← hT, hB, hx, List.append_assoc]; rfl, hF', by rw [List.length_append, hA]; rfl, hib⟩
        cases hid' with
        | true =>
          refine WP.brT rfl ?_
          k_updF
          refine WP.appL hpp hz ?_
          exact fin fill rfl
        | false =>
          refine WP.brF rfl ?_
          k_updF
          refine WP.appL hpp hz ?_
          exact fin ch rfl
    · rintro σ' H1 ⟨hid, acc, a, z6, z7, rfl, hpp, e1, hT, hF, hA, hi⟩
      k_updF
      refine ⟨SX.S [], p, (acc.map fun c => [c]).map SX.S, rfl, rfl, .inl (SqL.of (by rw [List.map_map (l := acc)]; exact hpp)), ?_, ?_⟩
      · rw [SX.lens, SX.S_len, List.length_nil, Nat.mul_zero, Nat.add_zero, List.map_map]
        have : ∀ l : List Nat, (l.map ((fun x : List Nat => x.length) ∘ fun c => [c])).sum = l.length := fun l => by induction l with
          | nil => rfl
          | cons x l ih => rw [List.map_cons, List.sum_cons, ih, List.length_cons]; show 1 + _ = _; omega
        rw [this]
        omega
      · rw [WP.join_nilS]
        have : ∀ l : List Nat, (l.map fun c => [c]).flatten = l := fun l => by induction l with
          | nil => rfl
          | cons x l ih => rw [List.map_cons, List.flatten_cons, ih]; rfl
        rw [this]
        rw [List.drop_length] at hT
        rw [← hT] at k
        show Q _ _
        have e0 : MP.bodyF fill hid [] (fs.drop a) = [] := by rw [MP.bodyF]
        rw [e0, List.append_nil] at k
        exact k _ e1
end
abbrev s_power : Stmt := top 4
abbrev N_power : List Str := ["exponent", "result", "factor", "rest"]
theorem sc_power : FnScope N_power ["exponent"] (defScope s_power) := ⟨rfl, rfl, rfl, by decide +kernel, rfl, by decide +kernel, by decide +kernel⟩
/-- power(e): 10 to the power of e -/
def sp_power (K : PySem.W.Frag) (mg : WP.MG) : Sp := fun vs H Q _ => ∃ e : Int, vs = [.int e] ∧ e ≤ 3000 ∧ Q (.int (10 ^ e.toNat)) H
section
variable {P : Program} {w : World} {K : PySem.W.Frag} {mg : Str → Option Value} {base : Heap}
theorem ok_power {f : Addr} {fd : FuncData} (F : Fun K "power" "power" s_power f fd) (B : Blt w K mg)  : FnOk P w K mg base CX0 1 f fd ["exponent"] (sp_power K mg) := by
  refine F.ok sc_power (fun vs H Q E h => ?_) (fun cdv A outer s H vs Q E hr h => ?_)
  · first | (obtain ⟨_, rfl, _⟩ := h; rfl) | (obtain ⟨_, _, rfl, _⟩ := h; rfl) | (obtain ⟨_, _, _, rfl, _⟩ := h; rfl) | (obtain ⟨_, _, _, _, rfl, _⟩ := h; rfl) | (obtain ⟨_, _, _, _, _, rfl, _⟩ := h; rfl) | (obtain ⟨_, _, _, _, _, _, rfl, _⟩ := h; rfl) | (obtain ⟨_, _, _, _, _, _, _, rfl, _⟩ := h; rfl) | (obtain ⟨_, _, _, _, _, _, _, _, rfl, _⟩ := h; rfl) | (obtain ⟨rfl, _⟩ := h; rfl)
  · obtain ⟨e, rfl, he, k⟩ := h
    refine ⟨_, (pss_cons (ps_set (i := 1) sc_power.nd rfl (Or.inl rfl) pe_int)
      (pss_cons (ps_set (i := 2) sc_power.nd rfl (Or.inl rfl) pe_int)
      (pss_cons (ps_set (i := 3) sc_power.nd rfl (Or.inl rfl) (pv 0))
      (pss_cons (ps_while PassesOwn.never (pt_cmpR op_gt (pv 3) pe_int (nomark _)) (pss_cons (ps_if (pt_cmpR op_eq (pe_op op_mod (pv 3) pe_int) pe_int (nomark _)) (pss_one (ps_set (i := 1) sc_power.nd rfl (Or.inl rfl) (pe_op op_mulW (pv 1) (pv 2)))) pss_nil)
      (pss_cons (ps_set (i := 2) sc_power.nd rfl (Or.inl rfl) (pe_op op_mulW (pv 2) (pv 2)))
      (pss_one (ps_set (i := 3) sc_power.nd rfl (Or.inl rfl) (pe_op op_fdiv (pv 3) pe_int))))))
      (pss_one (ps_ret (pv 1))))))), ?_⟩
    k_updF
    refine ⟨fun m σ H' => ∃ (r b : Nat) (rest : Int), σ = [some (.int e), some (.int (10 ^ r)), some (.int (10 ^ b)), some (.int rest)] ∧ H' = H ∧ m = rest.toNat ∧ (rest ≤ 0 → r = e.toNat) ∧ (0 < rest → r + b * rest.toNat = e.toNat) ∧ 1 ≤ b,
      ⟨e.toNat, 0, 1, e, rfl, rfl, rfl, by omega, by omega, by omega⟩, ?_⟩
    rintro m σ H' ⟨r, b, rest, rfl, rfl, rfl, h1, h2, h3⟩
    k_updF
    refine WP.br (fun c => ?_) (fun c => ?_)
    · have e1 := h2 c
      have hb : b ≤ 3000 := by
        have : b * 1 ≤ b * rest.toNat := Nat.mul_le_mul_left b (by omega)
        omega
      have hrr : r ≤ 3000 := by omega
      have ed : rest.toNat = 2 * (rest / 2).toNat + (rest % 2).toNat := by omega
      refine ⟨fun σ' H2 => ∃ m', m' < rest.toNat ∧ ∃ (r b : Nat) (rest : Int), σ' = [some (.int e), some (.int (10 ^ r)), some (.int (10 ^ b)), some (.int rest)] ∧ H2 = H' ∧ m' = rest.toNat ∧ (rest ≤ 0 → r = e.toNat) ∧ (0 < rest → r + b * rest.toNat = e.toNat) ∧ 1 ≤ b, fun _ _ x => x, ?_⟩
      have step : ∀ r', (rest / 2 ≤ 0 → r' = e.toNat) → (0 < rest / 2 → r' + (b + b) * (rest / 2).toNat = e.toNat) →
          ∃ m', m' < rest.toNat ∧ ∃ (r b' : Nat) (rest' : Int), [some (V.int e), some (.int (10 ^ r')), some (.int (10 ^ b * 10 ^ b)), some (.int (rest / 2))] = [some (.int e), some (.int (10 ^ r)), some (.int (10 ^ b')), some (.int rest')] ∧ H' = H' ∧ m' = rest'.toNat ∧ (rest' ≤ 0 → r = e.toNat) ∧ (0 < rest' → r + b' * rest'.toNat = e.toNat) ∧ 1 ≤ b' := fun r' q1 q2 =>
        ⟨(rest / 2).toNat, by omega, r', b + b, rest / 2, by rw [Int.pow_add], rfl, rfl, q1, q2, by omega⟩
      k_memK; k_memK; k_memK; k_memK; k_memK; k_memK; k_memK
      refine WP.iC (show (0 : Int) < 2 by decide) ?_
      k_updF
      refine WP.br (fun o => ?_) (fun o => ?_)
      · k_updF
        refine WP.iC ((WP.Bt.ten r).w (WP.Bt.ten b)) ?_
        k_updF
        refine WP.iC ((WP.Bt.ten b).w (WP.Bt.ten b)) ?_
        k_updF
        refine WP.iC ⟨by decide, by decide⟩ ?_
        k_updF
        have e2 : b * rest.toNat = (b + b) * (rest / 2).toNat + b := by rw [ed, show (rest % 2).toNat = 1 by omega, Nat.mul_add, ← Nat.mul_assoc, Nat.mul_comm b 2, Nat.two_mul, Nat.mul_one]
        have := step (r + b) (fun q => by rw [show (rest / 2).toNat = 0 by omega] at e2; omega) (fun q => by omega)
        rw [Int.pow_add] at this
        exact this
      · k_updF
        refine WP.iC ((WP.Bt.ten b).w (WP.Bt.ten b)) ?_
        k_updF
        refine WP.iC ⟨by decide, by decide⟩ ?_
        k_updF
        have e2 : b * rest.toNat = (b + b) * (rest / 2).toNat := by rw [ed, show (rest % 2).toNat = 0 by omega, Nat.add_zero, ← Nat.mul_assoc, Nat.mul_comm b 2, Nat.two_mul]
        exact step r (fun q => by omega) (fun q => by omega)
    · k_updF
      rw [h1 (by omega)]
      exact k
end
abbrev s_fits : Stmt := top 5
abbrev N_fits : List Str := ["units", "digits"]
theorem sc_fits : FnScope N_fits ["units", "digits"] (defScope s_fits) := ⟨rfl, rfl, rfl, by decide +kernel, rfl, by decide +kernel, by decide +kernel⟩
def sp_fits (K : PySem.W.Frag) (mg : WP.MG) : Sp := fun vs H Q _ => ∃ u d : Int, vs = [.int u, .int d] ∧ d ≤ 3000 ∧ Q (.bl (decide (u.natAbs < 10 ^ d.toNat))) H
section
variable {P : Program} {w : World} {K : PySem.W.Frag} {mg : Str → Option Value} {base : Heap}
theorem ok_fits {f : Addr} {fd : FuncData} (F : Fun K "fits" "fits" s_fits f fd) (B : Blt w K mg) (c_power : WP.Callee P w K mg base CX0 1 "power" ["exponent"] (sp_power K mg)) : FnOk P w K mg base CX0 2 f fd ["units", "digits"] (sp_fits K mg) := by
  refine F.ok sc_fits (fun vs H Q E h => ?_) (fun cdv A outer s H vs Q E hr h => ?_)
  · first | (obtain ⟨_, rfl, _⟩ := h; rfl) | (obtain ⟨_, _, rfl, _⟩ := h; rfl) | (obtain ⟨_, _, _, rfl, _⟩ := h; rfl) | (obtain ⟨_, _, _, _, rfl, _⟩ := h; rfl) | (obtain ⟨_, _, _, _, _, rfl, _⟩ := h; rfl) | (obtain ⟨_, _, _, _, _, _, rfl, _⟩ := h; rfl) | (obtain ⟨_, _, _, _, _, _, _, rfl, _⟩ := h; rfl) | (obtain ⟨_, _, _, _, _, _, _, _, rfl, _⟩ := h; rfl) | (obtain ⟨rfl, _⟩ := h; rfl)
  · obtain ⟨u, d, rfl, hd, k⟩ := h
    refine ⟨_, (pss_one (ps_ret (pe_cmpR op_lt (pe_callB WP.c_abs (by rfl) B.b_abs (by decide +kernel) (pa_cons (pv 0) pa_nil)) (WP.pe_callC c_power hr rfl pass0 (pa_cons (pv 1) pa_nil)) (nomark _)))), ?_⟩
    k_updF
    refine WP.absI ?_
    k_updF
    refine ⟨_, rfl, hd, ?_⟩
    have e : decide ((u.natAbs : Int) < (10 : Int) ^ d.toNat) = decide (u.natAbs < 10 ^ d.toNat) := by
      have c : ((10 : Int) ^ d.toNat) = ((10 ^ d.toNat : Nat) : Int) := by rw [Int.natCast_pow]; rfl
      rw [c]
      congr 1
      exact propext (by omega)
    k_updF
    rw [e]
    exact k
end
abbrev s_is_signed : Stmt := top 7
abbrev N_is_signed : List Str := ["picture"]
theorem sc_is_signed : FnScope N_is_signed ["picture"] (defScope s_is_signed) := ⟨rfl, rfl, rfl, by decide +kernel, rfl, by decide +kernel, by decide +kernel⟩
def sp_is_signed (K : PySem.W.Frag) (mg : WP.MG) : Sp := fun vs H Q _ => ∃ (p : Addr) (pic : MP.Pic), vs = [.ref p] ∧ SqT K H p pic.vs ∧ Q (.bl pic.sgd) H
section
variable {P : Program} {w : World} {K : PySem.W.Frag} {mg : Str → Option Value} {base : Heap}
theorem ok_is_signed {f : Addr} {fd : FuncData} (F : Fun K "is_signed" "is_signed" s_is_signed f fd) (B : Blt w K mg)  : FnOk P w K mg base CX0 1 f fd ["picture"] (sp_is_signed K mg) := by
  refine F.ok sc_is_signed (fun vs H Q E h => ?_) (fun cdv A outer s H vs Q E hr h => ?_)
  · first | (obtain ⟨_, rfl, _⟩ := h; rfl) | (obtain ⟨_, _, rfl, _⟩ := h; rfl) | (obtain ⟨_, _, _, rfl, _⟩ := h; rfl) | (obtain ⟨_, _, _, _, rfl, _⟩ := h; rfl) | (obtain ⟨_, _, _, _, _, rfl, _⟩ := h; rfl) | (obtain ⟨_, _, _, _, _, _, rfl, _⟩ := h; rfl) | (obtain ⟨_, _, _, _, _, _, _, rfl, _⟩ := h; rfl) | (obtain ⟨_, _, _, _, _, _, _, _, rfl, _⟩ := h; rfl) | (obtain ⟨rfl, _⟩ := h; rfl)
  · obtain ⟨p, pic, rfl, hp, k⟩ := h
    refine ⟨_, (pss_cons (ps_if (pt_cmpR op_eq (pe_ix ix_tup (pv 0) pe_int (fun _ _ => rfl)) (WP.pe_strL [116, 101, 120, 116] (by decide +kernel)) (nomark _)) (pss_one (ps_ret pe_bl)) pss_nil)
      (pss_cons (ps_if (pt_cmpR op_eq (pe_ix ix_tup (pv 0) pe_int (fun _ _ => rfl)) (WP.pe_strL [110, 117, 109, 98, 101, 114] (by decide +kernel)) (nomark _)) (pss_one (ps_ret (pe_ix ix_tup (pv 0) pe_int (fun _ _ => rfl)))) pss_nil)
      (pss_one (ps_ret (pe_cmpR op_ne (pe_ix ix_tup (pv 0) pe_int (fun _ _ => rfl)) (WP.pe_strL [] (by decide +kernel)) (nomark _)))))), ?_⟩
    cases pic with
    | num sg a b =>
      k_updF
      refine WP.ixT hp WP.at0 ?_
      k_updF
      refine WP.brF (by decide) ?_
      k_updF
      refine WP.ixT hp WP.at0 ?_
      k_updF
      refine WP.brT (by decide) ?_
      k_updF
      refine WP.ixT hp WP.at1 ?_
      exact k
    | ed m a b s =>
      k_updF
      refine WP.ixT hp WP.at0 ?_
      k_updF
      refine WP.brF (by decide) ?_
      k_updF
      refine WP.ixT hp WP.at0 ?_
      k_updF
      refine WP.brF (by decide) ?_
      k_updF
      refine WP.ixT hp WP.at4 ?_
      k_updF
      exact k
end
abbrev s_digits_in : Stmt := top 8
abbrev N_digits_in : List Str := ["picture"]
theorem sc_digits_in : FnScope N_digits_in ["picture"] (defScope s_digits_in) := ⟨rfl, rfl, rfl, by decide +kernel, rfl, by decide +kernel, by decide +kernel⟩
def sp_digits_in (K : PySem.W.Frag) (mg : WP.MG) : Sp := fun vs H Q _ => ∃ (p : Addr) (pic : MP.Pic), vs = [.ref p] ∧ SqT K H p pic.vs ∧ WP.RetT [.int (pic.wh : Int), .int (pic.fr : Int)] H Q
section
variable {P : Program} {w : World} {K : PySem.W.Frag} {mg : Str → Option Value} {base : Heap}
theorem ok_digits_in {f : Addr} {fd : FuncData} (F : Fun K "digits_in" "digits_in" s_digits_in f fd) (B : Blt w K mg)  : FnOk P w K mg base CX0 1 f fd ["picture"] (sp_digits_in K mg) := by
  refine F.ok sc_digits_in (fun vs H Q E h => ?_) (fun cdv A outer s H vs Q E hr h => ?_)
  · first | (obtain ⟨_, rfl, _⟩ := h; rfl) | (obtain ⟨_, _, rfl, _⟩ := h; rfl) | (obtain ⟨_, _, _, rfl, _⟩ := h; rfl) | (obtain ⟨_, _, _, _, rfl, _⟩ := h; rfl) | (obtain ⟨_, _, _, _, _, rfl, _⟩ := h; rfl) | (obtain ⟨_, _, _, _, _, _, rfl, _⟩ := h; rfl) | (obtain ⟨_, _, _, _, _, _, _, rfl, _⟩ := h; rfl) | (obtain ⟨_, _, _, _, _, _, _, _, rfl, _⟩ := h; rfl) | (obtain ⟨rfl, _⟩ := h; rfl)
  · obtain ⟨p, pic, rfl, hp, k⟩ := h
    refine ⟨_, (pss_cons (ps_if (pt_cmpR op_eq (pe_ix ix_tup (pv 0) pe_int (fun _ _ => rfl)) (WP.pe_strL [116, 101, 120, 116] (by decide +kernel)) (nomark _)) (pss_one (WP.ps_raiseC rfl takes0 B.e_BadPicture (by exact rfl))) pss_nil)
      (pss_one (ps_ret (pe_tup (pa_cons (pe_ix ix_tup (pv 0) pe_int (fun _ _ => rfl)) (pa_cons (pe_ix ix_tup (pv 0) pe_int (fun _ _ => rfl)) pa_nil)))))), ?_⟩
    cases pic with
    | num sg a b =>
      k_updF
      refine WP.ixT hp WP.at0 ?_
      k_updF
      refine WP.brF (by decide) ?_
      k_updF
      refine WP.ixT hp WP.at2 ?_
      k_updF
      refine WP.ixT hp WP.at3 ?_
      k_updF
      exact ⟨WP.sz2, k.new (Same.refl _)⟩
    | ed m a b s =>
      k_updF
      refine WP.ixT hp WP.at0 ?_
      k_updF
      refine WP.brF (by decide) ?_
      k_updF
      refine WP.ixT hp WP.at2 ?_
      k_updF
      refine WP.ixT hp WP.at3 ?_
      k_updF
      exact ⟨WP.sz2, k.new (Same.refl _)⟩
end
abbrev s__many_digits : Stmt := top 16
abbrev N__many_digits : List Str := ["picture", "whole", "fraction"]
theorem sc__many_digits : FnScope N__many_digits ["picture"] (defScope s__many_digits) := ⟨rfl, rfl, rfl, by decide +kernel, rfl, by decide +kernel, by decide +kernel⟩
def sp__many_digits (K : PySem.W.Frag) (mg : WP.MG) : Sp := fun vs H Q _ => ∃ (p : Addr) (pic : MP.Pic), vs = [.ref p] ∧ SqT K H p pic.vs ∧ WP.RetV (.int (pic.n : Int)) H Q
section
variable {P : Program} {w : World} {K : PySem.W.Frag} {mg : Str → Option Value} {base : Heap}
theorem ok__many_digits {f : Addr} {fd : FuncData} (F : Fun K "_many_digits" "_many_digits" s__many_digits f fd) (B : Blt w K mg) (c_digits_in : WP.Callee P w K mg base CX0 1 "digits_in" ["picture"] (sp_digits_in K mg)) : FnOk P w K mg base CX0 2 f fd ["picture"] (sp__many_digits K mg) := by
  refine F.ok sc__many_digits (fun vs H Q E h => ?_) (fun cdv A outer s H vs Q E hr h => ?_)
  · first | (obtain ⟨_, rfl, _⟩ := h; rfl) | (obtain ⟨_, _, rfl, _⟩ := h; rfl) | (obtain ⟨_, _, _, rfl, _⟩ := h; rfl) | (obtain ⟨_, _, _, _, rfl, _⟩ := h; rfl) | (obtain ⟨_, _, _, _, _, rfl, _⟩ := h; rfl) | (obtain ⟨_, _, _, _, _, _, rfl, _⟩ := h; rfl) | (obtain ⟨_, _, _, _, _, _, _, rfl, _⟩ := h; rfl) | (obtain ⟨_, _, _, _, _, _, _, _, rfl, _⟩ := h; rfl) | (obtain ⟨rfl, _⟩ := h; rfl)
  · obtain ⟨p, pic, rfl, hp, k⟩ := h
    refine ⟨_, (pss_cons (ps_asg (WP.pe_callC c_digits_in hr rfl pass0 (pa_cons (pv 0) pa_nil)) (pg_tup (by rfl) (pgs_cons (pg_name (i := 1) sc__many_digits.nd rfl (Or.inl rfl)) (pgs_cons (pg_name (i := 2) sc__many_digits.nd rfl (Or.inl rfl)) pgs_nil))))
      (pss_one (ps_ret (pe_op op_add (pv 1) (pv 2))))), ?_⟩
    k_updF
    refine ⟨p, pic, rfl, hp, fun q H1 e1 hq => ?_⟩
    refine WP.unT (SqT.of hq) rfl ?_
    k_updF
    rw [← Int.natCast_add]
    exact k _ e1
end
abbrev s_suits : Stmt := top 13
abbrev N_suits : List Str := ["picture", "units"]
theorem sc_suits : FnScope N_suits ["picture", "units"] (defScope s_suits) := ⟨rfl, rfl, rfl, by decide +kernel, rfl, by decide +kernel, by decide +kernel⟩
def sp_suits (K : PySem.W.Frag) (mg : WP.MG) : Sp := fun vs H Q _ => ∃ (p : Addr) (pic : MP.Pic) (u : Int), vs = [.ref p, .int u] ∧ SqT K H p pic.vs ∧ pic.Ok ∧ WP.RetV (.bl (decide (MP.Suits pic u))) H Q
section
variable {P : Program} {w : World} {K : PySem.W.Frag} {mg : Str → Option Value} {base : Heap}
theorem ok_suits {f : Addr} {fd : FuncData} (F : Fun K "suits" "suits" s_suits f fd) (B : Blt w K mg) (c_fits : WP.Callee P w K mg base CX0 2 "fits" ["units", "digits"] (sp_fits K mg)) (c_is_signed : WP.Callee P w K mg base CX0 1 "is_signed" ["picture"] (sp_is_signed K mg)) (c__many_digits : WP.Callee P w K mg base CX0 2 "_many_digits" ["picture"] (sp__many_digits K mg)) : FnOk P w K mg base CX0 3 f fd ["picture", "units"] (sp_suits K mg) := by
  refine F.ok sc_suits (fun vs H Q E h => ?_) (fun cdv A outer s H vs Q E hr h => ?_)
  · first | (obtain ⟨_, rfl, _⟩ := h; rfl) | (obtain ⟨_, _, rfl, _⟩ := h; rfl) | (obtain ⟨_, _, _, rfl, _⟩ := h; rfl) | (obtain ⟨_, _, _, _, rfl, _⟩ := h; rfl) | (obtain ⟨_, _, _, _, _, rfl, _⟩ := h; rfl) | (obtain ⟨_, _, _, _, _, _, rfl, _⟩ := h; rfl) | (obtain ⟨_, _, _, _, _, _, _, rfl, _⟩ := h; rfl) | (obtain ⟨_, _, _, _, _, _, _, _, rfl, _⟩ := h; rfl) | (obtain ⟨rfl, _⟩ := h; rfl)
  · obtain ⟨p, pic, u, rfl, hp, ho, k⟩ := h
    refine ⟨_, (pss_cons (ps_if (pt_not (pt_val (WP.pe_callC c_fits hr rfl pass0 (pa_cons (pv 1) (pa_cons (WP.pe_callC c__many_digits hr rfl pass0 (pa_cons (pv 0) pa_nil)) pa_nil))))) (pss_one (ps_ret pe_bl)) pss_nil)
      (pss_one (ps_ret (pe_or (pe_cmpR op_ge (pv 1) pe_int (nomark _)) (pe_one (WP.pe_callC c_is_signed hr rfl pass0 (pa_cons (pv 0) pa_nil))))))), ?_⟩
    have hn := ho.n1
    k_updF
    refine ⟨p, pic, rfl, hp, fun H1 e1 => ?_⟩
    k_updF
    refine ⟨u, (pic.n : Int), rfl, by omega, ?_⟩
    rw [Int.toNat_natCast]
    k_updF
    by_cases c : u.natAbs < 10 ^ pic.n
    · refine WP.brF (by rw [decide_eq_true c]; rfl) ?_
      k_updF
      refine WP.br (fun d => ?_) (fun d => ?_)
      · rw [decide_eq_true (show MP.Suits pic u from ⟨c, .inl d⟩)] at k
        exact k _ e1
      · k_updF
        refine ⟨p, pic, rfl, WP.sqt e1 hp, ?_⟩
        cases hs : pic.sgd with
        | true =>
          rw [decide_eq_true (show MP.Suits pic u from ⟨c, .inr hs⟩)] at k
          exact k _ e1
        | false =>
          rw [decide_eq_false (show ¬ MP.Suits pic u from fun z => by
            rcases z.2 with z | z
            · exact d z
            · rw [hs] at z; cases z)] at k
          exact k _ e1
    · refine WP.brT (by rw [decide_eq_false c]; rfl) ?_
      k_updF
      rw [decide_eq_false (show ¬ MP.Suits pic u from fun z => c z.1)] at k
      exact k _ e1
end
abbrev s__sign_of : Stmt := top 17
abbrev N__sign_of : List Str := ["picture"]
theorem sc__sign_of : FnScope N__sign_of ["picture"] (defScope s__sign_of) := ⟨rfl, rfl, rfl, by decide +kernel, rfl, by decide +kernel, by decide +kernel⟩
def sp__sign_of (K : PySem.W.Frag) (mg : WP.MG) : Sp := fun vs H Q _ => ∃ (p : Addr) (pic : MP.Pic), vs = [.ref p] ∧ SqT K H p pic.vs ∧ Q (.str (SX.S pic.sgn)) H
section
variable {P : Program} {w : World} {K : PySem.W.Frag} {mg : Str → Option Value} {base : Heap}
theorem ok__sign_of {f : Addr} {fd : FuncData} (F : Fun K "_sign_of" "_sign_of" s__sign_of f fd) (B : Blt w K mg) (c_is_signed : WP.Callee P w K mg base CX0 1 "is_signed" ["picture"] (sp_is_signed K mg)) : FnOk P w K mg base CX0 2 f fd ["picture"] (sp__sign_of K mg) := by
  refine F.ok sc__sign_of (fun vs H Q E h => ?_) (fun cdv A outer s H vs Q E hr h => ?_)
  · first | (obtain ⟨_, rfl, _⟩ := h; rfl) | (obtain ⟨_, _, rfl, _⟩ := h; rfl) | (obtain ⟨_, _, _, rfl, _⟩ := h; rfl) | (obtain ⟨_, _, _, _, rfl, _⟩ := h; rfl) | (obtain ⟨_, _, _, _, _, rfl, _⟩ := h; rfl) | (obtain ⟨_, _, _, _, _, _, rfl, _⟩ := h; rfl) | (obtain ⟨_, _, _, _, _, _, _, rfl, _⟩ := h; rfl) | (obtain ⟨_, _, _, _, _, _, _, _, rfl, _⟩ := h; rfl) | (obtain ⟨rfl, _⟩ := h; rfl)
  · obtain ⟨p, pic, rfl, hp, k⟩ := h
    refine ⟨_, (pss_cons (ps_if (pt_cmpR op_eq (pe_ix ix_tup (pv 0) pe_int (fun _ _ => rfl)) (WP.pe_strL [101, 100, 105, 116, 101, 100] (by decide +kernel)) (nomark _)) (pss_one (ps_ret (pe_ix ix_tup (pv 0) pe_int (fun _ _ => rfl)))) pss_nil)
      (pss_one (ps_ret (pe_ifExp (pt_val (WP.pe_callC c_is_signed hr rfl pass0 (pa_cons (pv 0) pa_nil))) (WP.pe_strL [43] (by decide +kernel)) (WP.pe_strL [] (by decide +kernel)))))), ?_⟩
    cases pic with
    | num sg a b =>
      k_updF
      refine WP.ixT hp WP.at0 ?_
      k_updF
      refine WP.brF (by decide) ?_
      k_updF
      refine ⟨p, _, rfl, hp, ?_⟩
      k_updF
      cases sg
      · refine WP.brF rfl ?_
        k_updF
        exact k
      · refine WP.brT rfl ?_
        k_updF
        exact k
    | ed m a b s =>
      k_updF
      refine WP.ixT hp WP.at0 ?_
      k_updF
      refine WP.brT (by decide) ?_
      k_updF
      refine WP.ixT hp WP.at4 ?_
      exact k
end
abbrev s__is_sign_ahead : Stmt := top 18
abbrev N__is_sign_ahead : List Str := ["picture"]
theorem sc__is_sign_ahead : FnScope N__is_sign_ahead ["picture"] (defScope s__is_sign_ahead) := ⟨rfl, rfl, rfl, by decide +kernel, rfl, by decide +kernel, by decide +kernel⟩
def sp__is_sign_ahead (K : PySem.W.Frag) (mg : WP.MG) : Sp := fun vs H Q _ => ∃ (p : Addr) (pic : MP.Pic), vs = [.ref p] ∧ SqT K H p pic.vs ∧ WP.RetV (.bl (decide (pic.sgn ∈ [[45], [43]]))) H Q
section
variable {P : Program} {w : World} {K : PySem.W.Frag} {mg : Str → Option Value} {base : Heap}
theorem ok__is_sign_ahead {f : Addr} {fd : FuncData} (F : Fun K "_is_sign_ahead" "_is_sign_ahead" s__is_sign_ahead f fd) (B : Blt w K mg) (c__sign_of : WP.Callee P w K mg base CX0 2 "_sign_of" ["picture"] (sp__sign_of K mg)) : FnOk P w K mg base CX0 3 f fd ["picture"] (sp__is_sign_ahead K mg) := by
  refine F.ok sc__is_sign_ahead (fun vs H Q E h => ?_) (fun cdv A outer s H vs Q E hr h => ?_)
  · first | (obtain ⟨_, rfl, _⟩ := h; rfl) | (obtain ⟨_, _, rfl, _⟩ := h; rfl) | (obtain ⟨_, _, _, rfl, _⟩ := h; rfl) | (obtain ⟨_, _, _, _, rfl, _⟩ := h; rfl) | (obtain ⟨_, _, _, _, _, rfl, _⟩ := h; rfl) | (obtain ⟨_, _, _, _, _, _, rfl, _⟩ := h; rfl) | (obtain ⟨_, _, _, _, _, _, _, rfl, _⟩ := h; rfl) | (obtain ⟨_, _, _, _, _, _, _, _, rfl, _⟩ := h; rfl) | (obtain ⟨rfl, _⟩ := h; rfl)
  · obtain ⟨p, pic, rfl, hp, k⟩ := h
    refine ⟨_, (pss_one (ps_ret (pe_cmpR op_in_seq (WP.pe_callC c__sign_of hr rfl pass0 (pa_cons (pv 0) pa_nil)) (pe_tup (pa_cons (WP.pe_strL [45] (by decide +kernel)) (pa_cons (WP.pe_strL [43] (by decide +kernel)) pa_nil))) rfl))), ?_⟩
    k_updF
    refine ⟨p, pic, rfl, hp, ?_⟩
    k_updF
    refine ⟨WP.sz2, fun t ht => ?_⟩
    refine WP.inT [[45], [43]] (SqT.of upd_same) rfl ?_
    exact k _ (WP.same_new ht)
end
abbrev s_written : Stmt := top 14
abbrev N_written : List Str := ["picture", "units", "figures", "sign", "body"]
theorem sc_written : FnScope N_written ["picture", "units"] (defScope s_written) := ⟨rfl, rfl, rfl, by decide +kernel, rfl, by decide +kernel, by decide +kernel⟩
theorem padL_le : ∀ (k n : Nat), (WP.padL k n).length = k := WP.padL_len
def sp_written (K : PySem.W.Frag) (mg : WP.MG) : Sp := fun vs H Q E => ∃ (p : Addr) (pic : MP.Pic) (u : Int), vs = [.ref p, .int u] ∧ SqT K H p pic.vs ∧ pic.Ok ∧
  (¬ MP.Suits pic u → ∀ H', Same H H' → E (.ref (WP.ca mg "BadPicture")) none H') ∧ (MP.Suits pic u → WP.RetV (.str (SX.S (MP.writ pic u))) H Q)
section
variable {P : Program} {w : World} {K : PySem.W.Frag} {mg : Str → Option Value} {base : Heap}
theorem ok_written {f : Addr} {fd : FuncData} (F : Fun K "written" "written" s_written f fd) (B : Blt w K mg) (c__sign_text : WP.Callee P w K mg base CX0 1 "_sign_text" ["sign", "is_negative"] (sp__sign_text K mg)) (c__body_text : WP.Callee P w K mg base CX0 1 "_body_text" ["marks", "figures"] (sp__body_text K mg)) (c_suits : WP.Callee P w K mg base CX0 3 "suits" ["picture", "units"] (sp_suits K mg)) (c__many_digits : WP.Callee P w K mg base CX0 2 "_many_digits" ["picture"] (sp__many_digits K mg)) (c__sign_of : WP.Callee P w K mg base CX0 2 "_sign_of" ["picture"] (sp__sign_of K mg)) (c__is_sign_ahead : WP.Callee P w K mg base CX0 3 "_is_sign_ahead" ["picture"] (sp__is_sign_ahead K mg)) : FnOk P w K mg base (L2.CX P w) 4 f fd ["picture", "units"] (sp_written K mg) := by
  refine F.okX sc_written (fun vs H Q E h => ?_) (fun cdv A outer s H vs Q E hr h => ?_)
  · first | (obtain ⟨_, rfl, _⟩ := h; rfl) | (obtain ⟨_, _, rfl, _⟩ := h; rfl) | (obtain ⟨_, _, _, rfl, _⟩ := h; rfl) | (obtain ⟨_, _, _, _, rfl, _⟩ := h; rfl) | (obtain ⟨_, _, _, _, _, rfl, _⟩ := h; rfl) | (obtain ⟨_, _, _, _, _, _, rfl, _⟩ := h; rfl) | (obtain ⟨_, _, _, _, _, _, _, rfl, _⟩ := h; rfl) | (obtain ⟨_, _, _, _, _, _, _, _, rfl, _⟩ := h; rfl) | (obtain ⟨rfl, _⟩ := h; rfl)
  · obtain ⟨p, pic, u, rfl, hp, ho, kE, k⟩ := h
    refine ⟨_, (pss_cons (ps_if (pt_not (pt_val (WP.pe_callC c_suits hr rfl pass0 (pa_cons (pv 0) (pa_cons (pv 1) pa_nil))))) (pss_one (WP.ps_raiseC rfl (takes_of rfl rfl rfl rfl) B.e_BadPicture (by exact rfl))) pss_nil)
      (pss_cons (ps_set (i := 2) sc_written.nd rfl (Or.inl rfl) (pe_bm PySem.F.plainAttrs_str PySem.F.slot_str_zfill PySem.F.type_str_zfill WP.m_zfill (pe_callTy WP.c_str (by rfl) B.b_str (by decide +kernel) (pa_cons (pe_callB WP.c_abs (by rfl) B.b_abs (by decide +kernel) (pa_cons (pv 1) pa_nil)) pa_nil)) (pa_cons (WP.pe_callC c__many_digits hr rfl pass0 (pa_cons (pv 0) pa_nil)) pa_nil)))
      (pss_cons (ps_set (i := 3) sc_written.nd rfl (Or.inl rfl) (WP.pe_callC c__sign_text hr rfl pass0 (pa_cons (WP.pe_callC c__sign_of hr rfl pass0 (pa_cons (pv 0) pa_nil)) (pa_cons (pe_cmpR op_lt (pv 1) pe_int (nomark _)) pa_nil))))
      (pss_cons (ps_if (pt_cmpR op_eq (pe_ix ix_tup (pv 0) pe_int (fun _ _ => rfl)) (WP.pe_strL [110, 117, 109, 98, 101, 114] (by decide +kernel)) (nomark _)) (pss_one (ps_ret (pe_op WP.op_addS (pv 3) (pv 2)))) pss_nil)
      (pss_cons (ps_set (i := 4) sc_written.nd rfl (Or.inl rfl) (WP.pe_callC c__body_text hr rfl pass0 (pa_cons (pe_ix ix_tup (pv 0) pe_int (fun _ _ => rfl)) (pa_cons (pv 2) pa_nil))))
      (pss_one (ps_ret (pe_ifExp (pt_val (WP.pe_callC c__is_sign_ahead hr rfl pass0 (pa_cons (pv 0) pa_nil))) (pe_op WP.op_addS (pv 3) (pv 4)) (pe_op WP.op_addS (pv 4) (pv 3)))))))))), ?_⟩
    have hn := ho.n1
    k_updF
    refine ⟨p, pic, u, rfl, hp, ho, fun H1 e1 => ?_⟩
    k_updF
    refine WP.brN (fun c => ?_) (fun c => ?_)
    · exact kE c _ e1
    have hp := WP.sqt e1 hp
    have k := k c
    k_updF
    refine WP.absI ?_
    k_updF
    refine WP.strN (WP.log2_lt (by decide) (Nat.lt_of_lt_of_le c.1 (Nat.le_trans (Nat.pow_le_pow_right (by decide) hn.2) (by decide +kernel)))) ?_
    k_updF
    refine ⟨p, pic, rfl, hp, fun H2 e2 => ?_⟩
    have hp := WP.sqt e2 hp
    have e2 := e1.trans e2
    k_updF
    refine WP.zfillS (fun c hc => WP.numL_head hc) (by omega) (by omega) ?_
    rw [Int.toNat_natCast, ← WP.padL_num pic.n u.natAbs (by omega) c.1]
    k_updF
    refine ⟨p, pic, rfl, hp, ?_⟩
    k_updF
    have hsg : pic.sgn ∈ MP.signs := by
      cases pic with
      | num sg a b => cases sg with
        | false => exact (show ([] : List Nat) ∈ MP.signs by decide)
        | true => exact (show ([43] : List Nat) ∈ MP.signs by decide)
      | ed b a f s => exact ho.2.2.2
    refine ⟨pic.sgn, decide (u < 0), rfl, hsg, fun H3 e3 => ?_⟩
    have hp := WP.sqt e3 hp
    have e3 := e2.trans e3
    have lsg : ∀ s ∈ MP.signs, ∀ neg : Bool, (MP.signText s neg).length ≤ 2 := by decide
    have l1 := lsg _ hsg (decide (u < 0))
    have l2 := WP.padL_len pic.n u.natAbs
    cases pic with
    | num sg a b =>
      k_updF
      refine WP.ixT hp WP.at0 ?_
      k_updF
      refine WP.brT (by decide) ?_
      k_updF
      refine WP.catS ?_ (by rw [sizeLine_eq]; omega)
      exact k _ e3
    | ed b a f s =>
      k_updF
      refine WP.ixT hp WP.at0 ?_
      k_updF
      refine WP.brF (by decide) ?_
      k_updF
      refine WP.ixT hp WP.at1 ?_
      k_updF
      refine ⟨b, _, _, rfl, ho.2.2.1, l2, by show a + f ≤ 100; exact Nat.le_trans ho.2.1 (by decide), fun H4 e4 => ?_⟩
      have e4' := e3.trans e4
      have lb : (MP.bodyText b (WP.padL (a + f) u.natAbs)).length ≤ 60 := by
        have : ∀ (fill : Nat) (ms : List Nat) (hid : Bool) (fs : List Nat), (MP.bodyF fill hid ms fs).length ≤ ms.length := fun fill ms => by
          induction ms with
          | nil => intro hid fs; rw [MP.bodyF]; exact Nat.le_refl _
          | cons m ms ih =>
            intro hid fs
            conv => lhs; unfold MP.bodyF
            split
            · split
              · exact Nat.zero_le _
              · exact Nat.succ_le_succ (ih _ _)
            · split
              · exact Nat.succ_le_succ (ih _ _)
              · exact Nat.succ_le_succ (ih _ _)
        exact Nat.le_trans (this _ _ _ _) ho.2.2.1.ln
      k_updF
      refine ⟨p, _, rfl, WP.sqt e4 hp, fun H5 e5 => ?_⟩
      have e5' := e4'.trans e5
      have kk : WP.RetV (.str (SX.S (if s = [45] ∨ s = [43] then MP.signText s (decide (u < 0)) ++ MP.bodyText b (WP.padL (a + f) u.natAbs) else MP.bodyText b (WP.padL (a + f) u.natAbs) ++ MP.signText s (decide (u < 0))))) H Q := k
      k_updF
      have l1' : (MP.signText s (decide (u < 0))).length ≤ 2 := l1
      refine WP.br (fun d => ?_) (fun d => ?_)
      · k_updF
        refine WP.catS ?_ (by rw [sizeLine_eq]; show (MP.signText s _).length + (MP.bodyText b (WP.padL (a + f) _)).length ≤ _; omega)
        rw [if_pos (by simpa [MP.Pic.sgn] using d)] at kk
        exact kk _ e5'
      · k_updF
        refine WP.catS ?_ (by rw [sizeLine_eq]; show (MP.bodyText b (WP.padL (a + f) _)).length + (MP.signText s _).length ≤ _; omega)
        rw [if_neg (by simpa [MP.Pic.sgn] using d)] at kk
        exact kk _ e5'
end
abbrev s__law_try : Stmt := top 29
abbrev N__law_try : List Str := ["picture", "units", "e"]
theorem sc__law_try : FnScope N__law_try ["picture", "units"] (defScope s__law_try) := ⟨rfl, rfl, rfl, by decide +kernel, rfl, by decide +kernel, by decide +kernel⟩
def sp__law_try (K : PySem.W.Frag) (mg : WP.MG) : Sp := fun vs H Q _ => ∃ (p : Addr) (pic : MP.Pic) (u : Int), vs = [.ref p, .int u] ∧ SqT K H p pic.vs ∧ pic.Ok ∧
  (¬ MP.Suits pic u → WP.RetV (.bl true) H Q) ∧ (MP.Suits pic u → WP.RetV (.str (SX.S (MP.writ pic u))) H Q)
section
variable {P : Program} {w : World} {K : PySem.W.Frag} {mg : Str → Option Value} {base : Heap}
theorem ok__law_try {f : Addr} {fd : FuncData} (F : Fun K "_law_try" "_law_try" s__law_try f fd) (B : Blt w K mg) (c_written : WP.Callee P w K mg base (L2.CX P w) 4 "written" ["picture", "units"] (sp_written K mg)) : FnOk P w K mg base CX0 5 f fd ["picture", "units"] (sp__law_try K mg) := by
  refine F.ok sc__law_try (fun vs H Q E h => ?_) (fun cdv A outer s H vs Q E hr h => ?_)
  · first | (obtain ⟨_, rfl, _⟩ := h; rfl) | (obtain ⟨_, _, rfl, _⟩ := h; rfl) | (obtain ⟨_, _, _, rfl, _⟩ := h; rfl) | (obtain ⟨_, _, _, _, rfl, _⟩ := h; rfl) | (obtain ⟨_, _, _, _, _, rfl, _⟩ := h; rfl) | (obtain ⟨_, _, _, _, _, _, rfl, _⟩ := h; rfl) | (obtain ⟨_, _, _, _, _, _, _, rfl, _⟩ := h; rfl) | (obtain ⟨_, _, _, _, _, _, _, _, rfl, _⟩ := h; rfl) | (obtain ⟨rfl, _⟩ := h; rfl)
  · obtain ⟨p, pic, u, rfl, hp, ho, kE, kQ⟩ := h
    refine ⟨_, (pss_one (ps_try_as (i := 2) (tb := fun W => (tRet (tCallS (sp_written K mg) (WE W) (tCons (tVar 0) (tCons (tVar 1) tNil))))) (ts := fun a cls d => (tRet (tCB (WP.rIsX K a cls d) (tCons (tVar 2) (tCons (tC (.ref (WP.ca mg "BadPicture"))) tNil))))) (Wout := (fun _ _ _ _ => False)) rfl rfl sc__law_try.nd rfl rfl ⟨rfl, by decide, Or.inl B.e_CardError.m⟩ takes0
        (fun W pn xe tk _ => (pss_one (ps_ret (WP.pe_callSC c_written hr rfl (fun σ => passAt tk σ) (pa_cons (pv 0) (pa_cons (pv 1) pa_nil))))))
        (fun a oe cls d pn hz hf => (pss_one (ps_ret (pe_callB (WP.call_isX hz hf) (by rfl) B.b_isinstance (by decide +kernel) (pa_cons (pv 2) (pa_cons (pe_glob rfl B.e_BadPicture.m rfl) pa_nil)))))))), ?_⟩
    k_updF
    refine WP.callS ?_
    k_updF
    refine ⟨p, pic, u, rfl, hp, ho, fun c H' e => ?_, kQ⟩
    refine ⟨true, B.e_CardError.a.catches B.s_BadPicture_CardError, fun _ a na => ?_, fun z => Bool.noConfusion z⟩
    k_updF
    refine WP.isX B.e_BadPicture.a.c B.i_BadPicture_BadPicture ?_
    exact kE c _ e
end
abbrev s__law_figures : Stmt := top 25
abbrev N__law_figures : List Str := ["units", "size", "figures", "k"]
theorem sc__law_figures : FnScope N__law_figures ["units", "size"] (defScope s__law_figures) := ⟨rfl, rfl, rfl, by decide +kernel, rfl, by decide +kernel, by decide +kernel⟩
def sp__law_figures (K : PySem.W.Frag) (mg : WP.MG) : Sp := fun vs H Q _ => ∃ (u : Int) (n : Nat), vs = [.int u, .int (n : Int)] ∧ 1 ≤ n ∧ n ≤ 18 ∧ u.natAbs < 10 ^ n ∧ Q (.str (SX.S (WP.padL n u.natAbs))) H
section
variable {P : Program} {w : World} {K : PySem.W.Frag} {mg : Str → Option Value} {base : Heap}
theorem ok__law_figures {f : Addr} {fd : FuncData} (F : Fun K "_law_figures" "_law_figures" s__law_figures f fd) (B : Blt w K mg)  : FnOk P w K mg base CX0 1 f fd ["units", "size"] (sp__law_figures K mg) := by
  refine F.ok sc__law_figures (fun vs H Q E h => ?_) (fun cdv A outer s H vs Q E hr h => ?_)
  · first | (obtain ⟨_, rfl, _⟩ := h; rfl) | (obtain ⟨_, _, rfl, _⟩ := h; rfl) | (obtain ⟨_, _, _, rfl, _⟩ := h; rfl) | (obtain ⟨_, _, _, _, rfl, _⟩ := h; rfl) | (obtain ⟨_, _, _, _, _, rfl, _⟩ := h; rfl) | (obtain ⟨_, _, _, _, _, _, rfl, _⟩ := h; rfl) | (obtain ⟨_, _, _, _, _, _, _, rfl, _⟩ := h; rfl) | (obtain ⟨_, _, _, _, _, _, _, _, rfl, _⟩ := h; rfl) | (obtain ⟨rfl, _⟩ := h; rfl)
  · obtain ⟨u, n, rfl, n1, n18, hu, k⟩ := h
    refine ⟨_, (pss_cons (ps_set (i := 2) sc__law_figures.nd rfl (Or.inl rfl) (pe_callTy WP.c_str (by rfl) B.b_str (by decide +kernel) (pa_cons (pe_callB WP.c_abs (by rfl) B.b_abs (by decide +kernel) (pa_cons (pv 0) pa_nil)) pa_nil)))
      (pss_cons (ps_for PassesOwn.never rfl (pi_range1 rfl B.b_range (pa_cons (pv 1) pa_nil)) (pg_name (i := 3) sc__law_figures.nd rfl (Or.inl rfl)) (pss_one (ps_if (pt_cmpR op_lt (pe_callB WP.c_len (by rfl) B.b_len (by decide +kernel) (pa_cons (pv 2) pa_nil)) (pv 1) (nomark _)) (pss_one (ps_set (i := 2) sc__law_figures.nd rfl (Or.inl rfl) (pe_op WP.op_addS (WP.pe_strL [48] (by decide +kernel)) (pv 2)))) pss_nil)))
      (pss_one (ps_ret (pv 2))))), ?_⟩
    have hl := TL.numL_len (by omega) hu
    rw [WP.padL_num n u.natAbs (by omega) hu] at k
    generalize hN : TL.numL u.natAbs = N at k hl
    k_updF
    refine WP.absI ?_
    k_updF
    refine WP.strN (WP.log2_lt (by decide) (Nat.lt_of_lt_of_le hu (Nat.le_trans (Nat.pow_le_pow_right (by decide) n18) (by decide +kernel)))) ?_
    rw [hN]
    k_updF
    refine ⟨_, rfl, by omega, by omega, for_range (lo := 0) (n := _) (fun i σ' H' => H' = H ∧ ∃ z, σ' = [some (.int u), some (.int (n : Int)), some (.str (SX.S (List.replicate (min i (n - N.length)) 48 ++ N))), z]) ⟨rfl, none, by rw [Nat.zero_min]; rfl⟩ ?_ ?_⟩
    · rintro i σ' H' hi ⟨rfl, z, rfl⟩
      have hL : (List.replicate (min i (n - N.length)) 48 ++ N).length = min i (n - N.length) + N.length := by rw [List.length_append, List.length_replicate]
      k_updF
      refine WP.lenS' (by rw [sizeLine_eq, hL]; omega) ?_
      rw [hL]
      k_updF
      refine WP.br (fun c => ?_) (fun c => ?_)
      · k_updF
        refine WP.catS ?_ (by rw [sizeLine_eq, hL]; show 1 + _ ≤ _; omega)
        k_updF
        refine ⟨rfl, some (.int (0 + (i : Int))), ?_⟩
        rw [show min (i + 1) (n - N.length) = min i (n - N.length) + 1 by omega, List.replicate_succ]
        rfl
      · k_updF
        refine ⟨rfl, some (.int (0 + (i : Int))), ?_⟩
        rw [show min (i + 1) (n - N.length) = min i (n - N.length) by omega]
        rfl
    · rintro σ' H' ⟨rfl, z, rfl⟩
      rw [Int.toNat_natCast, show min n (n - N.length) = n - N.length by omega]
      k_updF
      exact k
end
abbrev s__law_body : Stmt := top 26
abbrev N__law_body : List Str := ["marks", "figures", "hiding", "filler", "text", "at", "mark"]
theorem sc__law_body : FnScope N__law_body ["marks", "figures"] (defScope s__law_body) := ⟨rfl, rfl, rfl, by decide +kernel, rfl, by decide +kernel, by decide +kernel⟩
def sp__law_body (K : PySem.W.Frag) (mg : WP.MG) : Sp := fun vs H Q _ => ∃ (b fs : List Nat) (n : Nat), vs = [.str (SX.S b), .str (SX.S fs)] ∧ MP.Body b n ∧ fs.length = n ∧ n ≤ 100 ∧ WP.RetV (.str (SX.S (MP.bodyText b fs))) H Q
section
variable {P : Program} {w : World} {K : PySem.W.Frag} {mg : Str → Option Value} {base : Heap}
theorem ok__law_body {f : Addr} {fd : FuncData} (F : Fun K "_law_body" "_law_body" s__law_body f fd) (B : Blt w K mg)  : FnOk P w K mg base CX0 1 f fd ["marks", "figures"] (sp__law_body K mg) := by
  refine F.ok sc__law_body (fun vs H Q E h => ?_) (fun cdv A outer s H vs Q E hr h => ?_)
  · first | (obtain ⟨_, rfl, _⟩ := h; rfl) | (obtain ⟨_, _, rfl, _⟩ := h; rfl) | (obtain ⟨_, _, _, rfl, _⟩ := h; rfl) | (obtain ⟨_, _, _, _, rfl, _⟩ := h; rfl) | (obtain ⟨_, _, _, _, _, rfl, _⟩ := h; rfl) | (obtain ⟨_, _, _, _, _, _, rfl, _⟩ := h; rfl) | (obtain ⟨_, _, _, _, _, _, _, rfl, _⟩ := h; rfl) | (obtain ⟨_, _, _, _, _, _, _, _, rfl, _⟩ := h; rfl) | (obtain ⟨rfl, _⟩ := h; rfl)
  · obtain ⟨b, fs, n, rfl, hb, hf, hn, k⟩ := h
    refine ⟨_, (pss_cons (ps_set (i := 2) sc__law_body.nd rfl (Or.inl rfl) (pe_cmpR op_ne (pe_ix ix_str (pv 0) pe_int (fun _ _ => rfl)) (WP.pe_strL [57] (by decide +kernel)) (nomark _)))
      (pss_cons (ps_set (i := 3) sc__law_body.nd rfl (Or.inl rfl) (pe_ifExp (pt_cmpR op_eq (pe_ix ix_str (pv 0) pe_int (fun _ _ => rfl)) (WP.pe_strL [42] (by decide +kernel)) (nomark _)) (WP.pe_strL [42] (by decide +kernel)) (WP.pe_strL [32] (by decide +kernel))))
      (pss_cons (ps_set (i := 4) sc__law_body.nd rfl (Or.inl rfl) (WP.pe_strL [] (by decide +kernel)))
      (pss_cons (ps_set (i := 5) sc__law_body.nd rfl (Or.inl rfl) pe_int)
      (pss_cons (ps_for PassesOwn.never rfl (pi_str (pv 0)) (pg_name (i := 6) sc__law_body.nd rfl (Or.inl rfl)) (pss_one (ps_if (pt_cmpR WP.op_inSign (pv 6) (WP.pe_strL [44, 98, 48, 47] (by decide +kernel)) rfl) (pss_one (ps_set (i := 4) sc__law_body.nd rfl (Or.inl rfl) (pe_op WP.op_addS (pv 4) (pe_ifExp (pt_val (pv 2)) (pv 3) (WP.pe_dgetD (hu_of hr) (pe_disp (pps_cons (WP.pe_strL [98] (by decide +kernel)) (WP.pe_strL [32] (by decide +kernel)) pps_nil) (by rfl) (by rfl) (fun h => nomatch h) (by decide)) (pv 6) (pv 6) ⟨by rfl, by rfl, by rfl, by rfl⟩))))) (pss_one (ps_if (pt_cmpR op_eq (pv 6) (WP.pe_strL [46] (by decide +kernel)) (nomark _)) (pss_cons (ps_set (i := 2) sc__law_body.nd rfl (Or.inl rfl) pe_bl)
      (pss_one (ps_set (i := 4) sc__law_body.nd rfl (Or.inl rfl) (pe_op WP.op_addS (pv 4) (WP.pe_strL [46] (by decide +kernel)))))) (Evl.pss_cut (ps_if (PW.pt (pw_or (pt_cmpR op_eq (pv 6) (WP.pe_strL [57] (by decide +kernel)) (nomark _)) (pw_or1 (pt_cmpR op_ne (pe_ix ix_str (pv 1) (pv 5) (fun _ _ => rfl)) (WP.pe_strL [48] (by decide +kernel)) (nomark _))))) (pss_one (ps_set (i := 2) sc__law_body.nd rfl (Or.inl rfl) pe_bl)) pss_nil)
      (pss_cons (ps_set (i := 4) sc__law_body.nd rfl (Or.inl rfl) (pe_op WP.op_addS (pv 4) (pe_ifExp (pt_val (pv 2)) (pv 3) (pe_ix ix_str (pv 1) (pv 5) (fun _ _ => rfl)))))
      (pss_one (ps_set (i := 5) sc__law_body.nd rfl (Or.inl rfl) (pe_op op_add (pv 5) pe_int))))))))))
      (pss_one (ps_ret (pv 4)))))))), ?_⟩
    obtain ⟨c0, r0, hb0, hD0⟩ := hb.hd
    have hlen := hb.ln
    have hl : b.length ≤ sizeLine := by rw [sizeLine_eq]; omega
    have hfl : fs.length ≤ sizeLine := by rw [sizeLine_eq]; omega
    have at0 : atI b (0 : Int) = some c0 := by rw [hb0]; exact WP.at0
    have hh : MP.hd b = c0 := by rw [hb0]; rfl
    k_updF
    refine WP.ixS1 at0 hl ?_
    k_updF
    refine WP.ixS1 at0 hl ?_
    k_updF
    refine WP.ifSS ?_
    have ef : (if [c0] = [42] then [42] else [32]) = [MP.fillOf b] := by
      unfold MP.fillOf
      rw [hh]
      by_cases h : c0 = 42
      · subst h; rfl
      · rw [if_neg (by simpa using h), if_neg h]
    have e57 : ∀ c : Nat, decide ([c] = [57]) = (c == 57) := fun c => by
      by_cases h : c = 57
      · subst h; rfl
      · rw [decide_eq_false (by simpa using h), beq_eq_false_iff_ne.mpr h]
    have e48 : ∀ c : Nat, decide ([c] = [48]) = (c == 48) := fun c => by
      by_cases h : c = 48
      · subst h; rfl
      · rw [decide_eq_false (by simpa using h), beq_eq_false_iff_ne.mpr h]
    rw [ef, e57]
    have eT : MP.bodyText b fs = MP.bodyF (MP.fillOf b) (!(MP.hd b == 57)) b fs := rfl
    rw [hh] at eT
    generalize MP.bodyText b fs = T at eT k
    generalize MP.fillOf b = fill at eT ⊢
    k_updF
    refine ⟨_, rfl, WP.for_txt (fun i σ' H' => ∃ (hid : Bool) (acc : List Nat) (a : Nat) (z6 : Option V), σ' = [some (.str (SX.S b)), some (.str (SX.S fs)), some (.bl hid), some (.str (SX.S [fill])), some (.str (SX.S acc)), some (.int (a : Int)), z6] ∧
      Same H H' ∧ acc ++ MP.bodyF fill hid (b.drop i) (fs.drop a) = T ∧ ((b.drop i).filter MP.isD).length = (fs.drop a).length ∧ acc.length = i ∧ i ≤ b.length)
      ⟨_, [], 0, none, rfl, Same.refl _, by rw [List.drop_zero, List.drop_zero, eT]; rfl, by rw [List.drop_zero, List.drop_zero, hb.ct, hf], rfl, Nat.zero_le _⟩ ?_ ?_⟩
    · rintro i c σ' H1 hc ⟨hid, acc, a, z6, rfl, e1, hT, hF, hA, hi⟩
      have hds := MP.drop_some hc
      obtain ⟨hib, hget⟩ := List.getElem?_eq_some_iff.mp hc
      have hok : MP.okM c = true := hb.ok c (by rw [← hget]; exact List.getElem_mem hib)
      rw [hds] at hT hF
      have hz : acc.length + [fill].length ≤ sizeLine := by rw [sizeLine_eq]; show _ + 1 ≤ _; omega
      have fin : ∀ (hid' : Bool) (ch a' : Nat) (H' : Hp), Same H H' → MP.bodyF fill hid (c :: b.drop (i + 1)) (fs.drop a) = ch :: MP.bodyF fill hid' (b.drop (i + 1)) (fs.drop a') → ((b.drop (i + 1)).filter MP.isD).length = (fs.drop a').length →
          ∃ (hid : Bool) (acc' : List Nat) (a : Nat) (z6 : Option V), [some (V.str (SX.S b)), some (.str (SX.S fs)), some (.bl hid'), some (.str (SX.S [fill])), some (.str (SX.S (acc ++ [ch]))), some (.int (a' : Int)), some (.str (SX.S [c]))] = [some (.str (SX.S b)), some (.str (SX.S fs)), some (.bl hid), some (.str (SX.S [fill])), some (.str (SX.S acc')), some (.int (a : Int)), z6] ∧
            Same H H' ∧ acc' ++ MP.bodyF fill hid (b.drop (i + 1)) (fs.drop a) = T ∧ ((b.drop (i + 1)).filter MP.isD).length = (fs.drop a).length ∧ acc'.length = i + 1 ∧ i + 1 ≤ b.length := fun hid' ch a' H' e' h1 h2 =>
        ⟨hid', acc ++ [ch], a', _, rfl, e', by rw [← hT, h1, List.append_assoc]; rfl, h2, by rw [List.length_append, hA]; rfl, hib⟩
      k_updF
      refine WP.inSign ?_
      rw [MP.memJ]
      k_updF
      cases hI : MP.isI c with
      | true =>
        have hI' : c = 44 ∨ c = 98 ∨ c = 48 ∨ c = 47 := by simpa [MP.isI, or_assoc] using hI
        have hD : MP.isD c = false := by rcases hI' with rfl | rfl | rfl | rfl <;> rfl
        have h46 : c ≠ 46 := by rcases hI' with rfl | rfl | rfl | rfl <;> decide
        rw [List.filter_cons, if_neg (by rw [hD]; exact Bool.false_ne_true)] at hF
        refine WP.brT rfl ?_
        k_updF
        cases hid with
        | true =>
          refine WP.brT rfl ?_
          k_updF
          refine WP.catS ?_ hz
          k_updF
          exact fin true fill a _ e1 (MP.bodyF_I hD h46) hF
        | false =>
          refine WP.brF rfl ?_
          refine WP.dget2 (WP.disp1 fun D hD' => ?_)
          refine ⟨D, rfl, .inl ⟨_, .inl upd_same⟩, ?_⟩
          k_updF
          refine ⟨_, DGet.k (k := .inr (SX.S [c])) upd_same, ?_⟩
          have ev : (valV [((Sum.inr (SX.S [98]) : Key), V.str (SX.S [32]))] (.inr (SX.S [c]))).getD (.str (SX.S [c])) = .str (SX.S [MP.insM c]) := by
            rw [WP.valV1]
            unfold MP.insM
            by_cases h : c = 98
            · subst h; rfl
            · rw [if_neg (fun e => h (by simpa using e.symm)), if_neg h]; rfl
          rw [ev]
          refine WP.catS ?_ hz
          k_updF
          exact fin false (MP.insM c) a _ (e1.trans (WP.same_disp hD')) (MP.bodyF_I hD h46) hF
      | false =>
        refine WP.brF rfl ?_
        k_updF
        by_cases h46 : c = 46
        · subst h46
          rw [List.filter_cons, if_neg (by decide)] at hF
          refine WP.brT (by decide) ?_
          k_updF
          refine WP.catS ?_ hz
          k_updF
          exact fin false 46 a _ e1 MP.bodyF_P hF
        · have hD : MP.isD c = true := by
            have : (c == 46) = false := beq_eq_false_iff_ne.mpr h46
            simpa [MP.okM, hI, this] using hok
          refine WP.brF (decide_eq_false (by simpa using h46)) ?_
          rw [List.filter_cons, if_pos hD, List.length_cons] at hF
          have ha : a < fs.length := by rw [List.length_drop] at hF; omega
          have hfs := MP.drop_some (l := fs) (i := a) (c := fs[a]) (List.getElem?_eq_getElem ha)
          have hat : atI fs (a : Int) = some fs[a] := atI_nat (List.getElem?_eq_getElem ha)
          generalize fs[a] = d at hfs hat
          have hF' : ((b.drop (i + 1)).filter MP.isD).length = (fs.drop (a + 1)).length := by rw [hfs, List.length_cons] at hF; omega
          refine WP.cut (fun σ' H' => H' = H1 ∧ σ' = [some (.str (SX.S b)), some (.str (SX.S fs)), some (.bl (hid && (!(c == 57)) && (d == 48))), some (.str (SX.S [fill])), some (.str (SX.S acc)), some (.int (a : Int)), some (.str (SX.S [c]))]) ?_ ?_
          · k_updF
            rw [e57]
            cases h57 : (c == 57) with
            | true =>
              refine WP.brT rfl ?_
              refine WP.brT rfl ?_
              k_updF
              refine ⟨rfl, ?_⟩
              cases hid <;> rfl
            | false =>
              refine WP.brF rfl ?_
              k_updF
              refine WP.ixS1 hat hfl ?_
              k_updF
              rw [e48]
              cases h48 : (d == 48) with
              | true =>
                refine WP.brF rfl ?_
                k_updF
                refine ⟨rfl, ?_⟩
                cases hid <;> rfl
              | false =>
                refine WP.brT rfl ?_
                k_updF
                refine ⟨rfl, ?_⟩
                cases hid <;> rfl
          rintro σ' H' ⟨rfl, rfl⟩
          have hB : MP.bodyF fill hid (c :: b.drop (i + 1)) (fs.drop a) = (if (hid && (!(c == 57)) && (d == 48)) = true then fill else d) :: MP.bodyF fill (hid && (!(c == 57)) && (d == 48)) (b.drop (i + 1)) (fs.drop (a + 1)) := by rw [hfs, MP.bodyF_D hD]
          generalize (hid && (!(c == 57)) && (d == 48)) = h' at hB ⊢
          k_updF
          cases h' with
          | true =>
            refine WP.brT rfl ?_
            k_updF
            refine WP.catS ?_ hz
            k_updF
            exact fin true fill (a + 1) _ e1 hB hF'
          | false =>
            refine WP.brF rfl ?_
            k_updF
            refine WP.ixS1 hat hfl ?_
            refine WP.catS ?_ hz
            k_updF
            exact fin false d (a + 1) _ e1 hB hF'
    · rintro σ' H1 ⟨hid, acc, a, z6, rfl, e1, hT, hF, hA, hi⟩
      rw [List.drop_length] at hT
      have e0 : MP.bodyF fill hid [] (fs.drop a) = [] := by rw [MP.bodyF]
      rw [e0, List.append_nil] at hT
      subst hT
      k_updF
      exact k _ e1
end
abbrev s__law_written : Stmt := top 27
abbrev N__law_written : List Str := ["picture", "units", "figures", "sign", "body", "mark"]
theorem sc__law_written : FnScope N__law_written ["picture", "units"] (defScope s__law_written) := ⟨rfl, rfl, rfl, by decide +kernel, rfl, by decide +kernel, by decide +kernel⟩
def sp__law_written (K : PySem.W.Frag) (mg : WP.MG) : Sp := fun vs H Q _ => ∃ (p : Addr) (pic : MP.Pic) (u : Int), vs = [.ref p, .int u] ∧ SqT K H p pic.vs ∧ pic.Ok ∧ MP.Suits pic u ∧ WP.RetV (.str (SX.S (MP.writ pic u))) H Q
section
variable {P : Program} {w : World} {K : PySem.W.Frag} {mg : Str → Option Value} {base : Heap}
theorem ok__law_written {f : Addr} {fd : FuncData} (F : Fun K "_law_written" "_law_written" s__law_written f fd) (B : Blt w K mg) (c__law_figures : WP.Callee P w K mg base CX0 1 "_law_figures" ["units", "size"] (sp__law_figures K mg)) (c__law_body : WP.Callee P w K mg base CX0 1 "_law_body" ["marks", "figures"] (sp__law_body K mg)) : FnOk P w K mg base CX0 2 f fd ["picture", "units"] (sp__law_written K mg) := by
  refine F.ok sc__law_written (fun vs H Q E h => ?_) (fun cdv A outer s H vs Q E hr h => ?_)
  · first | (obtain ⟨_, rfl, _⟩ := h; rfl) | (obtain ⟨_, _, rfl, _⟩ := h; rfl) | (obtain ⟨_, _, _, rfl, _⟩ := h; rfl) | (obtain ⟨_, _, _, _, rfl, _⟩ := h; rfl) | (obtain ⟨_, _, _, _, _, rfl, _⟩ := h; rfl) | (obtain ⟨_, _, _, _, _, _, rfl, _⟩ := h; rfl) | (obtain ⟨_, _, _, _, _, _, _, rfl, _⟩ := h; rfl) | (obtain ⟨_, _, _, _, _, _, _, _, rfl, _⟩ := h; rfl) | (obtain ⟨rfl, _⟩ := h; rfl)
  · obtain ⟨p, pic, u, rfl, hp, ho, hs, k⟩ := h
    refine ⟨_, (pss_cons (ps_set (i := 2) sc__law_written.nd rfl (Or.inl rfl) (WP.pe_callC c__law_figures hr rfl pass0 (pa_cons (pv 1) (pa_cons (pe_op op_add (pe_ix ix_tup (pv 0) pe_int (fun _ _ => rfl)) (pe_ix ix_tup (pv 0) pe_int (fun _ _ => rfl))) pa_nil))))
      (pss_cons (ps_if (pt_cmpR op_eq (pe_ix ix_tup (pv 0) pe_int (fun _ _ => rfl)) (WP.pe_strL [110, 117, 109, 98, 101, 114] (by decide +kernel)) (nomark _)) (pss_cons (ps_set (i := 3) sc__law_written.nd rfl (Or.inl rfl) (pe_ifExp (pt_cmpR op_lt (pv 1) pe_int (nomark _)) (WP.pe_strL [45] (by decide +kernel)) (WP.pe_strL [43] (by decide +kernel))))
      (pss_one (ps_ret (pe_ifExp (pt_val (pe_ix ix_tup (pv 0) pe_int (fun _ _ => rfl))) (pe_op WP.op_addS (pv 3) (pv 2)) (pv 2))))) pss_nil)
      (pss_cons (ps_set (i := 4) sc__law_written.nd rfl (Or.inl rfl) (WP.pe_callC c__law_body hr rfl pass0 (pa_cons (pe_ix ix_tup (pv 0) pe_int (fun _ _ => rfl)) (pa_cons (pv 2) pa_nil))))
      (pss_cons (ps_set (i := 3) sc__law_written.nd rfl (Or.inl rfl) (pe_ix ix_tup (pv 0) pe_int (fun _ _ => rfl)))
      (pss_cons (ps_if (pt_cmpR op_eq (pv 3) (WP.pe_strL [] (by decide +kernel)) (nomark _)) (pss_one (ps_ret (pv 4))) pss_nil)
      (pss_cons (ps_if (PW.pt (pw_or (pt_cmpR op_eq (pv 3) (WP.pe_strL [99, 114] (by decide +kernel)) (nomark _)) (pw_or1 (pt_cmpR op_eq (pv 3) (WP.pe_strL [100, 98] (by decide +kernel)) (nomark _))))) (pss_one (ps_ret (pe_op WP.op_addS (pv 4) (pe_ifExp (pt_cmpR op_lt (pv 1) pe_int (nomark _)) (pe_bm0 PySem.F.plainAttrs_str PySem.F.slot_str_upper PySem.F.type_str_upper WP.m_upper (pv 3)) (WP.pe_strL [32, 32] (by decide +kernel)))))) pss_nil)
      (pss_cons (ps_set (i := 5) sc__law_written.nd rfl (Or.inl rfl) (pe_ifExp (pt_cmpR op_lt (pv 1) pe_int (nomark _)) (WP.pe_strL [45] (by decide +kernel)) (pe_dget (hu_of hr) (pe_disp (pps_cons (WP.pe_strL [45] (by decide +kernel)) (WP.pe_strL [32] (by decide +kernel)) (pps_cons (WP.pe_strL [43] (by decide +kernel)) (WP.pe_strL [43] (by decide +kernel)) pps_nil)) (by rfl) (by rfl) (fun h => nomatch h) (by decide)) (pe_ix ix_str (pv 3) (pe_un un_neg pe_int) (fun _ _ => rfl)) (fun _ _ => rfl))))
      (pss_one (ps_ret (pe_ifExp (pt_cmpR op_eq (pe_callB WP.c_len (by rfl) B.b_len (by decide +kernel) (pa_cons (pv 3) pa_nil)) pe_int (nomark _)) (pe_op WP.op_addS (pv 5) (pv 4)) (pe_op WP.op_addS (pv 4) (pv 5)))))))))))), ?_⟩
    have hn := ho.n1
    k_updF
    refine WP.ixT hp (MP.at_w pic) ?_
    k_updF
    refine WP.ixT hp (MP.at_f pic) ?_
    k_updF
    rw [← Int.natCast_add]
    refine ⟨u, pic.n, rfl, hn.1, hn.2, hs.1, ?_⟩
    have l2 := WP.padL_len pic.n u.natAbs
    cases pic with
    | num sg a b =>
      have ps : ∀ {u : Int}, 0 ≤ u ∨ sg = true → sg = false → ¬ u < 0 := fun h e => by
        rcases h with h | h
        · omega
        · rw [e] at h; cases h
      k_updF
      refine WP.ixT hp WP.at0 ?_
      k_updF
      refine WP.brT (by decide) ?_
      k_updF
      refine WP.ifSS ?_
      k_updF
      refine WP.ixT hp WP.at1 ?_
      k_updF
      have kk : WP.RetV (.str (SX.S (MP.signText (if sg then [43] else []) (decide (u < 0)) ++ WP.padL (a + b) u.natAbs))) H Q := k
      cases sg with
      | true =>
        refine WP.brT rfl ?_
        k_updF
        refine WP.catS ?_ (by rw [sizeLine_eq, l2]; have := hn.2; split <;> show 1 + _ ≤ _ <;> omega)
        have e : MP.signText (if true = true then [43] else []) (decide (u < 0)) = if u < 0 then [45] else [43] := by
          by_cases c : u < 0
          · rw [decide_eq_true c, if_pos c]; rfl
          · rw [decide_eq_false c, if_neg c]; rfl
        rw [e] at kk
        exact kk _ (Same.refl _)
      | false =>
        refine WP.brF rfl ?_
        k_updF
        rw [decide_eq_false (ps hs.2 rfl)] at kk
        exact kk _ (Same.refl _)
    | ed b a f s =>
      k_updF
      refine WP.ixT hp WP.at0 ?_
      k_updF
      refine WP.brF (by decide) ?_
      k_updF
      refine WP.ixT hp WP.at1 ?_
      k_updF
      refine ⟨b, _, _, rfl, ho.2.2.1, l2, by show a + f ≤ 100; exact Nat.le_trans ho.2.1 (by decide), fun H1 e1 => ?_⟩
      have hp := WP.sqt e1 hp
      have lb : (MP.bodyText b (WP.padL (MP.Pic.ed b a f s).n u.natAbs)).length ≤ 60 := by
        have : ∀ (fill : Nat) (ms : List Nat) (hid : Bool) (fs : List Nat), (MP.bodyF fill hid ms fs).length ≤ ms.length := fun fill ms => by
          induction ms with
          | nil => intro hid fs; rw [MP.bodyF]; exact Nat.le_refl _
          | cons m ms ih =>
            intro hid fs
            conv => lhs; unfold MP.bodyF
            split
            · split
              · exact Nat.zero_le _
              · exact Nat.succ_le_succ (ih _ _)
            · split
              · exact Nat.succ_le_succ (ih _ _)
              · exact Nat.succ_le_succ (ih _ _)
        exact Nat.le_trans (this _ _ _ _) ho.2.2.1.ln
      have kk : WP.RetV (.str (SX.S (if s = [45] ∨ s = [43] then MP.signText s (decide (u < 0)) ++ MP.bodyText b (WP.padL (MP.Pic.ed b a f s).n u.natAbs) else MP.bodyText b (WP.padL (MP.Pic.ed b a f s).n u.natAbs) ++ MP.signText s (decide (u < 0))))) H Q := k
      clear k
      generalize MP.bodyText b (WP.padL (MP.Pic.ed b a f s).n u.natAbs) = T at kk lb ⊢
      have hz : ∀ x : List Nat, x.length ≤ 2 → T.length + x.length ≤ sizeLine := fun x hx => by rw [sizeLine_eq]; omega
      have hz' : ∀ x : List Nat, x.length ≤ 2 → x.length + T.length ≤ sizeLine := fun x hx => by rw [sizeLine_eq]; omega
      k_updF
      refine WP.ixT hp WP.at4 ?_
      k_updF
      have hs' : s = [] ∨ s = [45] ∨ s = [43] ∨ s = [46, 45] ∨ s = [46, 43] ∨ s = [99, 114] ∨ s = [100, 98] := by simpa [MP.signs] using ho.2.2.2
      rcases hs' with rfl | rfl | rfl | rfl | rfl | rfl | rfl
      · refine WP.brT rfl ?_
        k_updF
        have e : T ++ MP.signText [] (decide (u < 0)) = T := List.append_nil T
        rw [if_neg (by decide), e] at kk
        exact kk _ e1
      case inr.inr.inr.inr.inr.inl | inr.inr.inr.inr.inr.inr =>
        refine WP.brF (by decide) ?_
        k_updF
        first
          | (refine WP.brT (by decide) ?_; refine WP.brT rfl ?_)
          | (refine WP.brF (by decide) ?_; k_updF; refine WP.brT (by decide) ?_)
        rw [if_neg (by decide)] at kk
        k_updF
        refine WP.br (fun c => ?_) (fun c => ?_)
        · rw [decide_eq_true c] at kk
          k_updF
          refine WP.upS (by decide) (by decide) ?_
          refine WP.catS ?_ (hz _ (by decide))
          exact kk _ e1
        · rw [decide_eq_false c] at kk
          k_updF
          refine WP.catS ?_ (hz _ (by decide))
          exact kk _ e1
      all_goals
        refine WP.brF (by decide) ?_
        k_updF
        refine WP.brF (by decide) ?_
        k_updF
        refine WP.brF (by decide) ?_
        k_updF
        refine WP.br (fun c => ?_) (fun c => ?_)
      case inr.inl.refine_1 | inr.inr.inl.refine_1 =>
        rw [if_pos (by decide), decide_eq_true c] at kk
        k_updF
        refine WP.lenS' (by rw [sizeLine_eq]; decide) ?_
        k_updF
        refine WP.brT (by decide) ?_
        k_updF
        refine WP.catS ?_ (hz' _ (by decide))
        exact kk _ e1
      case inr.inr.inr.inl.refine_1 | inr.inr.inr.inr.inl.refine_1 =>
        rw [if_neg (by decide), decide_eq_true c] at kk
        k_updF
        refine WP.lenS' (by rw [sizeLine_eq]; decide) ?_
        k_updF
        refine WP.brF (by decide) ?_
        k_updF
        refine WP.catS ?_ (hz _ (by decide))
        exact kk _ e1
      all_goals
        rw [decide_eq_false c] at kk
        refine WP.dget (WP.disp2 (by decide) fun D hD => ?_)
        have e2 := e1.trans (WP.same_disp (o := .dK []) (u := .dK [(.inr (SX.S [45]), V.str (SX.S [32])), (.inr (SX.S [43]), V.str (SX.S [43]))]) hD)
        k_updF
      case inr.inl.refine_2 =>
        refine WP.ixS1 (i := -1) (c := 45) rfl (by rw [sizeLine_eq]; decide) ?_
        refine ⟨D, .str (SX.S [32]), rfl, by have := DGet.k (k := .inr (SX.S [45])) (upd_same (H := upd H1 D (.dK [])) (a := D) (o := .dK [(.inr (SX.S [45]), V.str (SX.S [32])), (.inr (SX.S [43]), V.str (SX.S [43]))])); rw [WP.valV2] at this; exact this, ?_⟩
        rw [if_pos (by decide)] at kk
        k_updF
        refine WP.lenS' (by rw [sizeLine_eq]; decide) ?_
        k_updF
        refine WP.brT (by decide) ?_
        k_updF
        refine WP.catS ?_ (hz' _ (by decide))
        exact kk _ e2
      case inr.inr.inl.refine_2 =>
        refine WP.ixS1 (i := -1) (c := 43) rfl (by rw [sizeLine_eq]; decide) ?_
        refine ⟨D, .str (SX.S [43]), rfl, by have := DGet.k (k := .inr (SX.S [43])) (upd_same (H := upd H1 D (.dK [])) (a := D) (o := .dK [(.inr (SX.S [45]), V.str (SX.S [32])), (.inr (SX.S [43]), V.str (SX.S [43]))])); rw [WP.valV2] at this; exact this, ?_⟩
        rw [if_pos (by decide)] at kk
        k_updF
        refine WP.lenS' (by rw [sizeLine_eq]; decide) ?_
        k_updF
        refine WP.brT (by decide) ?_
        k_updF
        refine WP.catS ?_ (hz' _ (by decide))
        exact kk _ e2
      case inr.inr.inr.inl.refine_2 =>
        refine WP.ixS1 (i := -1) (c := 45) rfl (by rw [sizeLine_eq]; decide) ?_
        refine ⟨D, .str (SX.S [32]), rfl, by have := DGet.k (k := .inr (SX.S [45])) (upd_same (H := upd H1 D (.dK [])) (a := D) (o := .dK [(.inr (SX.S [45]), V.str (SX.S [32])), (.inr (SX.S [43]), V.str (SX.S [43]))])); rw [WP.valV2] at this; exact this, ?_⟩
        rw [if_neg (by decide)] at kk
        k_updF
        refine WP.lenS' (by rw [sizeLine_eq]; decide) ?_
        k_updF
        refine WP.brF (by decide) ?_
        k_updF
        refine WP.catS ?_ (hz _ (by decide))
        exact kk _ e2
      case inr.inr.inr.inr.inl.refine_2 =>
        refine WP.ixS1 (i := -1) (c := 43) rfl (by rw [sizeLine_eq]; decide) ?_
        refine ⟨D, .str (SX.S [43]), rfl, by have := DGet.k (k := .inr (SX.S [43])) (upd_same (H := upd H1 D (.dK [])) (a := D) (o := .dK [(.inr (SX.S [45]), V.str (SX.S [32])), (.inr (SX.S [43]), V.str (SX.S [43]))])); rw [WP.valV2] at this; exact this, ?_⟩
        rw [if_neg (by decide)] at kk
        k_updF
        refine WP.lenS' (by rw [sizeLine_eq]; decide) ?_
        k_updF
        refine WP.brF (by decide) ?_
        k_updF
        refine WP.catS ?_ (hz _ (by decide))
        exact kk _ e2
end
abbrev s_trimmed : Stmt := top 15
abbrev N_trimmed : List Str := ["picture", "units", "kept"]
theorem sc_trimmed : FnScope N_trimmed ["picture", "units"] (defScope s_trimmed) := ⟨rfl, rfl, rfl, by decide +kernel, rfl, by decide +kernel, by decide +kernel⟩
def sp_trimmed (K : PySem.W.Frag) (mg : WP.MG) : Sp := fun vs H Q _ => ∃ (p : Addr) (pic : MP.Pic) (u : Int), vs = [.ref p, .int u] ∧ SqT K H p pic.vs ∧ pic.Ok ∧
  WP.RetV (.int (if u < 0 ∧ pic.sgd = true then -((u.natAbs : Int) % 10 ^ pic.n) else (u.natAbs : Int) % 10 ^ pic.n)) H Q
section
variable {P : Program} {w : World} {K : PySem.W.Frag} {mg : Str → Option Value} {base : Heap}
theorem ok_trimmed {f : Addr} {fd : FuncData} (F : Fun K "trimmed" "trimmed" s_trimmed f fd) (B : Blt w K mg) (c_power : WP.Callee P w K mg base CX0 1 "power" ["exponent"] (sp_power K mg)) (c__many_digits : WP.Callee P w K mg base CX0 2 "_many_digits" ["picture"] (sp__many_digits K mg)) (c_is_signed : WP.Callee P w K mg base CX0 1 "is_signed" ["picture"] (sp_is_signed K mg)) : FnOk P w K mg base CX0 3 f fd ["picture", "units"] (sp_trimmed K mg) := by
  refine F.ok sc_trimmed (fun vs H Q E h => ?_) (fun cdv A outer s H vs Q E hr h => ?_)
  · first | (obtain ⟨_, rfl, _⟩ := h; rfl) | (obtain ⟨_, _, rfl, _⟩ := h; rfl) | (obtain ⟨_, _, _, rfl, _⟩ := h; rfl) | (obtain ⟨_, _, _, _, rfl, _⟩ := h; rfl) | (obtain ⟨_, _, _, _, _, rfl, _⟩ := h; rfl) | (obtain ⟨_, _, _, _, _, _, rfl, _⟩ := h; rfl) | (obtain ⟨_, _, _, _, _, _, _, rfl, _⟩ := h; rfl) | (obtain ⟨_, _, _, _, _, _, _, _, rfl, _⟩ := h; rfl) | (obtain ⟨rfl, _⟩ := h; rfl)
  · obtain ⟨p, pic, u, rfl, hp, ho, k⟩ := h
    refine ⟨_, (pss_cons (ps_set (i := 2) sc_trimmed.nd rfl (Or.inl rfl) (pe_op op_mod (pe_callB WP.c_abs (by rfl) B.b_abs (by decide +kernel) (pa_cons (pv 1) pa_nil)) (WP.pe_callC c_power hr rfl pass0 (pa_cons (WP.pe_callC c__many_digits hr rfl pass0 (pa_cons (pv 0) pa_nil)) pa_nil))))
      (pss_one (ps_ret (pe_ifExp (PW.pt (pw_and (pt_cmpR op_lt (pv 1) pe_int (nomark _)) (pw_and1 (pt_val (WP.pe_callC c_is_signed hr rfl pass0 (pa_cons (pv 0) pa_nil)))))) (pe_un un_neg (pv 2)) (pv 2))))), ?_⟩
    have hn := ho.n1
    k_updF
    refine WP.absI ?_
    k_updF
    refine ⟨p, pic, rfl, hp, fun H1 e1 => ?_⟩
    k_updF
    refine ⟨(pic.n : Int), rfl, by omega, ?_⟩
    rw [Int.toNat_natCast]
    refine WP.iC (WP.ten_pos _) ?_
    k_updF
    refine WP.br (fun c => ?_) (fun c => ?_)
    · k_updF
      refine ⟨p, pic, rfl, WP.sqt e1 hp, ?_⟩
      k_updF
      cases hs : pic.sgd with
      | true =>
        refine WP.brT rfl ?_
        k_updF
        rw [if_pos ⟨c, hs⟩] at k
        exact k _ e1
      | false =>
        refine WP.brF rfl ?_
        k_updF
        rw [if_neg (fun z => by rw [hs] at z; cases z.2)] at k
        exact k _ e1
    · refine WP.brF rfl ?_
      k_updF
      rw [if_neg (fun z => c z.1)] at k
      exact k _ e1
end
abbrev s_law : Stmt := top 30
abbrev N_law : List Str := ["script", "k", "rich", "picture", "units", "limit", "j", "signed", "due", "cut"]
theorem sc_law : FnScope N_law ["script"] (defScope s_law) := ⟨rfl, rfl, rfl, by decide +kernel, rfl, by decide +kernel, by decide +kernel⟩
def sp_law (K : PySem.W.Frag) : Sp := fun vs H Q _ => ∃ (a : Addr) (ns : List Int), vs = [.ref a] ∧ SqL K H a (ns.map V.int) ∧ ns.length ≤ 63 ∧ ∀ H', Q (.bl true) H'
section
variable {P : Program} {w : World} {K : PySem.W.Frag} {mg : Str → Option Value} {base : Heap}
theorem ok_law {f : Addr} {fd : FuncData} (F : Fun K "law" "law" s_law f fd) (B : Blt w K mg) (c__law_rich : WP.Callee P w K mg base CX0 1 "_law_rich" ["cell", "k"] (sp__law_rich K mg)) (c__law_picture : WP.Callee P w K mg base CX0 1 "_law_picture" ["rich"] (sp__law_picture K mg)) (c__law_units : WP.Callee P w K mg base CX0 1 "_law_units" ["picture", "rich"] (sp__law_units K mg)) (c__law_cell : WP.Callee P w K mg base CX0 1 "_law_cell" ["script", "k"] (sp__law_cell K mg)) (c__law_try : WP.Callee P w K mg base CX0 5 "_law_try" ["picture", "units"] (sp__law_try K mg)) (c_suits : WP.Callee P w K mg base CX0 3 "suits" ["picture", "units"] (sp_suits K mg)) (c__law_written : WP.Callee P w K mg base CX0 2 "_law_written" ["picture", "units"] (sp__law_written K mg)) (c_trimmed : WP.Callee P w K mg base CX0 3 "trimmed" ["picture", "units"] (sp_trimmed K mg)) : FnOk P w K mg base CX0 6 f fd ["script"] (sp_law K) := by
  refine F.ok sc_law (fun vs H Q E h => ?_) (fun cdv A outer s H vs Q E hr h => ?_)
  · first | (obtain ⟨_, rfl, _⟩ := h; rfl) | (obtain ⟨_, _, rfl, _⟩ := h; rfl) | (obtain ⟨_, _, _, rfl, _⟩ := h; rfl) | (obtain ⟨_, _, _, _, rfl, _⟩ := h; rfl) | (obtain ⟨_, _, _, _, _, rfl, _⟩ := h; rfl) | (obtain ⟨_, _, _, _, _, _, rfl, _⟩ := h; rfl) | (obtain ⟨_, _, _, _, _, _, _, rfl, _⟩ := h; rfl) | (obtain ⟨_, _, _, _, _, _, _, _, rfl, _⟩ := h; rfl) | (obtain ⟨rfl, _⟩ := h; rfl)
  · obtain ⟨a, ns, rfl, ha, hl, k⟩ := h
    refine ⟨_, (pss_cons (ps_for PassesOwn.never rfl (pi_range1 rfl B.b_range (pa_cons (pe_callB (WP.c_max2 rfl) (by rfl) B.b_max (by decide +kernel) (pa_cons pe_int (pa_cons (pe_callB (WP.c_min2 rfl) (by rfl) B.b_min (by decide +kernel) (pa_cons pe_int (pa_cons (pe_callB WP.c_len (by rfl) B.b_len (by decide +kernel) (pa_cons (pv 0) pa_nil)) pa_nil))) pa_nil))) pa_nil)) (pg_name (i := 1) sc_law.nd rfl (Or.inl rfl)) (pss_cons (ps_set (i := 2) sc_law.nd rfl (Or.inl rfl) (WP.pe_callC c__law_rich hr rfl pass0 (pa_cons (WP.pe_callC c__law_cell hr rfl pass0 (pa_cons (pv 0) (pa_cons (pv 1) pa_nil))) (pa_cons (pv 1) pa_nil))))
      (pss_cons (ps_set (i := 3) sc_law.nd rfl (Or.inl rfl) (WP.pe_callC c__law_picture hr rfl pass0 (pa_cons (pe_op op_add (pe_op op_add (pe_op op_sub (pv 2) (pe_op op_mod (pv 2) pe_int)) pe_int) (pe_op op_mod (pv 2) pe_int)) pa_nil)))
      (pss_cons (ps_set (i := 4) sc_law.nd rfl (Or.inl rfl) (WP.pe_callC c__law_units hr rfl pass0 (pa_cons (pv 3) (pa_cons (pe_op op_fdiv (pv 2) pe_int) pa_nil))))
      (pss_cons (ps_set (i := 5) sc_law.nd rfl (Or.inl rfl) pe_int)
      (pss_cons (ps_for PassesOwn.never rfl (pi_range1 rfl B.b_range (pa_cons (pe_op op_add (pe_ix ix_tup (pv 3) pe_int (fun _ _ => rfl)) (pe_ix ix_tup (pv 3) pe_int (fun _ _ => rfl))) pa_nil)) (pg_name (i := 6) sc_law.nd rfl (Or.inl rfl)) (pss_one (ps_set (i := 5) sc_law.nd rfl (Or.inl rfl) (pe_op op_mul (pv 5) pe_int))))
      (pss_cons (ps_set (i := 7) sc_law.nd rfl (Or.inl rfl) (pe_ifExp (pt_cmpR op_eq (pe_ix ix_tup (pv 3) pe_int (fun _ _ => rfl)) (WP.pe_strL [110, 117, 109, 98, 101, 114] (by decide +kernel)) (nomark _)) (pe_ix ix_tup (pv 3) pe_int (fun _ _ => rfl)) (pe_cmpR op_ne (pe_ix ix_tup (pv 3) pe_int (fun _ _ => rfl)) (WP.pe_strL [] (by decide +kernel)) (nomark _))))
      (Evl.pss_cut (ps_if (pt_cmpR op_eq (pe_op op_mod (pe_op op_fdiv (pv 2) pe_int) pe_int) pe_int (nomark _)) (pss_one (ps_set (i := 4) sc_law.nd rfl (Or.inl rfl) (pe_ix ix_list (pe_lst (pa_cons (pv 5) (pa_cons (pe_un un_neg (pv 5)) (pa_cons (pe_op op_add (pe_op op_mul (pv 5) pe_int) (pv 4)) (pa_cons (pe_op op_sub (pe_un un_neg pe_int) (pe_callB WP.c_abs (by rfl) B.b_abs (by decide +kernel) (pa_cons (pv 4) pa_nil))) (pa_cons (pe_op op_sub (pv 5) pe_int) (pa_cons (pe_op op_sub pe_int (pv 5)) (pa_cons (pe_un un_neg (pe_callB WP.c_abs (by rfl) B.b_abs (by decide +kernel) (pa_cons (pv 4) pa_nil))) pa_nil)))))))) (pe_op op_mod (pe_op op_fdiv (pv 2) pe_int) pe_int) (fun _ _ => rfl)))) pss_nil)
      (pss_cons (ps_set (i := 8) sc_law.nd rfl (Or.inl rfl) (pe_and (pe_cmpR op_lt (pe_callB WP.c_abs (by rfl) B.b_abs (by decide +kernel) (pa_cons (pv 4) pa_nil)) (pv 5) (nomark _)) (pe_one (pe_or (pe_cmpR op_ge (pv 4) pe_int (nomark _)) (pe_one (pv 7))))))
      (Evl.pss_cut (ps_if (PW.pt (pw_or (pt_not (pt_val (pe_callB call_isi (by rfl) B.b_isinstance (by decide +kernel) (pa_cons (WP.pe_callC c_suits hr rfl pass0 (pa_cons (pv 3) (pa_cons (pv 4) pa_nil))) (pa_cons (pe_bltn (v := .ty "bool") rfl B.b_bool (by decide +kernel) rfl) pa_nil))))) (pw_or1 (pt_cmpR op_ne (WP.pe_callC c_suits hr rfl pass0 (pa_cons (pv 3) (pa_cons (pv 4) pa_nil))) (pv 8) (nomark _))))) (pss_one (ps_ret pe_bl)) pss_nil)
      (Evl.pss_cut (ps_if (pt_cmpR (op_neD hr.units) (WP.pe_callC c__law_try hr rfl pass0 (pa_cons (pv 3) (pa_cons (pv 4) pa_nil))) (pe_ifExp (pt_val (pv 8)) (WP.pe_callC c__law_written hr rfl pass0 (pa_cons (pv 3) (pa_cons (pv 4) pa_nil))) pe_bl) (nomark _)) (pss_one (ps_ret pe_bl)) pss_nil)
      (pss_cons (ps_set (i := 9) sc_law.nd rfl (Or.inl rfl) (pe_op op_mod (pe_callB WP.c_abs (by rfl) B.b_abs (by decide +kernel) (pa_cons (pv 4) pa_nil)) (pv 5)))
      (Evl.pss_cut (ps_if (PW.pt (pw_and (pt_cmpR op_lt (pv 4) pe_int (nomark _)) (pw_and1 (pt_val (pv 7))))) (pss_one (ps_set (i := 9) sc_law.nd rfl (Or.inl rfl) (pe_un un_neg (pv 9)))) pss_nil)
      (pss_one (ps_if (PW.pt (pw_or (pt_cmpR op_ne (WP.pe_callC c_trimmed hr rfl pass0 (pa_cons (pv 3) (pa_cons (pv 4) pa_nil))) (pv 9) (nomark _)) (pw_or1 (pt_not (pt_val (WP.pe_callC c_suits hr rfl pass0 (pa_cons (pv 3) (pa_cons (pv 9) pa_nil)))))))) (pss_one (ps_ret pe_bl)) pss_nil)))))))))))))))
      (pss_one (ps_ret pe_bl))), ?_⟩
    k_updF
    refine WP.lenL ha ?_
    k_updF
    refine WP.minI ?_
    k_updF
    refine WP.maxI ?_
    k_updF
    rw [List.length_map]
    refine ⟨_, rfl, by omega, by omega, for_range (lo := 0) (n := _) (fun i σ' H' => (∃ z1 z2 z3 z4 z5 z6 z7 z8 z9, σ' = [some (.ref a), z1, z2, z3, z4, z5, z6, z7, z8, z9]) ∧ Same H H') ⟨⟨_, _, _, _, _, _, _, _, _, rfl⟩, Same.refl _⟩ ?_ ?_⟩
    rotate_left
    · rintro σ' H' ⟨_, _⟩
      k_updF
      exact k _
    rintro i σ' H1 hi ⟨⟨z1, z2, z3, z4, z5, z6, z7, z8, z9, rfl⟩, e1⟩
    k_updF
    refine ⟨a, ns, _, rfl, WP.sql e1 ha, by omega, fun c => ?_⟩
    k_updF
    refine ⟨c, _, rfl, fun rich hr0 => ?_⟩
    k_updF
    refine WP.iC (by decide) ?_
    k_updF
    refine WP.iC (by decide) ?_
    k_updF
    refine ⟨_, rfl, fun z => by omega, fun _ pic ho p H2 e2 hp => ?_⟩
    have tp := SqT.of (K := K) hp
    have hn := ho.n1
    k_updF
    refine WP.iC ⟨by decide, by decide⟩ ?_
    k_updF
    refine ⟨p, pic, _, rfl, tp, ho, fun u0 hu0 => ?_⟩
    k_updF
    refine WP.ixT tp (MP.at_w pic) ?_
    k_updF
    refine WP.ixT tp (MP.at_f pic) ?_
    k_updF
    rw [← Int.natCast_add]
    have hnp : pic.wh + pic.fr = pic.n := rfl
    rw [hnp]
    refine ⟨_, rfl, by omega, by omega, for_range (lo := 0) (n := _) (fun j σ' H' => H' = H2 ∧ ∃ z, σ' = [some (.ref a), some (.int (0 + (i : Int))), some (.int rich), some (.ref p), some (.int u0), some (.int (10 ^ j)), z, z7, z8, z9]) ⟨rfl, z6, rfl⟩ ?_ ?_⟩
    · rintro j σ' H' hj ⟨rfl, z, rfl⟩
      k_updF
      refine WP.iC (.inr (by decide)) ?_
      k_updF
      exact ⟨rfl, some (.int (0 + (j : Int))), by rw [Int.pow_succ]; rfl⟩
    rintro σ' H' ⟨rfl, z, rfl⟩
    rw [Int.toNat_natCast]
    have hT := WP.ten_pos pic.n
    have hTc := MP.ten_cast pic.n
    k_memK; k_memK
    refine MP.sgdE rfl tp ?_
    refine WP.name ?_
    refine WP.cut (fun σ' H3 => Same H1 H3 ∧ SqT K H3 p pic.vs ∧ ∃ u : Int, σ' = [some (.ref a), some (.int (0 + (i : Int))), some (.int rich), some (.ref p), some (.int u), some (.int (10 ^ pic.n)), z, some (.bl pic.sgd), z8, z9]) ?_ ?_
    · k_updF
      refine WP.iC ⟨by decide, by decide⟩ ?_
      k_updF
      refine WP.iC (by decide) ?_
      k_updF
      refine WP.br (fun c => ?_) (fun c => ?_)
      · k_updF
        refine WP.iC (.inr (by decide)) ?_
        k_updF
        refine WP.absI ?_
        k_updF
        refine WP.absI ?_
        k_updF
        refine ⟨WP.sz (show 7 ≤ 1000000 by decide), fun L hL => ?_⟩
        k_updF
        refine WP.iC ⟨by decide, by decide⟩ ?_
        k_updF
        refine WP.iC (by decide) ?_
        obtain ⟨u1, hu1⟩ := WP.at_I (ls := [10 ^ pic.n, -10 ^ pic.n, 10 ^ pic.n * 7 + u0, -1 - (u0.natAbs : Int), 10 ^ pic.n - 1, 1 - 10 ^ pic.n, -(u0.natAbs : Int)]) (Int.emod_nonneg (rich / 28) (show (7 : Int) ≠ 0 by decide)) (Int.emod_lt_of_pos (rich / 28) (show (0 : Int) < 7 by decide))
        refine WP.ixL (SqL.of upd_same) hu1 ?_
        k_updF
        exact ⟨e2.trans (WP.same_new hL), WP.sqt (WP.same_new hL) tp, u1, rfl⟩
      · k_updF
        exact ⟨e2, tp, u0, rfl⟩
    clear hu0 hp tp e2
    rintro σ' H3 ⟨e3, tp, u, rfl⟩
    k_memK; k_memK
    refine WP.andOr (x := decide ((u.natAbs : Int) < 10 ^ pic.n)) (y := decide (0 ≤ u)) (z := pic.sgd) (fun Q q => by k_updF; refine WP.absI ?_; k_updF; exact q) (fun Q q => by k_updF; exact q) (fun Q q => by k_updF; exact q) ?_
    rw [MP.due_eq]
    k_updF
    refine WP.cut (fun σ' H' => Same H1 H' ∧ SqT K H' p pic.vs ∧ σ' = [some (.ref a), some (.int (0 + (i : Int))), some (.int rich), some (.ref p), some (.int u), some (.int (10 ^ pic.n)), z, some (.bl pic.sgd), some (.bl (decide (MP.Suits pic u))), z9]) ?_ ?_
    · k_updF
      refine ⟨p, pic, u, rfl, tp, ho, fun H4 e4 => ?_⟩
      have tp := WP.sqt e4 tp
      k_updF
      refine WP.isY (.base (.bl _)) ?_
      k_updF
      refine WP.brF rfl ?_
      k_updF
      refine ⟨p, pic, u, rfl, tp, ho, fun H5 e5 => ?_⟩
      have tp := WP.sqt e5 tp
      k_updF
      refine WP.brF (by simp) ?_
      k_updF
      exact ⟨e3.trans (e4.trans e5), tp, rfl⟩
    clear e3 tp
    rintro σ' H4 ⟨e3, tp, rfl⟩
    refine WP.cut (fun σ' H' => Same H1 H' ∧ SqT K H' p pic.vs ∧ σ' = [some (.ref a), some (.int (0 + (i : Int))), some (.int rich), some (.ref p), some (.int u), some (.int (10 ^ pic.n)), z, some (.bl pic.sgd), some (.bl (decide (MP.Suits pic u))), z9]) ?_ ?_
    · k_updF
      refine ⟨p, pic, u, rfl, tp, ho, fun c => ?_, fun c => ?_⟩
      all_goals
        intro H6 e6
        have tp := WP.sqt e6 tp
        have e6 := e3.trans e6
        k_updF
      · refine WP.brF (decide_eq_false c) ?_
        k_updF
        refine WP.neD (.bl _) (.bl _) ?_
        rw [SeqAt.eqv_refl _ (by rfl)]
        refine WP.isbV (R := fun b => if b = true then _ else _) ?_
        refine WP.brF rfl ?_
        k_updF
        exact ⟨e6, tp, by rw [decide_eq_false c]⟩
      · refine WP.brT (decide_eq_true c) ?_
        k_updF
        refine ⟨p, pic, u, rfl, tp, ho, c, fun H7 e7 => ?_⟩
        refine WP.neD (.str _) (.str _) ?_ (MP.writ_ok ho).sh (MP.writ_ok ho).sh
        rw [SeqAt.eqv_refl _ (MP.writ_ok ho)]
        refine WP.isbV (R := fun b => if b = true then _ else _) ?_
        refine WP.brF rfl ?_
        k_updF
        exact ⟨e6.trans e7, WP.sqt e7 tp, by rw [decide_eq_true c]⟩
    clear e3 tp
    rintro σ' H5 ⟨e3, tp, rfl⟩
    k_updF
    refine WP.absI ?_
    k_updF
    refine WP.iC hT ?_
    k_updF
    refine WP.cut (fun σ' H' => H' = H5 ∧ σ' = [some (.ref a), some (.int (0 + (i : Int))), some (.int rich), some (.ref p), some (.int u), some (.int (10 ^ pic.n)), z, some (.bl pic.sgd), some (.bl (decide (MP.Suits pic u))), some (.int (if u < 0 ∧ pic.sgd = true then -((u.natAbs : Int) % 10 ^ pic.n) else (u.natAbs : Int) % 10 ^ pic.n))]) ?_ ?_
    · k_updF
      refine WP.br (fun c => ?_) (fun c => ?_)
      · k_updF
        cases hs : pic.sgd with
        | true =>
          refine WP.brT rfl ?_
          k_updF
          exact ⟨rfl, by rw [if_pos ⟨c, rfl⟩]; rfl⟩
        | false =>
          refine WP.brF rfl ?_
          k_updF
          exact ⟨rfl, by rw [if_neg (fun z => by cases z.2)]; rfl⟩
      · refine WP.brF rfl ?_
        k_updF
        exact ⟨rfl, by rw [if_neg (fun z => c z.1)]; rfl⟩
    rintro σ' H' ⟨rfl, rfl⟩
    have hcut := MP.suits_cut (pic := pic) (u := u)
    generalize hx : (if u < 0 ∧ pic.sgd = true then -((u.natAbs : Int) % 10 ^ pic.n) else (u.natAbs : Int) % 10 ^ pic.n) = x at hcut ⊢
    k_updF
    refine ⟨p, pic, u, rfl, tp, ho, fun H6 e6 => ?_⟩
    have tp := WP.sqt e6 tp
    rw [hx]
    k_updF
    refine WP.brF (by simp) ?_
    k_updF
    refine ⟨p, pic, x, rfl, tp, ho, fun H7 e7 => ?_⟩
    k_updF
    refine WP.brF (by rw [decide_eq_true hcut]; rfl) ?_
    k_updF
    exact ⟨⟨_, _, _, _, _, _, _, _, _, rfl⟩, e1.trans (e3.trans (e6.trans e7))⟩
end
theorem all_mk {l : PySem.W.OpenLaw} {w : World} {K : PySem.W.Frag} {h : Heap} {mg : Str → Option Value} {fa : Addr} (X : K.In h) (G : h.Ns mainGlobals mg) (hfa : mg "law" = some (.ref fa))
    {fx0 : Addr} {odx0 anx0 : Option Addr} {slx0 : Array (Option Value)} {ocx0 kVx0 dcx0 pmx0 cdx0 ctx0 : Value}
    (ax0 : PySem.W.nsIn K mainGlobals "_law_rich" = some (some (.ref fx0))) (lx0 : K.lookup fx0 = some ⟨ocx0, odx0, .func (PySem.W.fnOf "_law_rich" "_law_rich" (defArgs s__law_rich) (defBody s__law_rich) (defScope s__law_rich) .none kVx0 dcx0 pmx0 anx0 cdx0 ctx0), slx0⟩) (cx0 : PySem.W.codeIn K cdx0 "_law_rich" = true) (kx0 : PySem.W.keepIn K (.ref fx0) = true)
    {fx1 : Addr} {odx1 anx1 : Option Addr} {slx1 : Array (Option Value)} {ocx1 kVx1 dcx1 pmx1 cdx1 ctx1 : Value}
    (ax1 : PySem.W.nsIn K mainGlobals "_law_picture" = some (some (.ref fx1))) (lx1 : K.lookup fx1 = some ⟨ocx1, odx1, .func (PySem.W.fnOf "_law_picture" "_law_picture" (defArgs s__law_picture) (defBody s__law_picture) (defScope s__law_picture) .none kVx1 dcx1 pmx1 anx1 cdx1 ctx1), slx1⟩) (cx1 : PySem.W.codeIn K cdx1 "_law_picture" = true) (kx1 : PySem.W.keepIn K (.ref fx1) = true)
    {fx2 : Addr} {odx2 anx2 : Option Addr} {slx2 : Array (Option Value)} {ocx2 kVx2 dcx2 pmx2 cdx2 ctx2 : Value}
    (ax2 : PySem.W.nsIn K mainGlobals "_law_units" = some (some (.ref fx2))) (lx2 : K.lookup fx2 = some ⟨ocx2, odx2, .func (PySem.W.fnOf "_law_units" "_law_units" (defArgs s__law_units) (defBody s__law_units) (defScope s__law_units) .none kVx2 dcx2 pmx2 anx2 cdx2 ctx2), slx2⟩) (cx2 : PySem.W.codeIn K cdx2 "_law_units" = true) (kx2 : PySem.W.keepIn K (.ref fx2) = true)
    {fx3 : Addr} {odx3 anx3 : Option Addr} {slx3 : Array (Option Value)} {ocx3 kVx3 dcx3 pmx3 cdx3 ctx3 : Value}
    (ax3 : PySem.W.nsIn K mainGlobals "_law_cell" = some (some (.ref fx3))) (lx3 : K.lookup fx3 = some ⟨ocx3, odx3, .func (PySem.W.fnOf "_law_cell" "_law_cell" (defArgs s__law_cell) (defBody s__law_cell) (defScope s__law_cell) .none kVx3 dcx3 pmx3 anx3 cdx3 ctx3), slx3⟩) (cx3 : PySem.W.codeIn K cdx3 "_law_cell" = true) (kx3 : PySem.W.keepIn K (.ref fx3) = true)
    {fx4 : Addr} {odx4 anx4 : Option Addr} {slx4 : Array (Option Value)} {ocx4 kVx4 dcx4 pmx4 cdx4 ctx4 : Value}
    (ax4 : PySem.W.nsIn K mainGlobals "_sign_text" = some (some (.ref fx4))) (lx4 : K.lookup fx4 = some ⟨ocx4, odx4, .func (PySem.W.fnOf "_sign_text" "_sign_text" (defArgs s__sign_text) (defBody s__sign_text) (defScope s__sign_text) .none kVx4 dcx4 pmx4 anx4 cdx4 ctx4), slx4⟩) (cx4 : PySem.W.codeIn K cdx4 "_sign_text" = true) (kx4 : PySem.W.keepIn K (.ref fx4) = true)
    {fx5 : Addr} {odx5 anx5 : Option Addr} {slx5 : Array (Option Value)} {ocx5 kVx5 dcx5 pmx5 cdx5 ctx5 : Value}
    (ax5 : PySem.W.nsIn K mainGlobals "_body_text" = some (some (.ref fx5))) (lx5 : K.lookup fx5 = some ⟨ocx5, odx5, .func (PySem.W.fnOf "_body_text" "_body_text" (defArgs s__body_text) (defBody s__body_text) (defScope s__body_text) .none kVx5 dcx5 pmx5 anx5 cdx5 ctx5), slx5⟩) (cx5 : PySem.W.codeIn K cdx5 "_body_text" = true) (kx5 : PySem.W.keepIn K (.ref fx5) = true)
    {fx6 : Addr} {odx6 anx6 : Option Addr} {slx6 : Array (Option Value)} {ocx6 kVx6 dcx6 pmx6 cdx6 ctx6 : Value}
    (ax6 : PySem.W.nsIn K mainGlobals "power" = some (some (.ref fx6))) (lx6 : K.lookup fx6 = some ⟨ocx6, odx6, .func (PySem.W.fnOf "power" "power" (defArgs s_power) (defBody s_power) (defScope s_power) .none kVx6 dcx6 pmx6 anx6 cdx6 ctx6), slx6⟩) (cx6 : PySem.W.codeIn K cdx6 "power" = true) (kx6 : PySem.W.keepIn K (.ref fx6) = true)
    {fx7 : Addr} {odx7 anx7 : Option Addr} {slx7 : Array (Option Value)} {ocx7 kVx7 dcx7 pmx7 cdx7 ctx7 : Value}
    (ax7 : PySem.W.nsIn K mainGlobals "fits" = some (some (.ref fx7))) (lx7 : K.lookup fx7 = some ⟨ocx7, odx7, .func (PySem.W.fnOf "fits" "fits" (defArgs s_fits) (defBody s_fits) (defScope s_fits) .none kVx7 dcx7 pmx7 anx7 cdx7 ctx7), slx7⟩) (cx7 : PySem.W.codeIn K cdx7 "fits" = true) (kx7 : PySem.W.keepIn K (.ref fx7) = true)
    {fx8 : Addr} {odx8 anx8 : Option Addr} {slx8 : Array (Option Value)} {ocx8 kVx8 dcx8 pmx8 cdx8 ctx8 : Value}
    (ax8 : PySem.W.nsIn K mainGlobals "is_signed" = some (some (.ref fx8))) (lx8 : K.lookup fx8 = some ⟨ocx8, odx8, .func (PySem.W.fnOf "is_signed" "is_signed" (defArgs s_is_signed) (defBody s_is_signed) (defScope s_is_signed) .none kVx8 dcx8 pmx8 anx8 cdx8 ctx8), slx8⟩) (cx8 : PySem.W.codeIn K cdx8 "is_signed" = true) (kx8 : PySem.W.keepIn K (.ref fx8) = true)
    {fx9 : Addr} {odx9 anx9 : Option Addr} {slx9 : Array (Option Value)} {ocx9 kVx9 dcx9 pmx9 cdx9 ctx9 : Value}
    (ax9 : PySem.W.nsIn K mainGlobals "digits_in" = some (some (.ref fx9))) (lx9 : K.lookup fx9 = some ⟨ocx9, odx9, .func (PySem.W.fnOf "digits_in" "digits_in" (defArgs s_digits_in) (defBody s_digits_in) (defScope s_digits_in) .none kVx9 dcx9 pmx9 anx9 cdx9 ctx9), slx9⟩) (cx9 : PySem.W.codeIn K cdx9 "digits_in" = true) (kx9 : PySem.W.keepIn K (.ref fx9) = true)
    {fx10 : Addr} {odx10 anx10 : Option Addr} {slx10 : Array (Option Value)} {ocx10 kVx10 dcx10 pmx10 cdx10 ctx10 : Value}
    (ax10 : PySem.W.nsIn K mainGlobals "_many_digits" = some (some (.ref fx10))) (lx10 : K.lookup fx10 = some ⟨ocx10, odx10, .func (PySem.W.fnOf "_many_digits" "_many_digits" (defArgs s__many_digits) (defBody s__many_digits) (defScope s__many_digits) .none kVx10 dcx10 pmx10 anx10 cdx10 ctx10), slx10⟩) (cx10 : PySem.W.codeIn K cdx10 "_many_digits" = true) (kx10 : PySem.W.keepIn K (.ref fx10) = true)
    {fx11 : Addr} {odx11 anx11 : Option Addr} {slx11 : Array (Option Value)} {ocx11 kVx11 dcx11 pmx11 cdx11 ctx11 : Value}
    (ax11 : PySem.W.nsIn K mainGlobals "suits" = some (some (.ref fx11))) (lx11 : K.lookup fx11 = some ⟨ocx11, odx11, .func (PySem.W.fnOf "suits" "suits" (defArgs s_suits) (defBody s_suits) (defScope s_suits) .none kVx11 dcx11 pmx11 anx11 cdx11 ctx11), slx11⟩) (cx11 : PySem.W.codeIn K cdx11 "suits" = true) (kx11 : PySem.W.keepIn K (.ref fx11) = true)
    {fx12 : Addr} {odx12 anx12 : Option Addr} {slx12 : Array (Option Value)} {ocx12 kVx12 dcx12 pmx12 cdx12 ctx12 : Value}
    (ax12 : PySem.W.nsIn K mainGlobals "_sign_of" = some (some (.ref fx12))) (lx12 : K.lookup fx12 = some ⟨ocx12, odx12, .func (PySem.W.fnOf "_sign_of" "_sign_of" (defArgs s__sign_of) (defBody s__sign_of) (defScope s__sign_of) .none kVx12 dcx12 pmx12 anx12 cdx12 ctx12), slx12⟩) (cx12 : PySem.W.codeIn K cdx12 "_sign_of" = true) (kx12 : PySem.W.keepIn K (.ref fx12) = true)
    {fx13 : Addr} {odx13 anx13 : Option Addr} {slx13 : Array (Option Value)} {ocx13 kVx13 dcx13 pmx13 cdx13 ctx13 : Value}
    (ax13 : PySem.W.nsIn K mainGlobals "_is_sign_ahead" = some (some (.ref fx13))) (lx13 : K.lookup fx13 = some ⟨ocx13, odx13, .func (PySem.W.fnOf "_is_sign_ahead" "_is_sign_ahead" (defArgs s__is_sign_ahead) (defBody s__is_sign_ahead) (defScope s__is_sign_ahead) .none kVx13 dcx13 pmx13 anx13 cdx13 ctx13), slx13⟩) (cx13 : PySem.W.codeIn K cdx13 "_is_sign_ahead" = true) (kx13 : PySem.W.keepIn K (.ref fx13) = true)
    {fx14 : Addr} {odx14 anx14 : Option Addr} {slx14 : Array (Option Value)} {ocx14 kVx14 dcx14 pmx14 cdx14 ctx14 : Value}
    (ax14 : PySem.W.nsIn K mainGlobals "written" = some (some (.ref fx14))) (lx14 : K.lookup fx14 = some ⟨ocx14, odx14, .func (PySem.W.fnOf "written" "written" (defArgs s_written) (defBody s_written) (defScope s_written) .none kVx14 dcx14 pmx14 anx14 cdx14 ctx14), slx14⟩) (cx14 : PySem.W.codeIn K cdx14 "written" = true) (kx14 : PySem.W.keepIn K (.ref fx14) = true)
    {fx15 : Addr} {odx15 anx15 : Option Addr} {slx15 : Array (Option Value)} {ocx15 kVx15 dcx15 pmx15 cdx15 ctx15 : Value}
    (ax15 : PySem.W.nsIn K mainGlobals "_law_try" = some (some (.ref fx15))) (lx15 : K.lookup fx15 = some ⟨ocx15, odx15, .func (PySem.W.fnOf "_law_try" "_law_try" (defArgs s__law_try) (defBody s__law_try) (defScope s__law_try) .none kVx15 dcx15 pmx15 anx15 cdx15 ctx15), slx15⟩) (cx15 : PySem.W.codeIn K cdx15 "_law_try" = true) (kx15 : PySem.W.keepIn K (.ref fx15) = true)
    {fx16 : Addr} {odx16 anx16 : Option Addr} {slx16 : Array (Option Value)} {ocx16 kVx16 dcx16 pmx16 cdx16 ctx16 : Value}
    (ax16 : PySem.W.nsIn K mainGlobals "_law_figures" = some (some (.ref fx16))) (lx16 : K.lookup fx16 = some ⟨ocx16, odx16, .func (PySem.W.fnOf "_law_figures" "_law_figures" (defArgs s__law_figures) (defBody s__law_figures) (defScope s__law_figures) .none kVx16 dcx16 pmx16 anx16 cdx16 ctx16), slx16⟩) (cx16 : PySem.W.codeIn K cdx16 "_law_figures" = true) (kx16 : PySem.W.keepIn K (.ref fx16) = true)
    {fx17 : Addr} {odx17 anx17 : Option Addr} {slx17 : Array (Option Value)} {ocx17 kVx17 dcx17 pmx17 cdx17 ctx17 : Value}
    (ax17 : PySem.W.nsIn K mainGlobals "_law_body" = some (some (.ref fx17))) (lx17 : K.lookup fx17 = some ⟨ocx17, odx17, .func (PySem.W.fnOf "_law_body" "_law_body" (defArgs s__law_body) (defBody s__law_body) (defScope s__law_body) .none kVx17 dcx17 pmx17 anx17 cdx17 ctx17), slx17⟩) (cx17 : PySem.W.codeIn K cdx17 "_law_body" = true) (kx17 : PySem.W.keepIn K (.ref fx17) = true)
    {fx18 : Addr} {odx18 anx18 : Option Addr} {slx18 : Array (Option Value)} {ocx18 kVx18 dcx18 pmx18 cdx18 ctx18 : Value}
    (ax18 : PySem.W.nsIn K mainGlobals "_law_written" = some (some (.ref fx18))) (lx18 : K.lookup fx18 = some ⟨ocx18, odx18, .func (PySem.W.fnOf "_law_written" "_law_written" (defArgs s__law_written) (defBody s__law_written) (defScope s__law_written) .none kVx18 dcx18 pmx18 anx18 cdx18 ctx18), slx18⟩) (cx18 : PySem.W.codeIn K cdx18 "_law_written" = true) (kx18 : PySem.W.keepIn K (.ref fx18) = true)
    {fx19 : Addr} {odx19 anx19 : Option Addr} {slx19 : Array (Option Value)} {ocx19 kVx19 dcx19 pmx19 cdx19 ctx19 : Value}
    (ax19 : PySem.W.nsIn K mainGlobals "trimmed" = some (some (.ref fx19))) (lx19 : K.lookup fx19 = some ⟨ocx19, odx19, .func (PySem.W.fnOf "trimmed" "trimmed" (defArgs s_trimmed) (defBody s_trimmed) (defScope s_trimmed) .none kVx19 dcx19 pmx19 anx19 cdx19 ctx19), slx19⟩) (cx19 : PySem.W.codeIn K cdx19 "trimmed" = true) (kx19 : PySem.W.keepIn K (.ref fx19) = true)
    {fx20 : Addr} {odx20 anx20 : Option Addr} {slx20 : Array (Option Value)} {ocx20 kVx20 dcx20 pmx20 cdx20 ctx20 : Value}
    (ax20 : PySem.W.nsIn K mainGlobals "law" = some (some (.ref fx20))) (lx20 : K.lookup fx20 = some ⟨ocx20, odx20, .func (PySem.W.fnOf "law" "law" (defArgs s_law) (defBody s_law) (defScope s_law) .none kVx20 dcx20 pmx20 anx20 cdx20 ctx20), slx20⟩) (cx20 : PySem.W.codeIn K cdx20 "law" = true) (kx20 : PySem.W.keepIn K (.ref fx20) = true)
    (z_abs : PySem.W.nsIn K mainGlobals "abs" = some none)
    (z_bool : PySem.W.nsIn K mainGlobals "bool" = some none)
    (z_int : PySem.W.nsIn K mainGlobals "int" = some none)
    (z_isinstance : PySem.W.nsIn K mainGlobals "isinstance" = some none)
    (z_len : PySem.W.nsIn K mainGlobals "len" = some none)
    (z_max : PySem.W.nsIn K mainGlobals "max" = some none)
    (z_min : PySem.W.nsIn K mainGlobals "min" = some none)
    (z_range : PySem.W.nsIn K mainGlobals "range" = some none)
    (z_str : PySem.W.nsIn K mainGlobals "str" = some none)
    {a_DIGIT_MARKS : Addr} {d_DIGIT_MARKS : Option Addr} {n_DIGIT_MARKS : Nat} {s_DIGIT_MARKS : Array (Option Value)} {TDIGIT_MARKS_0 TDIGIT_MARKS_1 TDIGIT_MARKS_2 : Tok} (g_DIGIT_MARKS : PySem.W.nsIn K mainGlobals "DIGIT_MARKS" = some (some (.ref a_DIGIT_MARKS))) (h_DIGIT_MARKS : K.lookup a_DIGIT_MARKS = some ⟨.type "tuple", d_DIGIT_MARKS, .seq #[.str ("z" : Str) TDIGIT_MARKS_0, .str ("*" : Str) TDIGIT_MARKS_1, .str ("9" : Str) TDIGIT_MARKS_2] n_DIGIT_MARKS, s_DIGIT_MARKS⟩)
    {a_HIDING_MARKS : Addr} {d_HIDING_MARKS : Option Addr} {n_HIDING_MARKS : Nat} {s_HIDING_MARKS : Array (Option Value)} {THIDING_MARKS_0 THIDING_MARKS_1 : Tok} (g_HIDING_MARKS : PySem.W.nsIn K mainGlobals "HIDING_MARKS" = some (some (.ref a_HIDING_MARKS))) (h_HIDING_MARKS : K.lookup a_HIDING_MARKS = some ⟨.type "tuple", d_HIDING_MARKS, .seq #[.str ("z" : Str) THIDING_MARKS_0, .str ("*" : Str) THIDING_MARKS_1] n_HIDING_MARKS, s_HIDING_MARKS⟩)
    {a_INSERTED_CHARACTERS : Addr} {es_INSERTED_CHARACTERS : Array DictEntry} {n_INSERTED_CHARACTERS : Nat} {TINSERTED_CHARACTERS_0 TINSERTED_CHARACTERS_1 TINSERTED_CHARACTERS_2 TINSERTED_CHARACTERS_3 : Tok} (g_INSERTED_CHARACTERS : PySem.W.nsIn K mainGlobals "INSERTED_CHARACTERS" = some (some (.ref a_INSERTED_CHARACTERS))) (h_INSERTED_CHARACTERS : K.lookup a_INSERTED_CHARACTERS = some ⟨.type "dict", none, .dict es_INSERTED_CHARACTERS n_INSERTED_CHARACTERS, #[]⟩) (kl_INSERTED_CHARACTERS : PySem.W.KeysLit w.params es_INSERTED_CHARACTERS.toList)
    (e_INSERTED_CHARACTERS_0 : PySem.W.nsIn K a_INSERTED_CHARACTERS "," = some (some (.str ("," : Str) TINSERTED_CHARACTERS_0)))
    (e_INSERTED_CHARACTERS_1 : PySem.W.nsIn K a_INSERTED_CHARACTERS "b" = some (some (.str (" " : Str) TINSERTED_CHARACTERS_1)))
    (e_INSERTED_CHARACTERS_2 : PySem.W.nsIn K a_INSERTED_CHARACTERS "0" = some (some (.str ("0" : Str) TINSERTED_CHARACTERS_2)))
    (e_INSERTED_CHARACTERS_3 : PySem.W.nsIn K a_INSERTED_CHARACTERS "/" = some (some (.str ("/" : Str) TINSERTED_CHARACTERS_3)))
    {aC_BadPicture : Addr} (n_BadPicture : PySem.W.nsIn K mainGlobals "BadPicture" = some (some (.ref aC_BadPicture))) (x_BadPicture : PySem.W.excIn K aC_BadPicture [.type "ValueError", .type "Exception", .type "BaseException", .type "object"] "ValueError.__new__" = true) (kc_BadPicture : PySem.W.keepIn K (.ref aC_BadPicture) = true) (tc_BadPicture : PySem.W.typeIn K (.ref aC_BadPicture) = some (.type "type"))
    (hg_BadPicture : PySem.W.findIn K (.ref aC_BadPicture) "__getattribute__" = some (some (.builtin "BaseException.__getattribute__"))) (hk_BadPicture : PySem.W.findIn K (.ref aC_BadPicture) "__getattr__" = some none) (hs_BadPicture : PySem.W.subIn K (.ref aC_BadPicture) (.type "BaseException") = some true) (hd_BadPicture : PySem.W.hasDictIn K aC_BadPicture = true) (ha_BadPicture : PySem.W.findIn K (.ref aC_BadPicture) "__class__" = some (some (.builtin "object.__class__"))) (hm_BadPicture : PySem.W.mroIn K aC_BadPicture (.type "object") = some true)
    {aC_CardError : Addr} (n_CardError : PySem.W.nsIn K mainGlobals "CardError" = some (some (.ref aC_CardError))) (x_CardError : PySem.W.excIn K aC_CardError [.type "ValueError", .type "Exception", .type "BaseException", .type "object"] "ValueError.__new__" = true) (kc_CardError : PySem.W.keepIn K (.ref aC_CardError) = true) (tc_CardError : PySem.W.typeIn K (.ref aC_CardError) = some (.type "type"))
    (hg_CardError : PySem.W.findIn K (.ref aC_CardError) "__getattribute__" = some (some (.builtin "BaseException.__getattribute__"))) (hk_CardError : PySem.W.findIn K (.ref aC_CardError) "__getattr__" = some none) (hs_CardError : PySem.W.subIn K (.ref aC_CardError) (.type "BaseException") = some true) (hd_CardError : PySem.W.hasDictIn K aC_CardError = true) (ha_CardError : PySem.W.findIn K (.ref aC_CardError) "__class__" = some (some (.builtin "object.__class__"))) (hm_CardError : PySem.W.mroIn K aC_CardError (.type "object") = some true)
    (hn_ : PySem.W.specialIn K (.builtin "object.__class__") "__get__" = some (some (.builtin "getset_descriptor.__get__"))) (ht_ : PySem.W.takesIn K (.builtin "object.__class__") = some true)
    (s_BadPicture_CardError : PySem.W.subIn K (.ref aC_BadPicture) (.ref aC_CardError) = some true)
    (i_BadPicture_BadPicture : PySem.W.kitOne K (.ref aC_BadPicture) (.ref aC_BadPicture) = some true)
    : ∃ fd : FuncData, (∀ (s : Shared) (v : Value), BindsTo s fd ⟨[v], []⟩ [("script", v)]) ∧ ∀ base : Heap, K.In base → base.Ns mainGlobals mg → FnOk l.prog w K mg base CX0 6 fa fd ["script"] (sp_law K) := by
  have e := hfa.symm.trans (PySem.W.mg_of X G ax20)
  cases e
  have B : Blt w K mg := ⟨PySem.W.mg_none_of X G z_abs, PySem.W.mg_none_of X G z_bool, PySem.W.mg_none_of X G z_int, PySem.W.mg_none_of X G z_isinstance, PySem.W.mg_none_of X G z_len, PySem.W.mg_none_of X G z_max, PySem.W.mg_none_of X G z_min, PySem.W.mg_none_of X G z_range, PySem.W.mg_none_of X G z_str, WP.KTp.mk' (PySem.W.mg_of X G g_DIGIT_MARKS) (fun _ => .inr ⟨_, _, _, h_DIGIT_MARKS, rfl, rfl, WP.sz (show 3 ≤ 1000000 by decide), (.cons ⟨_, congrArg (Value.str · _) (by decide +kernel)⟩ (.cons ⟨_, congrArg (Value.str · _) (by decide +kernel)⟩ (.cons ⟨_, congrArg (Value.str · _) (by decide +kernel)⟩ .nil)))⟩), WP.KTp.mk' (PySem.W.mg_of X G g_HIDING_MARKS) (fun _ => .inr ⟨_, _, _, h_HIDING_MARKS, rfl, rfl, WP.sz (show 2 ≤ 1000000 by decide), (.cons ⟨_, congrArg (Value.str · _) (by decide +kernel)⟩ (.cons ⟨_, congrArg (Value.str · _) (by decide +kernel)⟩ .nil))⟩), WP.KDc.mk' (PySem.W.mg_of X G g_INSERTED_CHARACTERS) (WP.kdc_cons ⟨_, _, _, h_INSERTED_CHARACTERS, kl_INSERTED_CHARACTERS, e_INSERTED_CHARACTERS_0, ⟨_, congrArg (Value.str · _) (by decide +kernel)⟩⟩ (WP.kdc_cons ⟨_, _, _, h_INSERTED_CHARACTERS, kl_INSERTED_CHARACTERS, e_INSERTED_CHARACTERS_1, ⟨_, congrArg (Value.str · _) (by decide +kernel)⟩⟩ (WP.kdc_cons ⟨_, _, _, h_INSERTED_CHARACTERS, kl_INSERTED_CHARACTERS, e_INSERTED_CHARACTERS_2, ⟨_, congrArg (Value.str · _) (by decide +kernel)⟩⟩ (WP.kdc_cons ⟨_, _, _, h_INSERTED_CHARACTERS, kl_INSERTED_CHARACTERS, e_INSERTED_CHARACTERS_3, ⟨_, congrArg (Value.str · _) (by decide +kernel)⟩⟩ (fun p hp => by cases hp))))), WP.ExcOk.mk' (PySem.W.mg_of X G n_BadPicture) ⟨x_BadPicture, kc_BadPicture, tc_BadPicture, ⟨hg_BadPicture, hk_BadPicture, hs_BadPicture, hd_BadPicture, ha_BadPicture, hn_, ht_, hm_BadPicture⟩⟩, WP.ExcOk.mk' (PySem.W.mg_of X G n_CardError) ⟨x_CardError, kc_CardError, tc_CardError, ⟨hg_CardError, hk_CardError, hs_CardError, hd_CardError, ha_CardError, hn_, ht_, hm_CardError⟩⟩, by rw [WP.ca_of (PySem.W.mg_of X G n_BadPicture), WP.ca_of (PySem.W.mg_of X G n_CardError)]; exact s_BadPicture_CardError, by rw [WP.ca_of (PySem.W.mg_of X G n_BadPicture)]; exact i_BadPicture_BadPicture⟩
  have Fx0 := fun_mk (st := s__law_rich) lx0 cx0 kx0
  have bx0 := Fx0.binds (ps := ["cell", "k"]) fun _ _ _ _ _ _ us hl => match us, hl with | [_, _], _ => rfl
  have Cx0 : ∀ base : Heap, K.In base → base.Ns mainGlobals mg → WP.Callee l.prog w K mg base CX0 1 "_law_rich" ["cell", "k"] (sp__law_rich K mg) := fun base p1 p2 => WP.Callee.mk' (ok__law_rich Fx0 B ) (PySem.W.mg_of X G ax0) kx0 bx0
  have Fx1 := fun_mk (st := s__law_picture) lx1 cx1 kx1
  have bx1 := Fx1.binds (ps := ["rich"]) fun _ _ _ _ _ _ us hl => match us, hl with | [_], _ => rfl
  have Cx1 : ∀ base : Heap, K.In base → base.Ns mainGlobals mg → WP.Callee l.prog w K mg base CX0 1 "_law_picture" ["rich"] (sp__law_picture K mg) := fun base p1 p2 => WP.Callee.mk' (ok__law_picture Fx1 B ) (PySem.W.mg_of X G ax1) kx1 bx1
  have Fx2 := fun_mk (st := s__law_units) lx2 cx2 kx2
  have bx2 := Fx2.binds (ps := ["picture", "rich"]) fun _ _ _ _ _ _ us hl => match us, hl with | [_, _], _ => rfl
  have Cx2 : ∀ base : Heap, K.In base → base.Ns mainGlobals mg → WP.Callee l.prog w K mg base CX0 1 "_law_units" ["picture", "rich"] (sp__law_units K mg) := fun base p1 p2 => WP.Callee.mk' (ok__law_units Fx2 B ) (PySem.W.mg_of X G ax2) kx2 bx2
  have Fx3 := fun_mk (st := s__law_cell) lx3 cx3 kx3
  have bx3 := Fx3.binds (ps := ["script", "k"]) fun _ _ _ _ _ _ us hl => match us, hl with | [_, _], _ => rfl
  have Cx3 : ∀ base : Heap, K.In base → base.Ns mainGlobals mg → WP.Callee l.prog w K mg base CX0 1 "_law_cell" ["script", "k"] (sp__law_cell K mg) := fun base p1 p2 => WP.Callee.mk' (ok__law_cell Fx3 B ) (PySem.W.mg_of X G ax3) kx3 bx3
  have Fx4 := fun_mk (st := s__sign_text) lx4 cx4 kx4
  have bx4 := Fx4.binds (ps := ["sign", "is_negative"]) fun _ _ _ _ _ _ us hl => match us, hl with | [_, _], _ => rfl
  have Cx4 : ∀ base : Heap, K.In base → base.Ns mainGlobals mg → WP.Callee l.prog w K mg base CX0 1 "_sign_text" ["sign", "is_negative"] (sp__sign_text K mg) := fun base p1 p2 => WP.Callee.mk' (ok__sign_text Fx4 B ) (PySem.W.mg_of X G ax4) kx4 bx4
  have Fx5 := fun_mk (st := s__body_text) lx5 cx5 kx5
  have bx5 := Fx5.binds (ps := ["marks", "figures"]) fun _ _ _ _ _ _ us hl => match us, hl with | [_, _], _ => rfl
  have Cx5 : ∀ base : Heap, K.In base → base.Ns mainGlobals mg → WP.Callee l.prog w K mg base CX0 1 "_body_text" ["marks", "figures"] (sp__body_text K mg) := fun base p1 p2 => WP.Callee.mk' (ok__body_text Fx5 B ) (PySem.W.mg_of X G ax5) kx5 bx5
  have Fx6 := fun_mk (st := s_power) lx6 cx6 kx6
  have bx6 := Fx6.binds (ps := ["exponent"]) fun _ _ _ _ _ _ us hl => match us, hl with | [_], _ => rfl
  have Cx6 : ∀ base : Heap, K.In base → base.Ns mainGlobals mg → WP.Callee l.prog w K mg base CX0 1 "power" ["exponent"] (sp_power K mg) := fun base p1 p2 => WP.Callee.mk' (ok_power Fx6 B ) (PySem.W.mg_of X G ax6) kx6 bx6
  have Fx7 := fun_mk (st := s_fits) lx7 cx7 kx7
  have bx7 := Fx7.binds (ps := ["units", "digits"]) fun _ _ _ _ _ _ us hl => match us, hl with | [_, _], _ => rfl
  have Cx7 : ∀ base : Heap, K.In base → base.Ns mainGlobals mg → WP.Callee l.prog w K mg base CX0 2 "fits" ["units", "digits"] (sp_fits K mg) := fun base p1 p2 => WP.Callee.mk' (ok_fits Fx7 B (Cx6 base p1 p2)) (PySem.W.mg_of X G ax7) kx7 bx7
  have Fx8 := fun_mk (st := s_is_signed) lx8 cx8 kx8
  have bx8 := Fx8.binds (ps := ["picture"]) fun _ _ _ _ _ _ us hl => match us, hl with | [_], _ => rfl
  have Cx8 : ∀ base : Heap, K.In base → base.Ns mainGlobals mg → WP.Callee l.prog w K mg base CX0 1 "is_signed" ["picture"] (sp_is_signed K mg) := fun base p1 p2 => WP.Callee.mk' (ok_is_signed Fx8 B ) (PySem.W.mg_of X G ax8) kx8 bx8
  have Fx9 := fun_mk (st := s_digits_in) lx9 cx9 kx9
  have bx9 := Fx9.binds (ps := ["picture"]) fun _ _ _ _ _ _ us hl => match us, hl with | [_], _ => rfl
  have Cx9 : ∀ base : Heap, K.In base → base.Ns mainGlobals mg → WP.Callee l.prog w K mg base CX0 1 "digits_in" ["picture"] (sp_digits_in K mg) := fun base p1 p2 => WP.Callee.mk' (ok_digits_in Fx9 B ) (PySem.W.mg_of X G ax9) kx9 bx9
  have Fx10 := fun_mk (st := s__many_digits) lx10 cx10 kx10
  have bx10 := Fx10.binds (ps := ["picture"]) fun _ _ _ _ _ _ us hl => match us, hl with | [_], _ => rfl
  have Cx10 : ∀ base : Heap, K.In base → base.Ns mainGlobals mg → WP.Callee l.prog w K mg base CX0 2 "_many_digits" ["picture"] (sp__many_digits K mg) := fun base p1 p2 => WP.Callee.mk' (ok__many_digits Fx10 B (Cx9 base p1 p2)) (PySem.W.mg_of X G ax10) kx10 bx10
  have Fx11 := fun_mk (st := s_suits) lx11 cx11 kx11
  have bx11 := Fx11.binds (ps := ["picture", "units"]) fun _ _ _ _ _ _ us hl => match us, hl with | [_, _], _ => rfl
  have Cx11 : ∀ base : Heap, K.In base → base.Ns mainGlobals mg → WP.Callee l.prog w K mg base CX0 3 "suits" ["picture", "units"] (sp_suits K mg) := fun base p1 p2 => WP.Callee.mk' (ok_suits Fx11 B (Cx7 base p1 p2) (Cx8 base p1 p2) (Cx10 base p1 p2)) (PySem.W.mg_of X G ax11) kx11 bx11
  have Fx12 := fun_mk (st := s__sign_of) lx12 cx12 kx12
  have bx12 := Fx12.binds (ps := ["picture"]) fun _ _ _ _ _ _ us hl => match us, hl with | [_], _ => rfl
  have Cx12 : ∀ base : Heap, K.In base → base.Ns mainGlobals mg → WP.Callee l.prog w K mg base CX0 2 "_sign_of" ["picture"] (sp__sign_of K mg) := fun base p1 p2 => WP.Callee.mk' (ok__sign_of Fx12 B (Cx8 base p1 p2)) (PySem.W.mg_of X G ax12) kx12 bx12
  have Fx13 := fun_mk (st := s__is_sign_ahead) lx13 cx13 kx13
  have bx13 := Fx13.binds (ps := ["picture"]) fun _ _ _ _ _ _ us hl => match us, hl with | [_], _ => rfl
  have Cx13 : ∀ base : Heap, K.In base → base.Ns mainGlobals mg → WP.Callee l.prog w K mg base CX0 3 "_is_sign_ahead" ["picture"] (sp__is_sign_ahead K mg) := fun base p1 p2 => WP.Callee.mk' (ok__is_sign_ahead Fx13 B (Cx12 base p1 p2)) (PySem.W.mg_of X G ax13) kx13 bx13
  have Fx14 := fun_mk (st := s_written) lx14 cx14 kx14
  have bx14 := Fx14.binds (ps := ["picture", "units"]) fun _ _ _ _ _ _ us hl => match us, hl with | [_, _], _ => rfl
  have Cx14 : ∀ base : Heap, K.In base → base.Ns mainGlobals mg → WP.Callee l.prog w K mg base (L2.CX l.prog w) 4 "written" ["picture", "units"] (sp_written K mg) := fun base p1 p2 => WP.Callee.mk' (ok_written Fx14 B (Cx4 base p1 p2) (Cx5 base p1 p2) (Cx11 base p1 p2) (Cx10 base p1 p2) (Cx12 base p1 p2) (Cx13 base p1 p2)) (PySem.W.mg_of X G ax14) kx14 bx14
  have Fx15 := fun_mk (st := s__law_try) lx15 cx15 kx15
  have bx15 := Fx15.binds (ps := ["picture", "units"]) fun _ _ _ _ _ _ us hl => match us, hl with | [_, _], _ => rfl
  have Cx15 : ∀ base : Heap, K.In base → base.Ns mainGlobals mg → WP.Callee l.prog w K mg base CX0 5 "_law_try" ["picture", "units"] (sp__law_try K mg) := fun base p1 p2 => WP.Callee.mk' (ok__law_try Fx15 B (Cx14 base p1 p2)) (PySem.W.mg_of X G ax15) kx15 bx15
  have Fx16 := fun_mk (st := s__law_figures) lx16 cx16 kx16
  have bx16 := Fx16.binds (ps := ["units", "size"]) fun _ _ _ _ _ _ us hl => match us, hl with | [_, _], _ => rfl
  have Cx16 : ∀ base : Heap, K.In base → base.Ns mainGlobals mg → WP.Callee l.prog w K mg base CX0 1 "_law_figures" ["units", "size"] (sp__law_figures K mg) := fun base p1 p2 => WP.Callee.mk' (ok__law_figures Fx16 B ) (PySem.W.mg_of X G ax16) kx16 bx16
  have Fx17 := fun_mk (st := s__law_body) lx17 cx17 kx17
  have bx17 := Fx17.binds (ps := ["marks", "figures"]) fun _ _ _ _ _ _ us hl => match us, hl with | [_, _], _ => rfl
  have Cx17 : ∀ base : Heap, K.In base → base.Ns mainGlobals mg → WP.Callee l.prog w K mg base CX0 1 "_law_body" ["marks", "figures"] (sp__law_body K mg) := fun base p1 p2 => WP.Callee.mk' (ok__law_body Fx17 B ) (PySem.W.mg_of X G ax17) kx17 bx17
  have Fx18 := fun_mk (st := s__law_written) lx18 cx18 kx18
  have bx18 := Fx18.binds (ps := ["picture", "units"]) fun _ _ _ _ _ _ us hl => match us, hl with | [_, _], _ => rfl
  have Cx18 : ∀ base : Heap, K.In base → base.Ns mainGlobals mg → WP.Callee l.prog w K mg base CX0 2 "_law_written" ["picture", "units"] (sp__law_written K mg) := fun base p1 p2 => WP.Callee.mk' (ok__law_written Fx18 B (Cx16 base p1 p2) (Cx17 base p1 p2)) (PySem.W.mg_of X G ax18) kx18 bx18
  have Fx19 := fun_mk (st := s_trimmed) lx19 cx19 kx19
  have bx19 := Fx19.binds (ps := ["picture", "units"]) fun _ _ _ _ _ _ us hl => match us, hl with | [_, _], _ => rfl
  have Cx19 : ∀ base : Heap, K.In base → base.Ns mainGlobals mg → WP.Callee l.prog w K mg base CX0 3 "trimmed" ["picture", "units"] (sp_trimmed K mg) := fun base p1 p2 => WP.Callee.mk' (ok_trimmed Fx19 B (Cx6 base p1 p2) (Cx10 base p1 p2) (Cx8 base p1 p2)) (PySem.W.mg_of X G ax19) kx19 bx19
  have Fx20 := fun_mk (st := s_law) lx20 cx20 kx20
  exact ⟨PySem.W.fnOf "law" "law" (defArgs s_law) (defBody s_law) (defScope s_law) .none kVx20 dcx20 pmx20 anx20 cdx20 ctx20, fun s v => .of_eq rfl, fun base p1 p2 => ok_law Fx20 B (Cx0 base p1 p2) (Cx1 base p1 p2) (Cx2 base p1 p2) (Cx3 base p1 p2) (Cx15 base p1 p2) (Cx11 base p1 p2) (Cx18 base p1 p2) (Cx19 base p1 p2)⟩
theorem walk {l : PySem.W.OpenLaw} {q : Program} {loose : List Str} {XP : (Str → Option Value) → Heap → Prop} {YP : World → Heap → Prop} {d : DefRec} {K : Params → PySem.W.Frag} (hn : l.most = some 63) (hdf : d.params.defaults = [])
    (hY : ∀ (w : World) (h : Heap), YP w h → (K w.params).In h)
    (F : ∀ (w : World) (mg : Str → Option Value) (fa : Addr) (h : Heap), (K w.params).In h → h.Ns mainGlobals mg → mg d.name = some (.ref fa) →
      ∃ fd : FuncData, (∀ (s : Shared) (u : Value), BindsTo s fd ⟨[u], []⟩ [("script", u)]) ∧ ∀ base : Heap, (K w.params).In base → base.Ns mainGlobals mg → FnOk l.prog w (K w.params) mg base CX0 6 fa fd ["script"] (sp_law (K w.params))) :
    PySem.W.WalkO q loose XP YP l.row.toRowW d [] (fun f vs => PySem.call f vs) :=
  L2.walk_of (n := 63) (k := 6) (x := "script") (CX := fun _ => CX0) (sp := fun w => sp_law (K w.params)) hn (by decide) hdf ⟨rfl, by decide, by decide⟩ hY F (fun _ _ a ns hl _ hS => ⟨a, ns, rfl, hS, hl, fun _ => rfl⟩) fun _ _ _ _ _ z => z
end D
open PySem PySem.W PyProof.Rows
set_option maxRecDepth 100000 in
set_option maxHeartbeats 0 in
theorem PySem.Challenge.cw_cardwright_k12_fields_are_written_holds : PySem.Challenge.rw_cardwright_k12_fields_are_written.Holds := by
  w_on; o_law; k_head; (case hw => w_witness2)
  k_fill
  refine D.walk (l := PySem.Challenge.rw_cardwright_k12_fields_are_written) rfl rfl (fun w h Y => PySem.W.kIn_of Y) ?F
  case F =>
    intro w mg fa h KX G hmg
    refine' D.all_mk KX G hmg ?ax0 ?lx0 ?cx0 ?kx0 ?ax1 ?lx1 ?cx1 ?kx1 ?ax2 ?lx2 ?cx2 ?kx2 ?ax3 ?lx3 ?cx3 ?kx3 ?ax4 ?lx4 ?cx4 ?kx4 ?ax5 ?lx5 ?cx5 ?kx5 ?ax6 ?lx6 ?cx6 ?kx6 ?ax7 ?lx7 ?cx7 ?kx7 ?ax8 ?lx8 ?cx8 ?kx8 ?ax9 ?lx9 ?cx9 ?kx9 ?ax10 ?lx10 ?cx10 ?kx10 ?ax11 ?lx11 ?cx11 ?kx11 ?ax12 ?lx12 ?cx12 ?kx12 ?ax13 ?lx13 ?cx13 ?kx13 ?ax14 ?lx14 ?cx14 ?kx14 ?ax15 ?lx15 ?cx15 ?kx15 ?ax16 ?lx16 ?cx16 ?kx16 ?ax17 ?lx17 ?cx17 ?kx17 ?ax18 ?lx18 ?cx18 ?kx18 ?ax19 ?lx19 ?cx19 ?kx19 ?ax20 ?lx20 ?cx20 ?kx20 ?z_abs ?z_bool ?z_int ?z_isinstance ?z_len ?z_max ?z_min ?z_range ?z_str ?g_DIGIT_MARKS ?h_DIGIT_MARKS ?g_HIDING_MARKS ?h_HIDING_MARKS ?g_INSERTED_CHARACTERS ?h_INSERTED_CHARACTERS ?kl_INSERTED_CHARACTERS ?e_INSERTED_CHARACTERS_0 ?e_INSERTED_CHARACTERS_1 ?e_INSERTED_CHARACTERS_2 ?e_INSERTED_CHARACTERS_3 ?n_BadPicture ?x_BadPicture ?kc_BadPicture ?tc_BadPicture ?hg_BadPicture ?hk_BadPicture ?hs_BadPicture ?hd_BadPicture ?ha_BadPicture ?hm_BadPicture ?n_CardError ?x_CardError ?kc_CardError ?tc_CardError ?hg_CardError ?hk_CardError ?hs_CardError ?hd_CardError ?ha_CardError ?hm_CardError ?hn_ ?ht_ ?s_BadPicture_CardError ?i_BadPicture_BadPicture
    (case ax0 => k_is); (case lx0 => k_is); (case cx0 => k_is); (case kx0 => k_is); (case ax1 => k_is); (case lx1 => k_is)
    (case cx1 => k_is); (case kx1 => k_is); (case ax2 => k_is); (case lx2 => k_is); (case cx2 => k_is); (case kx2 => k_is)
    (case ax3 => k_is); (case lx3 => k_is); (case cx3 => k_is); (case kx3 => k_is); (case ax4 => k_is); (case lx4 => k_is)
    (case cx4 => k_is); (case kx4 => k_is); (case ax5 => k_is); (case lx5 => k_is); (case cx5 => k_is); (case kx5 => k_is)
    (case ax6 => k_is); (case lx6 => k_is); (case cx6 => k_is); (case kx6 => k_is); (case ax7 => k_is); (case lx7 => k_is)
    (case cx7 => k_is); (case kx7 => k_is); (case ax8 => k_is); (case lx8 => k_is); (case cx8 => k_is); (case kx8 => k_is)
    (case ax9 => k_is); (case lx9 => k_is); (case cx9 => k_is); (case kx9 => k_is); (case ax10 => k_is); (case lx10 => k_is)
    (case cx10 => k_is); (case kx10 => k_is); (case ax11 => k_is); (case lx11 => k_is); (case cx11 => k_is); (case kx11 => k_is)
    (case ax12 => k_is); (case lx12 => k_is); (case cx12 => k_is); (case kx12 => k_is); (case ax13 => k_is); (case lx13 => k_is)
    (case cx13 => k_is); (case kx13 => k_is); (case ax14 => k_is); (case lx14 => k_is); (case cx14 => k_is); (case kx14 => k_is)
    (case ax15 => k_is); (case lx15 => k_is); (case cx15 => k_is); (case kx15 => k_is); (case ax16 => k_is); (case lx16 => k_is)
    (case cx16 => k_is); (case kx16 => k_is); (case ax17 => k_is); (case lx17 => k_is); (case cx17 => k_is); (case kx17 => k_is)
    (case ax18 => k_is); (case lx18 => k_is); (case cx18 => k_is); (case kx18 => k_is); (case ax19 => k_is); (case lx19 => k_is)
    (case cx19 => k_is); (case kx19 => k_is); (case ax20 => k_is); (case lx20 => k_is); (case cx20 => k_is); (case kx20 => k_is)
    (case z_abs => k_is); (case z_bool => k_is); (case z_int => k_is); (case z_isinstance => k_is); (case z_len => k_is); (case z_max => k_is)
    (case z_min => k_is); (case z_range => k_is); (case z_str => k_is); (case g_DIGIT_MARKS => k_is); (case h_DIGIT_MARKS => k_is); (case g_HIDING_MARKS => k_is)
    (case h_HIDING_MARKS => k_is); (case g_INSERTED_CHARACTERS => k_is); (case h_INSERTED_CHARACTERS => k_is); (case kl_INSERTED_CHARACTERS => exact ⟨⟨_, _, rfl, rfl⟩, ⟨⟨_, _, rfl, rfl⟩, ⟨⟨_, _, rfl, rfl⟩, ⟨⟨_, _, rfl, rfl⟩, True.intro⟩⟩⟩⟩); (case e_INSERTED_CHARACTERS_0 => k_is); (case e_INSERTED_CHARACTERS_1 => k_is)
    (case e_INSERTED_CHARACTERS_2 => k_is); (case e_INSERTED_CHARACTERS_3 => k_is); (case n_BadPicture => k_is); (case x_BadPicture => k_exc); (case kc_BadPicture => k_is); (case tc_BadPicture => k_is)
    (case hg_BadPicture => k_is); (case hk_BadPicture => k_is); (case hs_BadPicture => k_is); (case hd_BadPicture => k_is); (case ha_BadPicture => k_is); (case hm_BadPicture => k_is)
    (case n_CardError => k_is); (case x_CardError => k_exc); (case kc_CardError => k_is); (case tc_CardError => k_is); (case hg_CardError => k_is); (case hk_CardError => k_is)
    (case hs_CardError => k_is); (case hd_CardError => k_is); (case ha_CardError => k_is); (case hm_CardError => k_is); (case hn_ => k_is); (case ht_ => k_is)
    (case s_BadPicture_CardError => k_is); (case i_BadPicture_BadPicture => kit_is)
#print axioms PySem.Challenge.cw_cardwright_k12_fields_are_written_holds
