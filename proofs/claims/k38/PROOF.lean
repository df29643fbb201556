import PyProof.Rows.All
import Wide.All
import OpenK.AllK
import Wide.FinOn
import HandS.ForMost
import HandS.ForExc
import HandS.Wide
import HandS.Gcd
import HandS.IsInst
import HandS.ExcIs
import HandS.TryMany
import HandS.Evl
import HandS.Style
import HandS.SetBool
import HandS.Strs
import HandS.SortInts
import PyProof.ListIndex
import PyProof.ListIndexNeg
import HandS.TupSets
import HandS.SortRule
import HandS.TupLe
import HandS.Deep
import HandS.More
import HandS.Defaults
import HandS.MakeKwOnly
import HandS.Property
import HandS.Walk
import HandS.CallSlots
import HandS.Comp
import PySem.Challenge.RW_fontwinding_k38_refused_changes
set_option Elab.async false
set_option linter.all false
set_option maxRecDepth 100000
set_option maxHeartbeats 4000000
namespace Z
open PySem PySem.Spec PyProof.Rows L2

/-! ### operators -/
section
variable {X : Cx}
def CFd (_ j : Int) : Prop := j ≠ 0 ∧ j.natAbs.log2 < 9000
theorem op_fdivZ : OpR X (binaryOp .FloorDiv) (rI CFd fun i j => .int (i.fdiv j)) := opI fun i j _ _ _ _ _ hc q => floordiv_int hc.1 q (.inl (PyProof.noPylong_of_log2 hc.2))
theorem pe_globE {x : Str} {pos : Pos} {v : V} (h : ∃ u, X.mg x = some u ∧ RelV v u) (hg : Gl X x := by rfl) (hdb : (x == ("__debug__" : Str)) = false := by decide) : PE X (.Name x pos) (tC v) := by
  obtain ⟨u, h1, h2⟩ := h
  exact pe_glob hg h1 h2 hdb
theorem pe_globR {x : Str} {pos : Pos} {a : Addr} (h : X.mg x = some (.ref a)) (hg : Gl X x := by rfl) (hdb : (x == ("__debug__" : Str)) = false := by decide) : PE X (.Name x pos) (tC (.ref a)) := pe_glob hg h rfl hdb
end
/-- an own error class over ValueError -/
structure ExcX (K : PySem.W.Frag) (mg : Str → Option Value) (x : Str) (C : Addr) : Prop where
  g : mg x = some (.ref C)
  q : PySem.W.excIn K C [.type "ValueError", .type "Exception", .type "BaseException", .type "object"] "ValueError.__new__" = true
  k : PySem.W.keepIn K (.ref C) = true
  t : PySem.W.typeIn K (.ref C) = some (.type "type")
  c : ExcC K C
  v : PySem.W.subIn K (.ref C) (.type "ValueError") = some true
section
variable {X : Cx} {C D : Addr} {K : PySem.W.Frag} {mg : Str → Option Value} {x y : Str} {b : Bool}
theorem pmk {m : Str} {j : Nat} {p p2 pos : Pos} (E : ExcX X.K X.mg x C) (hg : Gl X x) (hdb : (x == ("__debug__" : Str)) = false := by decide) :
    PMk X (.Call (.Name x p) [.Constant (.str m) j p2] [] pos) (fun _ H Q => Q (.ref C) none H) := pmk_own PySem.F.excBase_ValueError E.q E.g E.k (raises_own E.c.hs E.t) hg hdb
theorem exm (E : ExcX K mg x C) (h : PySem.W.subIn K (.ref D) (.ref C) = some b) : PySem.W.exmOne K (.ref D) (.ref C) = some b := PySem.W.exm_ref E.c.hs E.c.hd E.t h
theorem kit_own (E : ExcX K mg x C) (h : PySem.W.subIn K (.ref D) (.ref C) = some b) (hs : PySem.W.subIn K (.ref C) (.ref C) = some true) : PySem.W.kitOne K (.ref D) (.ref C) = some b := by
  unfold PySem.W.kitOne
  by_cases e : D = C
  · subst e
    rw [hs] at h
    cases h
    rw [if_pos (by simp)]
  · rw [if_neg (by simpa using e)]
    unfold PySem.W.kitCls
    obtain ⟨cd, hc, _⟩ := PySem.W.any_some E.c.hd
    have e2 : ((PySem.W.clsIn K C).isSome && PySem.W.typeIn K (.ref C) == some (.type "type")) = true := by rw [hc, E.t] <;> rfl
    show (if _ then _ else _) = _
    rw [if_pos e2, h]
theorem kit_ve (E : ExcX K mg x D) : PySem.W.kitOne K (.ref D) (.type "ValueError") = some true := by
  unfold PySem.W.kitOne
  rw [if_neg (by simp)]
  unfold PySem.W.kitCls
  show (if _ then _ else _) = _
  rw [if_pos (by decide +kernel), E.v]
/-- isinstance of the error that a suite holds -/
def rIsEx (K : PySem.W.Frag) (cls : Value) (d : Option Addr) (a : Addr) : List V → Hp → VK → Prop := fun xs H Q => ∃ D, cls = .ref D ∧ d = none ∧ ExcC K D ∧ rIsE K D a xs H Q
theorem call_isE {a : Addr} {oe : Obj} {cls : Value} {d : Option Addr} {pn : List (Addr × Obj)} (hz : Zc cls d oe) (hf : ∃ vs, oe.data = .fields vs) : CallR (X.suite a ((a, oe) :: pn)) (.builtin "isinstance") (rIsEx X.K cls d a) := by
  intro pins s σ H xs us Q I r h
  obtain ⟨D, e1, e2, c, h⟩ := h
  subst e1
  subst e2
  exact L2.call_isE c hz hf pins s σ H xs us Q I r h
end

/-! ### heaps -/
theorem same_upd {H : Hp} {p : Addr} {o : HO} (h : H p = none) : Same H (upd H p o) := fun b x e => by
  rw [upd_ne (ne_of_none e h)]
  exact e
theorem Same.seqT {K : PySem.W.Frag} {H H' : Hp} {a : Addr} {xs : List V} (e : Same H H') (h : SqT K H a xs) : SqT K H' a xs := by
  rcases h with (h | ⟨o, h⟩) | h
  · exact .inl (.inl (e _ _ h))
  · exact .inl (.inr ⟨o, e _ _ h⟩)
  · exact .inr h
theorem seqT {K : PySem.W.Frag} {H H' : Hp} {a : Addr} {xs : List V} (e : Same H H') (h : SqT K H a xs) : SqT K H' a xs := Same.seqT e h
theorem sz {n : Nat} (h : n ≤ 1000) : n ≤ sizeLine := Nat.le_trans h (by decide)

/-! ### readings, step by step -/
def NewT (Q : VK) : List V → Hp → Prop := fun xs H1 => xs.length ≤ sizeLine ∧ ∀ p, H1 p = none → Q (.ref p) (upd H1 p (.tup xs))
def NewL (Q : VK) : List V → Hp → Prop := fun xs H1 => xs.length ≤ sizeLine ∧ ∀ p, H1 p = none → Q (.ref p) (upd H1 p (.lst xs))
section
variable {σ : L2.St} {H : Hp} {n : L2.St → Hp → Prop} {r : VK} {b c : L2.St → Hp → Prop} {t u : TS} {te ta tb : TE} {tt tu : TT} {Q : VK} {QB : Bool → Hp → Prop} {v w x y : V} {i j : Int} {K : PySem.W.Frag}
theorem z_seq (h : t ⟨u ⟨n, r, b, c⟩, r, b, c⟩ σ H) : tSeq t u ⟨n, r, b, c⟩ σ H := h
theorem z_asg {k : Nat} (h : te σ H fun x H1 => n (σ.set k (some x)) H1) : tAsg te (gName k) ⟨n, r, b, c⟩ σ H := h
theorem z_asgS {to ti : TE} {st : TSet} (h : te σ H fun v H0 => to σ H0 fun o H1 => ti σ H1 fun k H2 => st o k v H2 fun H3 => n σ H3) : tAsg te (gSub to ti st) ⟨n, r, b, c⟩ σ H := h
theorem z_drop (h : te σ H fun _ H1 => n σ H1) : tDrop te ⟨n, r, b, c⟩ σ H := h
theorem z_ret (h : te σ H r) : tRet te ⟨n, r, b, c⟩ σ H := h
theorem z_retN (h : r .non H) : tRetN ⟨n, r, b, c⟩ σ H := h
theorem z_next (h : n σ H) : tNext ⟨n, r, b, c⟩ σ H := h
theorem z_brk (h : b σ H) : tBreak ⟨n, r, b, c⟩ σ H := h
theorem z_cont (h : c σ H) : tCont ⟨n, r, b, c⟩ σ H := h
theorem z_ifs (h : tt σ H fun k H1 => if k = true then t ⟨n, r, b, c⟩ σ H1 else u ⟨n, r, b, c⟩ σ H1) : tIfS tt t u ⟨n, r, b, c⟩ σ H := h
theorem z_par {p q : Nat} {tl : TA} (h : tl σ H fun vs H1 => ∃ v w, vs = [v, w] ∧ n ((σ.set p (some v)).set q (some w)) H1) : tPar p q tl ⟨n, r, b, c⟩ σ H := h
theorem z_two {R : V → V → Prop} (h : R v w) : ∃ v' w', [v, w] = [v', w'] ∧ R v' w' := ⟨v, w, rfl, h⟩
theorem z_aug {k : Nat} {ti : TIp} (h : σ[k]? = some (some x)) (q : te σ H fun y H1 => ti x y H1 fun z H2 => n (σ.set k (some z)) H2) : tAug k te ti ⟨n, r, b, c⟩ σ H := ⟨x, h, q⟩
theorem z_ipI {f : Int → Int → Int} (q : Q (.int (f i j)) H) : ipI f (.int i) (.int j) H Q := ⟨i, j, rfl, rfl, q⟩
theorem z_var {k : Nat} (h : σ[k]? = some (some v)) (q : Q v H) : tVar k σ H Q := ⟨v, h, q⟩
theorem z_c (q : Q v H) : tC v σ H Q := q
theorem z_op {g : R2} (h : ta σ H fun x H1 => tb σ H1 fun y H2 => g x y H2 Q) : tOp g ta tb σ H Q := h
theorem z_un {g : V → Hp → VK → Prop} (h : ta σ H fun x H1 => g x H1 Q) : tUn g ta σ H Q := h
theorem z_I0 {g : Int → Int → V} (q : Q (g i j) H) : rI0 g (.int i) (.int j) H Q := ⟨i, j, rfl, rfl, q⟩
theorem z_I {C : Int → Int → Prop} {g : Int → Int → V} (hc : C i j) (q : Q (g i j) H) : rI C g (.int i) (.int j) H Q := ⟨i, j, rfl, rfl, hc, q⟩
theorem z_U {g : Int → V} (q : Q (g i) H) : rU g (.int i) H Q := ⟨i, rfl, q⟩
theorem z_eqI (q : Q (.bl (decide (i = j))) H) : rEq (.int i) (.int j) H Q := ⟨rfl, by rw [show decide (V.int i = V.int j) = decide (i = j) by simp]; exact q⟩
theorem z_neI (q : Q (.bl (decide (¬ i = j))) H) : rNe (.int i) (.int j) H Q := ⟨rfl, by rw [show (!decide (V.int i = V.int j)) = decide (¬ i = j) by simp]; exact q⟩
theorem z_eq (h : scal x y = true) (q : Q (.bl (decide (x = y))) H) : rEq x y H Q := ⟨h, q⟩
theorem z_test (h : te σ H fun x H1 => ∃ k, x = .bl k ∧ QB k H1) : tTest te σ H QB := h
theorem z_tB (h : te σ H fun x H1 => ∃ k, x = .bl k ∧ QB k H1) : tB te σ H QB := h
theorem z_bl {k : Bool} {R : Bool → Prop} (q : R k) : ∃ k', V.bl k = V.bl k' ∧ R k' := ⟨k, rfl, q⟩
theorem z_notT (h : tt σ H fun k H1 => QB (!k) H1) : tNot tt σ H QB := h
theorem z_andT (h : tt σ H fun k H1 => if k = true then tu σ H1 QB else QB false H1) : tAnd tt tu σ H QB := h
theorem z_orT (h : tt σ H fun k H1 => if k = true then QB true H1 else tu σ H1 QB) : tOr tt tu σ H QB := h
theorem z_andV (h : ta σ H fun x H1 => ∃ k, x = .bl k ∧ if k = true then tb σ H1 Q else Q (.bl false) H1) : tAndV ta tb σ H Q := h
theorem z_orV (h : ta σ H fun x H1 => ∃ k, x = .bl k ∧ if k = true then Q (.bl true) H1 else tb σ H1 Q) : tOrV ta tb σ H Q := h
theorem z_notV (h : ta σ H fun x H1 => ∃ k, x = .bl k ∧ Q (.bl (!k)) H1) : tNotV ta σ H Q := h
theorem z_ifE (h : tt σ H fun k H1 => if k = true then ta σ H1 Q else tb σ H1 Q) : tIf tt ta tb σ H Q := h
theorem z_chain {g g' : R2} {tc : TE} (h : ta σ H fun x H1 => tb σ H1 fun y H2 => g x y H2 fun z H3 => ∃ k, z = .bl k ∧ (if k = true then tc σ H3 fun w' H4 => g' y w' H4 Q else Q (.bl false) H3)) : tChain g g' ta tb tc σ H Q := h
theorem z_nil {R : List V → Hp → Prop} (q : R [] H) : tNil σ H R := q
theorem z_cons {tr : TA} {R : List V → Hp → Prop} (h : ta σ H fun x H1 => tr σ H1 fun xs H2 => R (x :: xs) H2) : tCons ta tr σ H R := h
theorem z_tup {tl : TA} (h : tl σ H (NewT Q)) : tTup tl σ H Q := h
theorem z_lst {tl : TA} (h : tl σ H (NewL Q)) : tLst tl σ H Q := h
theorem z_newT {xs : List V} (hl : xs.length ≤ 1000) (q : ∀ p H', H p = none → Same H H' → H' p = some (.tup xs) → Q (.ref p) H') : NewT Q xs H := ⟨sz hl, fun p hp => q p _ hp (same_upd hp) upd_same⟩
theorem z_newL {xs : List V} (hl : xs.length ≤ 1000) (q : ∀ p H', H p = none → Same H H' → H' p = some (.lst xs) → Q (.ref p) H') : NewL Q xs H := ⟨sz hl, fun p hp => q p _ hp (same_upd hp) upd_same⟩
theorem z_cb {g : List V → Hp → VK → Prop} {tl : TA} (h : tl σ H fun vs H1 => g vs H1 Q) : tCB g tl σ H Q := h
theorem z_call {sp : Sp} {E : XK} {tl : TA} (h : tl σ H fun vs H1 => sp vs H1 Q E) : tCall sp [] E tl σ H Q := by
  unfold tCall
  simpa only [List.append_nil] using h
theorem z_callS {sp : Sp} {E : L2.St → XK} {tl : TA} (h : tl σ H fun vs H1 => sp vs H1 Q (E σ)) : tCallS sp E tl σ H Q := h
theorem z_ixL {p : Addr} {xs : List V} (h : SqL K H p xs) (ha : atI xs i = some v) (q : Q v H) : rIxL K (.ref p) (.int i) H Q := ⟨p, xs, i, v, rfl, rfl, h, ha, q⟩
theorem z_ixT {p : Addr} {xs : List V} (h : SqT K H p xs) (ha : atI xs i = some v) (q : Q v H) : rIxT K (.ref p) (.int i) H Q := ⟨p, xs, i, v, rfl, rfl, h, ha, q⟩
theorem z_setL {p : Addr} {xs : List V} {k : Nat} {R : Hp → Prop} (h : H p = some (.lst xs)) (hk : ixN xs.length i = some k) (q : R (upd H p (.lst (xs.set k v)))) : rSetL (.ref p) (.int i) v H R := ⟨p, xs, i, k, rfl, rfl, h, hk, q⟩
theorem z_if {p : Prop} [Decidable p] {A B : Prop} (h1 : p → A) (h2 : ¬ p → B) : if decide p = true then A else B := by
  by_cases h : p
  · rw [if_pos (decide_eq_true h)]
    exact h1 h
  · rw [if_neg (by simpa using h)]
    exact h2 h
theorem z_ifB {k : Bool} {A B : Prop} (h1 : k = true → A) (h2 : k = false → B) : if k = true then A else B := by
  cases k with
  | true => exact h1 rfl
  | false => exact h2 rfl
/-- and, or, not of a test whose answer is known, the heap as it was -/
theorem z_andK {k k' : Bool} (h : k = true → ∀ R : Bool → Hp → Prop, R k' H → tu σ H R) (q : QB (k && k') H) : if k = true then tu σ H QB else QB false H := by
  cases k with
  | true => exact h rfl QB q
  | false => exact q
theorem z_orK {k k' : Bool} (h : k = false → ∀ R : Bool → Hp → Prop, R k' H → tu σ H R) (q : QB (k || k') H) : if k = true then QB true H else tu σ H QB := by
  cases k with
  | true => exact q
  | false => exact h rfl QB q
theorem z_andKV {k k' : Bool} (h : k = true → ∀ R : VK, R (.bl k') H → tb σ H R) (q : Q (.bl (k && k')) H) : if k = true then tb σ H Q else Q (.bl false) H := by
  cases k with
  | true => exact h rfl Q q
  | false => exact q
theorem z_orKV {k k' : Bool} (h : k = false → ∀ R : VK, R (.bl k') H → tb σ H R) (q : Q (.bl (k || k')) H) : if k = true then Q (.bl true) H else tb σ H Q := by
  cases k with
  | true => exact q
  | false => exact h rfl Q q
/-- the second comparison of a chain -/
theorem z_chK {k k' : Bool} {tc : TE} {g' : R2} (h : k = true → ∀ R : VK, R (.bl k') H → tc σ H fun w' H4 => g' y w' H4 R) (q : Q (.bl (k && k')) H) :
    if k = true then tc σ H fun w' H4 => g' y w' H4 Q else Q (.bl false) H := by
  cases k with
  | true => exact h rfl Q q
  | false => exact q
theorem z_ty {x : V} {t : String} {T : String} {k : Bool} {H : Hp} {Q : VK} (h : TyX K H x (.type t)) (e : kitB t T = some k) (q : Q (.bl k) H) : rIsi K [x, .ty T] H Q := ⟨x, .ty T, .type t, .type T, k, rfl, .ty T, h, kit_ty e, q⟩
end
end Z
namespace Z
open PySem PySem.Spec PyProof.Rows L2
theorem pe_powc {X : Cx} {a b v : Int} {j1 j2 : Nat} {p1 p2 pos : Pos} (h0 : CPow a b) (hv : a ^ b.toNat = v) : PE X (.BinOp (.Constant (.int a) j1 p1) .Pow (.Constant (.int b) j2 p2) pos) (tC (.int v)) := by
  subst hv
  exact ⟨fun pins s σ H Q I h => (pe_op op_pow pe_int pe_int).run pins s σ H Q I ⟨a, b, rfl, rfl, h0, h⟩⟩
def rInt1 : List V → Hp → VK → Prop := fun xs H Q => (∃ i, xs = [.int i] ∧ Q (.int i) H) ∨ ∃ k, xs = [.bl k] ∧ Q (.int (if k then 1 else 0)) H
def rAbs : List V → Hp → VK → Prop := fun xs H Q => ∃ i, xs = [.int i] ∧ Q (.int (if i < 0 then -i else i)) H
def rLen (K : PySem.W.Frag) : List V → Hp → VK → Prop := fun xs H Q => ∃ p ys, xs = [.ref p] ∧ (SqL K H p ys ∨ SqT K H p ys) ∧ Q (.int ys.length) H
theorem c_int {X : Cx} : CallR X (.type "int") rInt1 := call_int1
theorem c_abs {X : Cx} : CallR X (.builtin "abs") rAbs := call_abs
theorem c_len {X : Cx} : CallR X (.builtin "len") (rLen X.K) := call_len_seq
section
variable {H : Hp} {Q : VK} {i j : Int} {v : V} {R : Prop}
theorem z_int1 (q : Q (.int i) H) : rInt1 [.int i] H Q := .inl ⟨i, rfl, q⟩
theorem z_int1b {k : Bool} (q : Q (.int (if k then 1 else 0)) H) : rInt1 [.bl k] H Q := .inr ⟨k, rfl, q⟩
theorem z_abs (q : Q (.int (if i < 0 then -i else i)) H) : rAbs [.int i] H Q := ⟨i, rfl, q⟩
theorem z_gcd (q : Q (.int ((Nat.gcd i.natAbs j.natAbs : Nat) : Int)) H) : rGcd [.int i, .int j] H Q := ⟨i, j, rfl, q⟩
theorem z_lenL {K : PySem.W.Frag} {p : Addr} {xs : List V} (h : SqL K H p xs) (q : Q (.int (xs.length : Int)) H) : rLen K [.ref p] H Q := ⟨p, xs, rfl, .inl h, q⟩
theorem z_lenT {K : PySem.W.Frag} {p : Addr} {xs : List V} (h : SqT K H p xs) (q : Q (.int (xs.length : Int)) H) : rLen K [.ref p] H Q := ⟨p, xs, rfl, .inr h, q⟩
theorem z_isII {K : PySem.W.Frag} (q : Q (.bl true) H) : rIsi K [.int i, .ty "int"] H Q := z_ty (.base (.int i)) (by decide +kernel) q
theorem z_isIB {K : PySem.W.Frag} (q : Q (.bl false) H) : rIsi K [.int i, .ty "bool"] H Q := z_ty (.base (.int i)) (by decide +kernel) q
theorem z_isBB {K : PySem.W.Frag} {k : Bool} (q : Q (.bl true) H) : rIsi K [.bl k, .ty "bool"] H Q := z_ty (.base (.bl k)) (by decide +kernel) q
theorem z_isTT {K : PySem.W.Frag} {p : Addr} {xs : List V} (h : H p = some (.tup xs)) (q : Q (.bl true) H) : rIsi K [.ref p, .ty "tuple"] H Q := z_ty (.base (.tup h)) (by decide +kernel) q
theorem z_isLL {K : PySem.W.Frag} {p : Addr} {xs : List V} (h : H p = some (.lst xs)) (q : Q (.bl true) H) : rIsi K [.ref p, .ty "list"] H Q := z_ty (.base (.lst h)) (by decide +kernel) q
theorem z_new {xs : List V} {F : Addr → Prop} (h : xs.length ≤ 1000) (q : ∀ p, H p = none → F p) : xs.length ≤ sizeLine ∧ ∀ p, H p = none → F p := ⟨sz h, q⟩
end
end Z
namespace Z
open PySem PySem.Spec PyProof.Rows L2
section
variable {σ : L2.St} {H : Hp} {n : L2.St → Hp → Prop} {r : VK} {b c : L2.St → Hp → Prop} {tb : TS} {K : PySem.W.Frag}
/-- for k in range(m) -/
theorem z_forR1 {ta : TA} {k : Nat} (m : Nat) (hm : m < 2 ^ 62) (ha : ∀ R : List V → Hp → Prop, R [.int (m : Int)] H → ta σ H R) (Pv : Nat → L2.St → Hp → Prop) (h0 : Pv 0 σ H)
    (hs : ∀ i σ H, i < m → Pv i σ H → tb ⟨Pv (i + 1), r, n, Pv (i + 1)⟩ (σ.set k (some (.int (i : Int)))) H) (hd : ∀ σ H, Pv m σ H → n σ H) : tFor (iRng1 ta) (gName k) tb ⟨n, r, b, c⟩ σ H := by
  refine ha _ ⟨(m : Int), rfl, by omega, by omega, ?_⟩
  refine for_range (lo := 0) (n := (m : Int).toNat) Pv h0 (fun i σ' H' hi p => ?_) (fun σ' H' p => hd σ' H' (by simpa using p))
  have e : (0 : Int) + (i : Int) = (i : Int) := Int.zero_add _
  show tb _ (σ'.set k (some (.int ((0 : Int) + (i : Int))))) H'
  rw [e]
  exact hs i σ' H' (by simpa using hi) p
/-- for k in range(lo, hi) -/
theorem z_forR2 {ta : TA} {k : Nat} (lo : Int) (m : Nat) (hl : -(2 ^ 61) ≤ lo ∧ lo < 2 ^ 61) (hm : m < 2 ^ 61) (ha : ∀ R : List V → Hp → Prop, R [.int lo, .int (lo + (m : Int))] H → ta σ H R) (Pv : Nat → L2.St → Hp → Prop) (h0 : Pv 0 σ H)
    (hs : ∀ i σ H, i < m → Pv i σ H → tb ⟨Pv (i + 1), r, n, Pv (i + 1)⟩ (σ.set k (some (.int (lo + (i : Int))))) H) (hd : ∀ σ H, Pv m σ H → n σ H) : tFor (iRng2 ta) (gName k) tb ⟨n, r, b, c⟩ σ H := by
  refine ha _ ⟨lo, lo + (m : Int), rfl, by omega, ?_⟩
  have en : (lo + (m : Int) - lo).toNat = m := by omega
  rw [en]
  exact for_range (lo := lo) (n := m) Pv h0 hs hd
/-- for x in a list, in a tuple -/
theorem z_forL {tl : TE} {g : TG} {a : Addr} {xs : List V} (ha : ∀ R : VK, R (.ref a) H → tl σ H R) (hx : SqL K H a xs) (Pv : Nat → L2.St → Hp → Prop) (h0 : Pv 0 σ H) (hl : ∀ i σ H, i ≤ xs.length → Pv i σ H → SqL K H a xs)
    (hs : ∀ i x σ H, xs[i]? = some x → Pv i σ H → g x σ H fun σ2 H2 => tb ⟨Pv (i + 1), r, n, Pv (i + 1)⟩ σ2 H2) (hd : ∀ σ H, Pv xs.length σ H → n σ H) : tFor (iList K tl) g tb ⟨n, r, b, c⟩ σ H :=
  ha _ ⟨a, rfl, ⟨xs, hx⟩, for_list Pv h0 hl hs hd⟩
theorem z_forT {tl : TE} {g : TG} {a : Addr} {xs : List V} (ha : ∀ R : VK, R (.ref a) H → tl σ H R) (hx : SqT K H a xs) (Pv : Nat → L2.St → Hp → Prop) (h0 : Pv 0 σ H) (hl : ∀ i σ H, i ≤ xs.length → Pv i σ H → SqT K H a xs)
    (hs : ∀ i x σ H, xs[i]? = some x → Pv i σ H → g x σ H fun σ2 H2 => tb ⟨Pv (i + 1), r, n, Pv (i + 1)⟩ σ2 H2) (hd : ∀ σ H, Pv xs.length σ H → n σ H) : tFor (iTup K tl) g tb ⟨n, r, b, c⟩ σ H :=
  ha _ ⟨a, rfl, ⟨xs, hx⟩, for_tup Pv h0 hl hs hd⟩
theorem z_gName {k : Nat} {v : V} {R : L2.St → Hp → Prop} (q : R (σ.set k (some v)) H) : gName k v σ H R := q
end
end Z
namespace Z
section
variable {A B : Prop}
theorem z_ifT (q : A) : if true = true then A else B := by
  rw [if_pos rfl]
  exact q
theorem z_ifF (q : B) : if false = true then A else B := by
  rw [if_neg Bool.false_ne_true]
  exact q
theorem z_ifNF (q : A) : if (!false) = true then A else B := z_ifT q
theorem z_ifNT (q : B) : if (!true) = true then A else B := z_ifF q
theorem z_ifN {p : Prop} [Decidable p] (h1 : ¬ p → A) (h2 : p → B) : if (!decide p) = true then A else B := by
  by_cases h : p
  · rw [if_neg (by simpa using h)]
    exact h2 h
  · rw [if_pos (by simpa using h)]
    exact h1 h
end
end Z
namespace Z
theorem z_ifYes {A B : Prop} {k : Bool} (h : k = true) (q : A) : if k = true then A else B := by
  rw [if_pos h]
  exact q
theorem z_ifNo {A B : Prop} {k : Bool} (h : k = false) (q : B) : if k = true then A else B := by
  rw [if_neg (by rw [h]; exact Bool.false_ne_true)]
  exact q
end Z
namespace Z
open PySem PySem.Spec PyProof.Rows L2
theorem z_exc {K : PySem.W.Frag} {cv cls : Value} {i : Nat} {ts : Addr → Value → Option Addr → TS} {Wout : WX} {n : L2.St → Hp → Prop} {r : VK} {b c : L2.St → Hp → Prop} {d : Option Addr} {σ : L2.St} {H : Hp} (e : PySem.W.exmOne K cls cv = some true)
    (h : ∀ a, H a = none → ts a cls d ⟨fun σ' H' => n (σ'.set i none) H', r, fun σ' H' => b (σ'.set i none) H', fun σ' H' => c (σ'.set i none) H'⟩ (σ.set i (some (.ref a))) H) : WE (wAs K cv i ts Wout ⟨n, r, b, c⟩) σ cls d H :=
  ⟨true, e, fun _ a ha => h a ha, fun z => Bool.noConfusion z⟩
theorem z_excO {K : PySem.W.Frag} {cv cls : Value} {ts : Addr → Value → Option Addr → TS} {Wout : WX} {D : Ends} {d : Option Addr} {σ : L2.St} {H : Hp} (e : PySem.W.exmOne K cls cv = some true)
    (h : ∀ a, H a = none → ts a cls d D σ H) : WE (wOnly K cv ts Wout D) σ cls d H :=
  ⟨true, e, fun _ a ha => h a ha, fun z => Bool.noConfusion z⟩
theorem z_isEr {K : PySem.W.Frag} {a C D : Addr} {k : Bool} {H : Hp} {Q : VK} (x : ExcC K D) (e : PySem.W.kitOne K (.ref D) (.ref C) = some k) (q : Q (.bl k) H) : rIsEx K (.ref D) none a [.ref a, .ref C] H Q :=
  ⟨D, rfl, rfl, x, .ref C, .ref C, k, rfl, fun u h => h, e, q⟩
theorem z_isEt {K : PySem.W.Frag} {a D : Addr} {t : String} {k : Bool} {H : Hp} {Q : VK} (x : ExcC K D) (e : PySem.W.kitOne K (.ref D) (.type t) = some k) (q : Q (.bl k) H) : rIsEx K (.ref D) none a [.ref a, .ty t] H Q :=
  ⟨D, rfl, rfl, x, .ty t, .type t, k, rfl, fun u h => h, e, q⟩
/-- two lists, tuples of flat things compared -/
theorem z_eqD {K : PySem.W.Frag} {x y : V} {d e : PyData} {H : Hp} {Q : VK} (h1 : Dp K H x d) (h2 : Dp K H y e) (s1 : SeqAt.shaped d = true) (s2 : SeqAt.shaped e = true) (q : Q (.bl (PyData.eqv d e)) H) : rEqD K x y H Q := ⟨d, e, h1, h2, s1, s2, q⟩
end Z
namespace Z
open PySem PySem.Spec PyProof.Rows L2
theorem z_eqSame {K : PySem.W.Frag} {x y : V} {d : PyData} {H : Hp} {Q : VK} (h1 : Dp K H x d) (h2 : Dp K H y d) (s : SeqAt.shaped d = true) (q : Q (.bl true) H) : rEqD K x y H Q :=
  ⟨d, d, h1, h2, s, s, by rw [SeqAt.eqv_refl d (SeqAt.canLay_of_shaped s)]; exact q⟩
theorem dpT2 {K : PySem.W.Frag} {H : Hp} {p : Addr} {n d : Int} (h : H p = some (.tup [.int n, .int d])) : Dp K H (.ref p) (.tuple [.int n, .int d]) := .tup (.inl (.inl h)) (.cons (.int n) (.cons (.int d) .nil))
theorem dpB3 {K : PySem.W.Frag} {H : Hp} {p : Addr} {a b c : Bool} (h : H p = some (.lst [.bl a, .bl b, .bl c])) : Dp K H (.ref p) (.list [.bool a, .bool b, .bool c]) := .lst (.inl (.inl h)) (.cons (.bl a) (.cons (.bl b) (.cons (.bl c) .nil)))
end Z
namespace Z
open PySem PySem.Spec PyProof.Rows L2
theorem z_cut {t u : TS} {n : L2.St → Hp → Prop} {r : VK} {b c : L2.St → Hp → Prop} {σ : L2.St} {H : Hp} (Mid : L2.St → Hp → Prop) (h : t ⟨Mid, r, b, c⟩ σ H) (k : ∀ σ' H', Mid σ' H' → u ⟨n, r, b, c⟩ σ' H') : Evl.tCut t u ⟨n, r, b, c⟩ σ H := ⟨Mid, h, k⟩
end Z
namespace Z
open PySem PySem.Spec PyProof.Rows L2
section
variable {σ : L2.St} {H : Hp} {n : L2.St → Hp → Prop} {r : VK} {b c : L2.St → Hp → Prop} {te : TE} {K : PySem.W.Frag} {a : Addr} {xs : List V} {gs : TGs} {m : Nat} {v : V}
theorem z_asgT (h : te σ H fun x H1 => ∃ a xs, x = .ref a ∧ SqT K H1 a xs ∧ xs.length = m ∧ gs xs σ H1 n) : tAsg te (gTup K m gs) ⟨n, r, b, c⟩ σ H := h
theorem z_asgL (h : te σ H fun x H1 => ∃ a xs, x = .ref a ∧ SqL K H1 a xs ∧ xs.length = m ∧ gs xs σ H1 n) : tAsg te (gLst K m gs) ⟨n, r, b, c⟩ σ H := h
theorem z_up (h : SqT K H a xs) (hm : xs.length = m) (q : gs xs σ H n) : ∃ a' xs', V.ref a = .ref a' ∧ SqT K H a' xs' ∧ xs'.length = m ∧ gs xs' σ H n := ⟨a, xs, rfl, h, hm, q⟩
theorem z_upL (h : SqL K H a xs) (hm : xs.length = m) (q : gs xs σ H n) : ∃ a' xs', V.ref a = .ref a' ∧ SqL K H a' xs' ∧ xs'.length = m ∧ gs xs' σ H n := ⟨a, xs, rfl, h, hm, q⟩
theorem z_gT (h : SqT K H a xs) (hm : xs.length = m) (q : gs xs σ H n) : gTup K m gs (.ref a) σ H n := ⟨a, xs, rfl, h, hm, q⟩
theorem z_gcons {t : TG} {u : TGs} {R : L2.St → Hp → Prop} (h : t v σ H fun σ' H' => u xs σ' H' R) : gCons t u (v :: xs) σ H R := ⟨v, xs, rfl, h⟩
theorem z_gnil {R : L2.St → Hp → Prop} (h : R σ H) : gNil [] σ H R := ⟨rfl, h⟩
end
end Z
namespace Z
open PySem PySem.Spec PyProof.Rows L2
section
variable {K : PySem.W.Frag} {Wout : WX} {D : Ends} {c cls : Value} {ts : Addr → Value → Option Addr → TS} {l : List (Value × (Addr → Value → Option Addr → TS))} {σ : L2.St} {H : Hp} {d : Option Addr}
theorem z_many1 (e : PySem.W.exmOne K cls c = some true) (h : ∀ a, H a = none → ts a cls d D σ H) : WE (wMany K Wout D ((c, ts) :: l)) σ cls d H := ⟨true, e, fun _ a ha => h a ha, fun z => Bool.noConfusion z⟩
theorem z_many0 (e : PySem.W.exmOne K cls c = some false) (h : WE (wMany K Wout D l) σ cls d H) : WE (wMany K Wout D ((c, ts) :: l)) σ cls d H := ⟨false, e, fun z => Bool.noConfusion z, fun _ => h⟩
theorem z_eqS {x : Str} {Q : VK} (q : Q (.bl true) H) : rEq (.str x) (.str x) H Q := ⟨rfl, by rw [decide_eq_true rfl]; exact q⟩
end
end Z
/-! ### data: what a value stands for -/
namespace Z
open PySem PySem.Spec PyProof.Rows L2
section
variable {K : PySem.W.Frag} {H H' : Hp} {v : V} {d d1 d2 d3 d4 d5 d6 : PyData}
mutual
theorem dp_mono (s : Same H H') : ∀ {d : PyData} {v : V}, Dp K H v d → Dp K H' v d
  | _, _, .non => .non
  | _, _, .bl b => .bl b
  | _, _, .int i => .int i
  | _, _, .str x => .str x
  | _, _, .lst h a => .lst (s.seq h) (dp_monoA s a)
  | _, _, .tup h a => .tup (seqT s h) (dp_monoA s a)
theorem dp_monoA (s : Same H H') : ∀ {ds : List PyData} {vs : List V}, DpAll K H vs ds → DpAll K H' vs ds
  | _, _, .nil => .nil
  | _, _, .cons h a => .cons (dp_mono s h) (dp_monoA s a)
end
mutual
def tupOnly : PyData → Bool
  | .list _ => false
  | .dict _ => false
  | .tuple ds => tupOnlyA ds
  | .none => true
  | .bool _ => true
  | .int _ => true
  | .str _ => true
def tupOnlyA : List PyData → Bool
  | [] => true
  | d :: ds => tupOnly d && tupOnlyA ds
end
def Kp (p : Addr) (H H' : Hp) : Prop := ∀ b o, b ≠ p → H b = some o → H' b = some o
theorem seqT_kp {p a : Addr} {xs ys : List V} (k : Kp p H H') (hp : H p = some (.lst xs)) (h : SqT K H a ys) : SqT K H' a ys := by
  rcases h with (h | ⟨o, h⟩) | h
  · exact .inl (.inl (k _ _ (ne_of h hp (by intro z; cases z)) h))
  · exact .inl (.inr ⟨o, k _ _ (ne_of h hp (by intro z; cases z)) h⟩)
  · exact .inr h
mutual
theorem dp_kp {p : Addr} {xs : List V} (k : Kp p H H') (hp : H p = some (.lst xs)) : ∀ {d : PyData} {v : V}, tupOnly d = true → Dp K H v d → Dp K H' v d
  | _, _, _, .non => .non
  | _, _, _, .bl b => .bl b
  | _, _, _, .int i => .int i
  | _, _, _, .str x => .str x
  | _, _, t, .lst h a => by simp [tupOnly] at t
  | _, _, t, .tup h a => .tup (seqT_kp k hp h) (dp_kpA k hp (by simpa [tupOnly] using t) a)
theorem dp_kpA {p : Addr} {xs : List V} (k : Kp p H H') (hp : H p = some (.lst xs)) : ∀ {ds : List PyData} {vs : List V}, tupOnlyA ds = true → DpAll K H vs ds → DpAll K H' vs ds
  | _, _, _, .nil => .nil
  | _, _, t, .cons h a => by
    have t' : (tupOnly _ && tupOnlyA _) = true := t
    rw [Bool.and_eq_true] at t'
    exact .cons (dp_kp k hp t'.1 h) (dp_kpA k hp t'.2 a)
end
theorem dp_int {i : Int} (h : Dp K H v (.int i)) : v = .int i := by
  cases h
  rfl
theorem dp_non (h : Dp K H v .none) : v = .non := by
  cases h
  rfl
theorem dp_bool {b : Bool} (h : Dp K H v (.bool b)) : v = .bl b := by
  cases h
  rfl
theorem dp_str {b : Str} (h : Dp K H v (.str b)) : v = .str b := by
  cases h
  rfl
theorem dp_tup {ds : List PyData} (h : Dp K H v (.tuple ds)) : ∃ p vs, v = .ref p ∧ SqT K H p vs ∧ DpAll K H vs ds := by
  cases h with
  | tup h a => exact ⟨_, _, rfl, h, a⟩
theorem dpa_nil {vs : List V} (h : DpAll K H vs []) : vs = [] := by
  cases h
  rfl
theorem dpa_cons {vs : List V} {ds : List PyData} (h : DpAll K H vs (d :: ds)) : ∃ v r, vs = v :: r ∧ Dp K H v d ∧ DpAll K H r ds := by
  cases h with
  | cons a b => exact ⟨_, _, rfl, a, b⟩
theorem dp_t1 (h : Dp K H v (.tuple [d1])) : ∃ p v1, v = .ref p ∧ SqT K H p [v1] ∧ Dp K H v1 d1 := by
  obtain ⟨p, vs, e, hS, a⟩ := dp_tup h
  obtain ⟨v1, _, rfl, h1, a⟩ := dpa_cons a
  obtain rfl := dpa_nil a
  exact ⟨p, v1, e, hS, h1⟩
theorem dp_t2 (h : Dp K H v (.tuple [d1, d2])) : ∃ p v1 v2, v = .ref p ∧ SqT K H p [v1, v2] ∧ Dp K H v1 d1 ∧ Dp K H v2 d2 := by
  obtain ⟨p, vs, e, hS, a⟩ := dp_tup h
  obtain ⟨v1, _, rfl, h1, a⟩ := dpa_cons a
  obtain ⟨v2, _, rfl, h2, a⟩ := dpa_cons a
  obtain rfl := dpa_nil a
  exact ⟨p, v1, v2, e, hS, h1, h2⟩
theorem dp_t3 (h : Dp K H v (.tuple [d1, d2, d3])) : ∃ p v1 v2 v3, v = .ref p ∧ SqT K H p [v1, v2, v3] ∧ Dp K H v1 d1 ∧ Dp K H v2 d2 ∧ Dp K H v3 d3 := by
  obtain ⟨p, vs, e, hS, a⟩ := dp_tup h
  obtain ⟨v1, _, rfl, h1, a⟩ := dpa_cons a
  obtain ⟨v2, _, rfl, h2, a⟩ := dpa_cons a
  obtain ⟨v3, _, rfl, h3, a⟩ := dpa_cons a
  obtain rfl := dpa_nil a
  exact ⟨p, v1, v2, v3, e, hS, h1, h2, h3⟩
theorem dp_t6 (h : Dp K H v (.tuple [d1, d2, d3, d4, d5, d6])) : ∃ p v1 v2 v3 v4 v5 v6, v = .ref p ∧ SqT K H p [v1, v2, v3, v4, v5, v6] ∧ Dp K H v1 d1 ∧ Dp K H v2 d2 ∧ Dp K H v3 d3 ∧ Dp K H v4 d4 ∧ Dp K H v5 d5 ∧ Dp K H v6 d6 := by
  obtain ⟨p, vs, e, hS, a⟩ := dp_tup h
  obtain ⟨v1, _, rfl, h1, a⟩ := dpa_cons a
  obtain ⟨v2, _, rfl, h2, a⟩ := dpa_cons a
  obtain ⟨v3, _, rfl, h3, a⟩ := dpa_cons a
  obtain ⟨v4, _, rfl, h4, a⟩ := dpa_cons a
  obtain ⟨v5, _, rfl, h5, a⟩ := dpa_cons a
  obtain ⟨v6, _, rfl, h6, a⟩ := dpa_cons a
  obtain rfl := dpa_nil a
  exact ⟨p, v1, v2, v3, v4, v5, v6, e, hS, h1, h2, h3, h4, h5, h6⟩
theorem dp_mk {p : Addr} {vs : List V} {ds : List PyData} (h : H p = some (.tup vs)) (a : DpAll K H vs ds) : Dp K H (.ref p) (.tuple ds) := .tup (.inl (.inl h)) a
end
/-! ### numbers -/
def qD (r : Rat) : PyData := .tuple [.int r.num, .int (r.den : Int)]
theorem dp_q {K : PySem.W.Frag} {H : Hp} {v : V} {r : Rat} (h : Dp K H v (qD r)) : ∃ p, v = .ref p ∧ SqT K H p [.int r.num, .int (r.den : Int)] := by
  obtain ⟨p, v1, v2, e, hS, h1, h2⟩ := dp_t2 h
  rw [dp_int h1, dp_int h2] at hS
  exact ⟨p, e, hS⟩
theorem dp_mkq {K : PySem.W.Frag} {H : Hp} {p : Addr} {r : Rat} (h : H p = some (.tup [.int r.num, .int (r.den : Int)])) : Dp K H (.ref p) (qD r) := dp_mk h (.cons (.int _) (.cons (.int _) .nil))
theorem dp_seqq {K : PySem.W.Frag} {H : Hp} {p : Addr} {r : Rat} (h : SqT K H p [.int r.num, .int (r.den : Int)]) : Dp K H (.ref p) (qD r) := .tup h (.cons (.int _) (.cons (.int _) .nil))
/-- numerator and denominator at most so great -/
def Bd (r : Rat) (p q : Nat) : Prop := r.num.natAbs ≤ p ∧ r.den ≤ q
theorem bd_divInt {n d : Int} (h : d ≠ 0) : Bd (Rat.divInt n d) n.natAbs d.natAbs := by
  unfold Bd
  rw [Rat.num_divInt, Rat.den_divInt, if_neg h]
  refine ⟨Nat.le_trans (Int.natAbs_ediv_le_natAbs _ _) ?_, Nat.div_le_self _ _⟩
  rw [Int.natAbs_mul]
  have : d.sign.natAbs ≤ 1 := by
    rcases Int.lt_trichotomy d 0 with z | z | z
    · rw [Int.sign_eq_neg_one_of_neg z]; decide
    · exact absurd z h
    · rw [Int.sign_eq_one_of_pos z]; decide
  calc d.sign.natAbs * n.natAbs ≤ 1 * n.natAbs := Nat.mul_le_mul_right _ this
    _ = n.natAbs := Nat.one_mul _
theorem q_self (r : Rat) : Rat.divInt r.num (r.den : Int) = r := Rat.num_divInt_den r
end Z
namespace Z
open PySem PySem.Spec PyProof.Rows L2
def gd (n d : Int) : Int := ((Nat.gcd n.natAbs d.natAbs : Nat) : Int)
def rn (n d : Int) : Int := (if d < 0 then -n else n) / gd n d
def rd (n d : Int) : Int := (if d < 0 then -d else d) / gd n d
theorem rn_q {n d : Int} (h : d ≠ 0) : rn n d = (Rat.divInt n d).num := by
  rw [Rat.num_divInt]
  unfold rn gd
  have e : d.gcd n = Nat.gcd n.natAbs d.natAbs := Nat.gcd_comm _ _
  rw [e]
  congr 1
  split
  · rename_i z
    rw [Int.sign_eq_neg_one_of_neg z]
    omega
  · rename_i z
    rw [Int.sign_eq_one_of_pos (by omega)]
    omega
theorem rd_q {n d : Int} (h : d ≠ 0) : rd n d = ((Rat.divInt n d).den : Int) := by
  rw [Rat.den_divInt, if_neg h]
  unfold rd gd
  have e : d.gcd n = Nat.gcd n.natAbs d.natAbs := Nat.gcd_comm _ _
  rw [e]
  rw [Int.natCast_ediv]
  congr 1
  split <;> omega
def lim : Int := 1000000000000000000
def fitsQ (r : Rat) : Prop := -lim ≤ r.num ∧ r.num ≤ lim ∧ (r.den : Int) ≤ lim
theorem bd_add {a b : Rat} {p q p' q' : Nat} (h : Bd a p q) (h' : Bd b p' q') : Bd (a + b) (p * q' + p' * q) (q * q') := by
  have ha := a.den_nz
  have hb := b.den_nz
  have e : a + b = Rat.divInt (a.num * b.den + b.num * a.den) ((a.den : Int) * b.den) := by
    rw [← Rat.divInt_add_divInt _ _ (by omega) (by omega), Rat.num_divInt_den, Rat.num_divInt_den]
  rw [e]
  have hd : ((a.den : Int) * b.den) ≠ 0 := Int.mul_ne_zero (by omega) (by omega)
  have k := bd_divInt (n := a.num * b.den + b.num * a.den) hd
  refine ⟨Nat.le_trans k.1 (Nat.le_trans (Int.natAbs_add_le _ _) ?_), Nat.le_trans k.2 ?_⟩
  · rw [Int.natAbs_mul, Int.natAbs_mul]
    exact Nat.add_le_add (Nat.mul_le_mul h.1 h'.2) (Nat.mul_le_mul h'.1 h.2)
  · rw [Int.natAbs_mul]
    exact Nat.mul_le_mul h.2 h'.2
theorem bd_mul {a b : Rat} {p q p' q' : Nat} (h : Bd a p q) (h' : Bd b p' q') : Bd (a * b) (p * p') (q * q') := by
  have ha := a.den_nz
  have hb := b.den_nz
  have e : a * b = Rat.divInt (a.num * b.num) ((a.den : Int) * b.den) := by
    rw [← Rat.divInt_mul_divInt, Rat.num_divInt_den, Rat.num_divInt_den]
  rw [e]
  have hd : ((a.den : Int) * b.den) ≠ 0 := Int.mul_ne_zero (by omega) (by omega)
  have k := bd_divInt (n := a.num * b.num) hd
  refine ⟨Nat.le_trans k.1 ?_, Nat.le_trans k.2 ?_⟩
  · rw [Int.natAbs_mul]
    exact Nat.mul_le_mul h.1 h'.1
  · rw [Int.natAbs_mul]
    exact Nat.mul_le_mul h.2 h'.2
theorem bd_neg {a : Rat} {p q : Nat} (h : Bd a p q) : Bd (-a) p q := by
  unfold Bd
  rw [Rat.neg_num, Rat.neg_den, Int.natAbs_neg]
  exact h
theorem bd_sub {a b : Rat} {p q p' q' : Nat} (h : Bd a p q) (h' : Bd b p' q') : Bd (a - b) (p * q' + p' * q) (q * q') := by
  rw [Rat.sub_eq_add_neg]
  exact bd_add h (bd_neg h')
theorem q_div (a b : Rat) (h : b ≠ 0) : a / b = Rat.divInt (a.num * b.den) ((a.den : Int) * b.num) := by
  rw [Rat.div_def, ← Rat.num_divInt_den b, Rat.inv_divInt]
  conv => lhs; lhs; rw [← Rat.num_divInt_den a]
  rw [Rat.divInt_mul_divInt, Rat.num_divInt_den]
theorem bd_div {a b : Rat} {p q p' q' : Nat} (hb : b ≠ 0) (h : Bd a p q) (h' : Bd b p' q') : Bd (a / b) (p * q') (q * p') := by
  have ha := a.den_nz
  rw [q_div a b hb]
  have hn : b.num ≠ 0 := fun z => hb (Rat.num_eq_zero.mp z)
  have hd : ((a.den : Int) * b.num) ≠ 0 := Int.mul_ne_zero (by omega) hn
  have k := bd_divInt (n := a.num * b.den) hd
  refine ⟨Nat.le_trans k.1 ?_, Nat.le_trans k.2 ?_⟩
  · rw [Int.natAbs_mul]
    exact Nat.mul_le_mul h.1 h'.2
  · rw [Int.natAbs_mul]
    exact Nat.mul_le_mul h.2 h'.1
theorem Bd.le {a : Rat} {p q p' q' : Nat} (h : Bd a p q) (h1 : p ≤ p') (h2 : q ≤ q') : Bd a p' q' := ⟨Nat.le_trans h.1 h1, Nat.le_trans h.2 h2⟩
theorem Bd.fits {a : Rat} {p q : Nat} (h : Bd a p q) (h1 : p ≤ 1000000000000000000) (h2 : q ≤ 1000000000000000000) : fitsQ a := by
  have a1 := h.1
  have a2 := h.2
  unfold fitsQ lim
  omega
theorem q_add (a b : Rat) : a + b = Rat.divInt (a.num * b.den + b.num * a.den) ((a.den : Int) * b.den) := by
  have ha := a.den_nz
  have hb := b.den_nz
  rw [← Rat.divInt_add_divInt _ _ (by omega) (by omega), Rat.num_divInt_den, Rat.num_divInt_den]
theorem q_sub (a b : Rat) : a - b = Rat.divInt (a.num * b.den - b.num * a.den) ((a.den : Int) * b.den) := by
  have ha := a.den_nz
  have hb := b.den_nz
  rw [← Rat.divInt_sub_divInt _ _ (by omega) (by omega), Rat.num_divInt_den, Rat.num_divInt_den]
theorem q_mul (a b : Rat) : a * b = Rat.divInt (a.num * b.num) ((a.den : Int) * b.den) := by
  rw [← Rat.divInt_mul_divInt, Rat.num_divInt_den, Rat.num_divInt_den]
theorem q_dd (a b : Rat) : ((a.den : Int) * b.den) ≠ 0 := by
  have ha := a.den_nz
  have hb := b.den_nz
  exact Int.mul_ne_zero (by omega) (by omega)
end Z
namespace Z
open PySem PySem.Spec PyProof.Rows L2
theorem tyx_T {K : PySem.W.Frag} {H : Hp} {a : Addr} {xs : List V} (h : SqT K H a xs) : TyX K H (.ref a) (.type "tuple") := by
  rcases h with (h | ⟨o, h⟩) | ⟨o, its, n, h, c, _⟩
  · exact .base (.tup h)
  · exact .fTuple h
  · exact .kTuple h c
theorem z_isT {K : PySem.W.Frag} {H : Hp} {Q : VK} {p : Addr} {xs : List V} (h : SqT K H p xs) (q : Q (.bl true) H) : rIsi K [.ref p, .ty "tuple"] H Q := z_ty (tyx_T h) (by decide +kernel) q
end Z
namespace Z
open PySem PySem.Spec PyProof.Rows L2
/-- a tuple of the module's own -/
theorem dpk {K : PySem.W.Frag} {H : Hp} {a : Addr} {od : Option Addr} {its : List Value} {n : Nat} {sl : Array (Option Value)} {vs : List V} {ds : List PyData} (h : K.lookup a = some ⟨.type "tuple", od, .seq its.toArray n, sl⟩)
    (hs : its.length ≤ 1000) (r : Vals vs its) (d : DpAll K H vs ds) : Dp K H (.ref a) (.tuple ds) :=
  .tup (.inr ⟨_, its.toArray, n, h, rfl, rfl, by rw [List.size_toArray]; exact sz hs, by simpa using r⟩) d
/-- a tuple and a tuple -/
theorem z_catT {K : PySem.W.Frag} {H : Hp} {Q : VK} {p q : Addr} {xs ys : List V} (h1 : SqT K H p xs) (h2 : SqT K H q ys) (hx : xs ≠ []) (hl : xs.length + ys.length ≤ 1000) (hy : ys ≠ [])
    (k : ∀ p H', H p = none → Same H H' → H' p = some (.tup (xs ++ ys)) → Q (.ref p) H') : rCatT K (.ref p) (.ref q) H Q := by
  refine ⟨p, q, xs, ys, rfl, rfl, h1, h2, hx, sz hl, fun z => absurd z hy, fun _ a ha => k a _ ha (same_upd ha) upd_same⟩
end Z
namespace Z
open PySem PySem.Spec PyProof.Rows L2
def rTupOf (K : PySem.W.Frag) : List V → Hp → VK → Prop := fun xs H Q => ∃ p ys, xs = [.ref p] ∧ ((SqL K H p ys ∧ ∀ l, H l = none → Q (.ref l) (upd H l (.tup ys))) ∨ (SqT K H p ys ∧ Q (.ref p) H))
def rListOf (K : PySem.W.Frag) : List V → Hp → VK → Prop := fun xs H Q => ∃ p ys, xs = [.ref p] ∧ (SqL K H p ys ∨ SqT K H p ys) ∧ ∀ l, H l = none → Q (.ref l) (upd H l (.lst ys))
theorem c_tupOf {X : Cx} : CallR X (.type "tuple") (rTupOf X.K) := call_tuple_of
theorem c_listOf {X : Cx} : CallR X (.type "list") (rListOf X.K) := call_list_of
section
variable {K : PySem.W.Frag} {H : Hp} {Q : VK} {p : Addr} {xs : List V} {σ : L2.St}
theorem z_tupOf (h : SqL K H p xs) (q : ∀ a H', H a = none → Same H H' → H' a = some (.tup xs) → Q (.ref a) H') : rTupOf K [.ref p] H Q := ⟨p, xs, rfl, .inl ⟨h, fun l hl => q l _ hl (same_upd hl) upd_same⟩⟩
theorem z_tupOfT (h : SqT K H p xs) (q : Q (.ref p) H) : rTupOf K [.ref p] H Q := ⟨p, xs, rfl, .inr ⟨h, q⟩⟩
theorem z_listOf (h : SqL K H p xs) (q : ∀ a H', H a = none → Same H H' → H' a = some (.lst xs) → Q (.ref a) H') : rListOf K [.ref p] H Q := ⟨p, xs, rfl, .inl h, fun l hl => q l _ hl (same_upd hl) upd_same⟩
theorem z_listOfT (h : SqT K H p xs) (q : ∀ a H', H a = none → Same H H' → H' a = some (.lst xs) → Q (.ref a) H') : rListOf K [.ref p] H Q := ⟨p, xs, rfl, .inr h, fun l hl => q l _ hl (same_upd hl) upd_same⟩
theorem z_yes {QB : Bool → Hp → Prop} (q : QB true H) : tYes σ H QB := q
/-- [e for k in range(m)] -/
theorem z_lcR1 {ta : TA} {k : Nat} {te : TE} {vs : List Nat} (m : Nat) (hm : m ≤ 1000) (ha : ∀ R : List V → Hp → Prop, R [.int (m : Int)] H → ta σ H R) (hw : ∀ x, wipe ((wipe σ vs).set k (some x)) vs = wipe σ vs) (Pv : Nat → Addr → List V → Hp → Prop)
    (h0 : ∀ D H', H D = none → Same H H' → H' D = some (.lst []) → Pv 0 D [] H')
    (hs : ∀ i D acc H', i < m → acc.length = i → H' D = some (.lst acc) → Pv i D acc H' → te ((wipe σ vs).set k (some (.int (i : Int)))) H' fun y H4 => H4 D = some (.lst acc) ∧ Pv (i + 1) D (acc ++ [y]) (upd H4 D (.lst (acc ++ [y]))))
    (mono : ∀ σ' H' Q Q', (∀ y H4, Q y H4 → Q' y H4) → te σ' H' Q → te σ' H' Q')
    (hd : ∀ D acc H', acc.length = m → H' D = some (.lst acc) → Pv m D acc H' → Q (.ref D) H') : tLc (iRng1 ta) (gName k) tYes te vs σ H Q := by
  refine ha _ ⟨(m : Int), rfl, by omega, by omega, fun D hD => ?_⟩
  refine lc_range (lo := 0) (n := (m : Int).toNat) (fun i H' => ∃ acc, acc.length = i ∧ H' D = some (.lst acc) ∧ Pv i D acc H') ⟨[], rfl, upd_same, h0 D _ hD (same_upd hD) upd_same⟩ (fun i H' hi ⟨acc, hl, hH, p⟩ => ?_) (fun H' ⟨acc, hl, hH, p⟩ => hd D acc H' (by simpa using hl) hH (by simpa using p))
  have e : (0 : Int) + (i : Int) = (i : Int) := Int.zero_add _
  show wipe ((wipe σ vs).set k (some (.int ((0 : Int) + (i : Int))))) vs = wipe σ vs ∧ _
  refine ⟨hw _, ?_⟩
  refine z_yes ?_
  refine z_ifT ?_
  rw [e]
  have hi' : i < m := by simpa using hi
  exact mono _ _ _ _ (fun y H4 ⟨e1, e2⟩ => ⟨acc, e1, Nat.lt_of_lt_of_le (show acc.length < 1000 by omega) (by decide), acc ++ [y], by simp [hl], upd_same, e2⟩) (hs i D acc H' (by simpa using hi) hl hH p)
end
end Z
namespace Z
open PySem PySem.Spec PyProof.Rows L2
section
variable {K : PySem.W.Frag} {H : Hp} {Q : VK} {p : Addr} {xs : List V} {σ : L2.St} {i : Int} {RO : Option Int → Hp → Prop} {te : TE} {tl th : TO}
theorem z_sl {g : V → Option Int → Option Int → Hp → VK → Prop} (h : te σ H fun x H1 => tl σ H1 fun l H2 => th σ H2 fun u H3 => g x l u H3 Q) : tSl g te tl th σ H Q := h
theorem z_noPart (q : RO none H) : tNoPart σ H RO := q
theorem z_part (h : te σ H fun x H1 => ∃ i, x = .int i ∧ RO (some i) H1) : tPart te σ H RO := h
theorem z_partI (q : RO (some i) H) : ∃ i', V.int i = .int i' ∧ RO (some i') H := ⟨i, rfl, q⟩
theorem z_slL {lo hi : Option Int} {ys : List V} (h : SqL K H p xs) (e : cutV xs lo hi = ys) (q : ∀ a H', H a = none → Same H H' → H' a = some (.lst ys) → Q (.ref a) H') : rSlL K (.ref p) lo hi H Q := by
  subst e
  exact ⟨p, xs, rfl, h, fun a ha => q a _ ha (same_upd ha) upd_same⟩
end
end Z
namespace Z
open PySem PySem.Spec PyProof.Rows L2
theorem z_slT {K : PySem.W.Frag} {H : Hp} {Q : VK} {p : Addr} {xs ys : List V} {lo hi : Option Int} (h : SqT K H p xs) (hn : ¬ (HT.sIx xs.length 0 lo = 0 ∧ HT.sIx xs.length xs.length hi = xs.length)) (e : cutV xs lo hi = ys)
    (q : ∀ a H', H a = none → Same H H' → H' a = some (.tup ys) → Q (.ref a) H') : rSlT K (.ref p) lo hi H Q := by
  subst e
  exact ⟨p, xs, rfl, h, hn, fun a ha => q a _ ha (same_upd ha) upd_same⟩
theorem eqv_q (a b : Rat) : PyData.eqv (qD a) (qD b) = decide (a = b) := by
  show (a.num == b.num && ((a.den : Int) == (b.den : Int) && true)) = decide (a = b)
  by_cases h : a = b
  · subst h
    simp
  · rw [decide_eq_false h]
    by_cases h1 : a.num = b.num
    · have h2 : ¬ (a.den : Int) = b.den := fun z => h (Rat.ext h1 (by omega))
      simp [h2]
    · simp [h1]
theorem shaped_q (a : Rat) : SeqAt.shaped (qD a) = true := rfl
theorem z_eqQ {K : PySem.W.Frag} {x y : V} {a b : Rat} {H : Hp} {Q : VK} (h1 : Dp K H x (qD a)) (h2 : Dp K H y (qD b)) (q : Q (.bl (decide (a = b))) H) : rEqD K x y H Q := ⟨qD a, qD b, h1, h2, shaped_q a, shaped_q b, by rw [eqv_q]; exact q⟩
theorem z_neQ {K : PySem.W.Frag} {x y : V} {a b : Rat} {H : Hp} {Q : VK} (h1 : Dp K H x (qD a)) (h2 : Dp K H y (qD b)) (q : Q (.bl (decide (¬ a = b))) H) : rNeD K x y H Q := ⟨qD a, qD b, h1, h2, shaped_q a, shaped_q b, by
  rw [eqv_q, show (!decide (a = b)) = decide (¬ a = b) by simp]
  exact q⟩
theorem z_neSame {K : PySem.W.Frag} {x y : V} {d : PyData} {H : Hp} {Q : VK} (h1 : Dp K H x d) (h2 : Dp K H y d) (s : SeqAt.shaped d = true) (q : Q (.bl false) H) : rNeD K x y H Q :=
  ⟨d, d, h1, h2, s, s, by rw [SeqAt.eqv_refl d (SeqAt.canLay_of_shaped s)]; exact q⟩
end Z
namespace Z
open PySem PySem.Spec PyProof.Rows L2
def rIsN : R2 := fun x y H Q => y = .non ∧ Q (.bl (decide (x = .non))) H
def rNotN : R2 := fun x y H Q => y = .non ∧ Q (.bl (!decide (x = .non))) H
theorem op_isN1 {X : Cx} : OpR X (compareOp .Is) rIsN := op_isN
theorem op_notN1 {X : Cx} : OpR X (compareOp .IsNot) rNotN := op_notN
section
variable {σ : L2.St} {H : Hp} {n : L2.St → Hp → Prop} {r : VK} {b c : L2.St → Hp → Prop} {tb : TS} {K : PySem.W.Frag} {Q : VK} {p : Addr} {v y : V} {xs : List V}
theorem z_isNN (q : Q (.bl true) H) : rIsN .non .non H Q := ⟨rfl, by simpa using q⟩
theorem z_isNR (q : Q (.bl false) H) : rIsN (.ref p) .non H Q := ⟨rfl, by simpa using q⟩
theorem z_notNN (q : Q (.bl false) H) : rNotN .non .non H Q := ⟨rfl, by simpa using q⟩
theorem z_notNR (q : Q (.bl true) H) : rNotN (.ref p) .non H Q := ⟨rfl, by simpa using q⟩
theorem z_bmL {r : V → List V → Hp → VK → Prop} {to : TE} {t : TA} (ho : ∀ R : VK, R (.ref p) H → to σ H R) (hp : H p = some (.lst xs)) (h : t σ H fun vs H2 => r (.ref p) vs H2 Q) : tBM K "list" r to t σ H Q :=
  ho _ ⟨.inl ⟨rfl, _, .inl (.inl hp)⟩, h⟩
theorem z_append (hp : H p = some (.lst xs)) (hl : xs.length < 1000) (q : Q .non (upd H p (.lst (xs ++ [y])))) : rAppend (.ref p) [y] H Q := ⟨p, xs, y, rfl, rfl, hp, Nat.lt_of_lt_of_le hl (by decide), q⟩
/-- the list that a for goes over, made on the way -/
def ForL (K : PySem.W.Frag) (g : TG) (tb : TS) (n : L2.St → Hp → Prop) (r : VK) (b c : L2.St → Hp → Prop) (σ : L2.St) : VK := fun x H1 => tFor (iList K (tC x)) g tb ⟨n, r, b, c⟩ σ H1
theorem z_forE {tl : TE} {g : TG} (h : tl σ H (ForL K g tb n r b c σ)) : tFor (iList K tl) g tb ⟨n, r, b, c⟩ σ H := h
/-- [e for x in l], where e answers at once -/
theorem z_lcM {tl : TE} {k : Nat} {te : TE} {vs : List Nat} {a : Addr} {xs ws : List V} (hlen : ws.length = xs.length) (hm : xs.length ≤ 1000) (ha : ∀ R : VK, R (.ref a) H → tl σ H R) (hx : H a = some (.lst xs)) (hw : ∀ x, wipe ((wipe σ vs).set k (some x)) vs = wipe σ vs)
    (body : ∀ (i : Nat) (x w : V) (H' : Hp), xs[i]? = some x → ws[i]? = some w → Same H H' → ∀ R : VK, R w H' → te ((wipe σ vs).set k (some x)) H' R)
    (hd : ∀ D H', H D = none → Same H H' → H' D = some (.lst ws) → Q (.ref D) H') : tLc (iList K tl) (gName k) tYes te vs σ H Q := by
  refine ha _ ⟨a, rfl, ⟨xs, .inl (.inl hx)⟩, fun D hD => ?_⟩
  have hDa : a ≠ D := ne_of_none hx hD
  refine lc_list (xs := xs) (fun i H' => Same H H' ∧ H' D = some (.lst (ws.take i)) ∧ H' a = some (.lst xs)) ⟨same_upd hD, upd_same, by rw [upd_ne hDa]; exact hx⟩ (fun i H' _ h => .inl (.inl h.2.2)) (fun i x H' hi ⟨s, hH, h3⟩ => ?_) (fun H' ⟨s, hH, _⟩ => hd D H' hD s (by rw [hH, ← hlen, List.take_length]))
  show wipe ((wipe σ vs).set k (some x)) vs = wipe σ vs ∧ _
  refine ⟨hw _, ?_⟩
  refine z_yes ?_
  refine z_ifT ?_
  have hi' : i < xs.length := by
    rcases Nat.lt_or_ge i xs.length with h | h
    · exact h
    · rw [List.getElem?_eq_none h] at hi
      cases hi
  have hiw : i < ws.length := by omega
  have hw' : ws[i]? = some ws[i] := List.getElem?_eq_getElem hiw
  refine body i x _ H' hi hw' s _ ?_
  refine ⟨_, hH, Nat.lt_of_lt_of_le (show (ws.take i).length < 1000 by rw [List.length_take]; omega) (by decide), fun q x' e => ?_, ?_, ?_⟩
  · have hq : q ≠ D := ne_of_none e hD
    rw [upd_ne hq]
    exact s _ _ e
  · rw [upd_same, List.take_add_one, hw']
    rfl
  · rw [upd_ne hDa]
    exact h3
end
/-! ### numbers over a common denominator -/
def Zb (r : Rat) (N M : Nat) : Prop := ∃ k : Int, r * (N : Rat) = (k : Rat) ∧ k.natAbs ≤ M
theorem zb_add {a b : Rat} {N M M' : Nat} (h : Zb a N M) (h' : Zb b N M') : Zb (a + b) N (M + M') := by
  obtain ⟨k, e, l⟩ := h
  obtain ⟨k', e', l'⟩ := h'
  exact ⟨k + k', by rw [Rat.add_mul, e, e', Rat.intCast_add], by omega⟩
theorem zb_neg {a : Rat} {N M : Nat} (h : Zb a N M) : Zb (-a) N M := by
  obtain ⟨k, e, l⟩ := h
  exact ⟨-k, by rw [Rat.neg_mul, e, Rat.intCast_neg], by omega⟩
theorem zb_sub {a b : Rat} {N M M' : Nat} (h : Zb a N M) (h' : Zb b N M') : Zb (a - b) N (M + M') := by
  rw [Rat.sub_eq_add_neg]
  exact zb_add h (zb_neg h')
theorem zb_mul {a b : Rat} {N N' M M' : Nat} (h : Zb a N M) (h' : Zb b N' M') : Zb (a * b) (N * N') (M * M') := by
  obtain ⟨k, e, l⟩ := h
  obtain ⟨k', e', l'⟩ := h'
  refine ⟨k * k', ?_, by rw [Int.natAbs_mul]; exact Nat.mul_le_mul l l'⟩
  rw [Rat.natCast_mul, Rat.intCast_mul, ← e, ← e']
  grind
theorem zb_up {a : Rat} {N M : Nat} (c : Nat) (h : Zb a N M) : Zb a (N * c) (M * c) := by
  obtain ⟨k, e, l⟩ := h
  refine ⟨k * (c : Int), ?_, by rw [Int.natAbs_mul]; exact Nat.mul_le_mul l (by omega)⟩
  rw [Rat.natCast_mul, Rat.intCast_mul, ← e, Rat.intCast_natCast]
  grind
theorem Zb.le {a : Rat} {N M M' : Nat} (h : Zb a N M) (l : M ≤ M') : Zb a N M' := by
  obtain ⟨k, e, l'⟩ := h
  exact ⟨k, e, Nat.le_trans l' l⟩
theorem Zb.bd {a : Rat} {N M : Nat} (h : Zb a N M) (h0 : N ≠ 0) : Bd a M N := by
  obtain ⟨k, e, l⟩ := h
  have hN : (N : Rat) ≠ 0 := fun z => h0 (by exact_mod_cast z)
  have e2 : a = Rat.divInt k (N : Int) := by
    rw [Rat.divInt_eq_div, ← e, Rat.intCast_natCast]
    grind
  rw [e2]
  exact (bd_divInt (by omega)).le l (by omega)
theorem zb_divInt {n d : Int} {N M c : Nat} (hd : d ≠ 0) (hN : (N : Int) = d * (c : Int)) (hl : n.natAbs * c ≤ M) : Zb (Rat.divInt n d) N M := by
  refine ⟨n * (c : Int), ?_, by rw [Int.natAbs_mul]; exact hl⟩
  have hd' : (d : Rat) ≠ 0 := fun z => hd (by exact_mod_cast z)
  have e : (N : Rat) = (d : Rat) * (c : Rat) := by
    rw [← Rat.intCast_natCast N, hN, Rat.intCast_mul, Rat.intCast_natCast]
  rw [Rat.divInt_eq_div, e, Rat.intCast_mul, Rat.intCast_natCast]
  grind
theorem zb_of {r : Rat} {p q N M : Nat} (h : Bd r p q) (hN : ∀ d, d ≤ q → d ≠ 0 → d ∣ N) (hl : p * N ≤ M) : Zb r N M := by
  obtain ⟨c, hc⟩ := hN r.den h.2 r.den_nz
  have hd := r.den_nz
  have e := zb_divInt (n := r.num) (d := (r.den : Int)) (N := N) (M := M) (c := c) (by omega) (by exact_mod_cast hc) (Nat.le_trans (Nat.mul_le_mul h.1 (show c ≤ N by rw [hc]; exact Nat.le_mul_of_pos_left _ (by omega))) hl)
  rwa [Rat.num_divInt_den] at e
end Z

namespace Z
open PySem PySem.Spec PyProof.Rows L2
def RevQ (K : PySem.W.Frag) (Q : VK) : VK := fun x H1 => ∃ a xs, x = .ref a ∧ SqL K H1 a xs ∧ ∀ p, H1 p = none → Q (.ref p) (upd H1 p (.lst xs.reverse))
section
variable {K : PySem.W.Frag} {H : Hp} {Q : VK} {p q : Addr} {xs ys : List V} {y : V} {σ : L2.St}
theorem z_revL {te : TE} (h : te σ H (RevQ K Q)) : tRevL K te σ H Q := h
theorem z_revE (h : SqL K H p xs) (k : ∀ a H', H a = none → Same H H' → H' a = some (.lst xs.reverse) → Q (.ref a) H') : RevQ K Q (.ref p) H :=
  ⟨p, xs, rfl, h, fun l hl => k l _ hl (same_upd hl) upd_same⟩
theorem z_pop (hp : H p = some (.lst (xs ++ [y]))) (k : Q y (upd H p (.lst xs))) : rPop (.ref p) [] H Q :=
  ⟨p, xs ++ [y], y, rfl, rfl, hp, by simp, by simpa using k⟩
theorem z_cat (h1 : H p = some (.lst xs)) (h2 : H q = some (.lst ys)) (hl : xs.length + ys.length ≤ 1000) (k : ∀ a H', H a = none → Same H H' → H' a = some (.lst (xs ++ ys)) → Q (.ref a) H') : rCat (.ref p) (.ref q) H Q :=
  ⟨p, q, xs, ys, rfl, rfl, h1, h2, sz hl, fun a ha => k a _ ha (same_upd ha) upd_same⟩
theorem z_extend (h1 : H p = some (.lst xs)) (h2 : H q = some (.lst ys)) (hl : xs.length + ys.length ≤ 1000) (k : Q .non (upd H p (.lst (xs ++ ys)))) : rExtend (.ref p) [.ref q] H Q :=
  ⟨p, q, xs, ys, rfl, rfl, h1, h2, sz hl, k⟩
theorem z_bm0L {r : V → List V → Hp → VK → Prop} {to : TE} (ho : ∀ R : VK, R (.ref p) H → to σ H R) (hp : H p = some (.lst xs)) (h : r (.ref p) [] H Q) : tBM0 K "list" r to σ H Q :=
  ho _ ⟨.inl ⟨rfl, _, .inl (.inl hp)⟩, h⟩
end
end Z

/-! set comprehensions, whatever the members are: `r` says what set.add asks, `fr` what the empty set is -/
namespace Sc
open PySem PySem.Spec PyProof.Rows L2 PpSet
abbrev AddR := V → List V → Hp → VK → Prop
/-- one turn's end: the member is added, or left out -/
def Keep (r : AddR) (D : Addr) (te : TE) (Nx : Hp → Prop) (σ2 : L2.St) (b : Bool) (H3 : Hp) : Prop := if b = true then te σ2 H3 fun y H4 => r (.ref D) [y] H4 fun _ H5 => Nx H5 else Nx H3
def tSet (r : AddR) (fr : Addr → HO) (wi : TI) (g : TG) (tt : TT) (te : TE) (vs : List Nat) : TE := fun σ H Q => wi σ H fun J H1 => ∀ D, H1 D = none → ∃ W : Nat → Nat → Hp → Prop,
  (∃ m, W 0 m (upd H1 D (fr D))) ∧ ∀ i m H, W i m H → (J.stop i H ∧ Q (.ref D) H) ∨ (J.go i H ∧ ∃ Nx : Hp → Prop, (∀ H', Nx H' → ∃ m', m' < m ∧ W (i + 1) m' H') ∧
    ∀ x H', J.yld i H x H' → g x (wipe σ vs) H' fun σ2 H2 => wipe σ2 vs = wipe σ vs ∧ tt σ2 H2 (Keep r D te Nx σ2))
abbrev freshSet (w : World) : Obj := { cls := .type "set", dict := none, data := .set #[] 0 (.fresh 0 0 (!w.params.followText "set-order")) }
section
variable {X : Cx}
theorem run_set {pins : List (Addr × Obj)} {s : Shared} {σ : L2.St} {H : Hp} {Q : VK} {r : AddR} {fr : Addr → HO} {elt tg iter : Expr} {ifs : List Expr} {scope : Scope} {own : List (PySem.Str × Nat)} {pos pos' : Pos} {wi : TI} {g : TG} {tt : TT} {te : TE} {use : Option (Value → Sem Unit)} {Qf : Value → Shared → Prop}
    (hfr : ∀ (H : Hp) (h : Heap) (a : Addr), a = h.objs.size → ObjOk X.prog X.w H (h.push (freshSet X.w)) a (fr a))
    (hr : ∀ (s : Shared) (H : Hp) (e : Env) (fp : List Addr), MtR (X.blk s H scope e fp) "set.add" r)
    (hc : X.calm = true) (hN : X.N.Nodup) (I : Inv X pins σ H s) (hi : PI X tg iter wi) (ok : BlkOk X.N X.env.scope scope own)
    (hg : ∀ (s : Shared) (H : Hp) (C : Addr) (cl : List (PySem.Str × Addr)) (fp : List Addr), PG (X.blk s H scope (compEnvC scope cl C X.env) fp) tg g)
    (ht : ∀ (s : Shared) (H : Hp) (C : Addr) (cl : List (PySem.Str × Addr)) (fp : List Addr), PTs (X.blk s H scope (compEnvC scope cl C X.env) fp) ifs tt)
    (he : ∀ (s : Shared) (H : Hp) (C : Addr) (cl : List (PySem.Str × Addr)) (fp : List Addr), PE (X.blk s H scope (compEnvC scope cl C X.env) fp) elt te)
    (hs : ∀ x, foldedSetIterable iter X.env x = pure x) (h : tSet r fr wi g tt te (own.map (·.2)) σ H Q)
    (hend : ∀ D C s' m H', Inv X pins σ H' s' → Q (.ref D) H' → s'.heap.Ns C m → FpOk X pins H' C → compPost (model X.prog X.w) X.A X.xe use Qf (.ref D) C (.ok .next) s') :
    wpAny (model X.prog X.w) X.A (comprehension (.SetComp elt [⟨tg, iter, ifs, 0⟩] scope pos) scope X.env pos' (newSet (.type "set")) false (eval iter X.env) use) Qf X.xe s := by
  have free0 : ∀ y ∈ scope.names, y.2 = .free → ∃ c, X.env.cells.lookup y.1 = some c := fun y hy e => (ok.free y hy e).elim (fun k => I.ok.has _ (.inl k)) fun k => I.ok.has _ (.inr k)
  refine wpAny_comprehension_free (use := use) rfl hs (closure_ok free0) ok.kind (fun y hy e => by rw [ok.uniq y hy, e]) ?_
  refine thn (hi.run pins s σ H _ I h) fun xv s1 hx => thn hx fun itv s2 h2 => ?_
  obtain ⟨it, fp, tn, J, H2, e, I2, T, st2, f2, q⟩ := h2
  subst e
  refine newSet_ok (newEnv_comp ?_)
  have hDn : H2 s2.heap.objs.size = none := I2.hok.fresh (Nat.le_refl _)
  obtain ⟨W, ⟨m0, w0⟩, turn⟩ := q _ hDn
  generalize hs3 : ({ s2 with heap := s2.heap.push (freshSet X.w) } : Shared) = s3
  have h3 : s3.heap = s2.heap.push (freshSet X.w) := by rw [← hs3]
  have I3 : Inv X pins σ (upd H2 s2.heap.objs.size (fr s2.heap.objs.size)) s3 := by
    rw [← hs3]
    exact I2.laid (t' := s2.toks) (fun b o e => Heap.get?_push_of_some _ e) (Nat.le_refl _) (hfr _ _ _ rfl)
  generalize hD : s2.heap.objs.size = D at *
  have old : ∀ b ∈ fp, b < D := fun b hb => by
    obtain ⟨o, e, _⟩ := T.obj _ _ st2 b hb
    rw [← hD]
    exact Heap.lt_size e
  have f3 : ∀ b ∈ fp, FpOk X pins (upd H2 D (fr D)) b ∧ b < s3.heap.objs.size := fun b hb => by
    have l := old b hb
    refine ⟨⟨?_, (f2 b hb).2⟩, ?_⟩
    · rw [upd_ne (Nat.ne_of_lt l)]
      exact (f2 b hb).1
    · rw [h3, Heap.size_push, hD]
      exact Nat.lt_succ_of_lt l
  have st3 : tn 0 s3.heap := T.keep _ _ _ st2 fun b _ o e => by
    rw [h3]
    exact Heap.get?_push_of_some _ e
  have I4 := block_start I3 ok hN f3
  generalize hH3 : upd H2 D (fr D) = H3 at I3 I4 w0 f3
  have pg := hg s3 H3 s3.heap.objs.size (cellsFrom (s3.heap.objs.size + 1) scope.names (cloFrom X.env.cells scope.names [])) fp
  have pt := ht s3 H3 s3.heap.objs.size (cellsFrom (s3.heap.objs.size + 1) scope.names (cloFrom X.env.cells scope.names [])) fp
  have pe := he s3 H3 s3.heap.objs.size (cellsFrom (s3.heap.objs.size + 1) scope.names (cloFrom X.env.cells scope.names [])) fp
  show codeAny _ _ (.compStart (.SetComp elt [⟨tg, iter, ifs, 0⟩] scope pos) 0 (.ref it) (.ref D) (compEnvC scope (cellsFrom (s3.heap.objs.size + 1) scope.names (cloFrom X.env.cells scope.names [])) s3.heap.objs.size X.env)) (compPost (model X.prog X.w) X.A X.xe use Qf (.ref D) s3.heap.objs.size) { s3 with heap := pushCells (s3.heap.push { cls := .type "dict", data := .dict #[] }) scope.names }
  generalize hce : compEnvC scope (cellsFrom (s3.heap.objs.size + 1) scope.names (cloFrom X.env.cells scope.names [])) s3.heap.objs.size X.env = ce at I4 pg pt pe ⊢
  have cL : ce.locals = s3.heap.objs.size := by rw [← hce] <;> rfl
  have ad := hr s3 H3 ce fp
  have nfp : ∀ b ∈ fp, H3 b = none := fun b hb => (f3 b hb).1.1
  generalize hs4 : ({ s3 with heap := pushCells (s3.heap.push { cls := .type "dict", data := .dict #[] }) scope.names } : Shared) = s4 at I4 ⊢
  have st4 : tn 0 s4.heap := T.keep _ _ _ st3 fun b _ o e => by
    rw [← hs4]
    exact pushCells_keeps _ _ _ _ (Heap.get?_push_of_some _ e)
  have stat : ∀ {σ' : L2.St} {H' : Hp} {s' : Shared}, Inv (X.blk s3 H3 scope ce fp) [] σ' H' s' → (∀ b ∈ fp, H' b = none) → ∀ b ∈ fp, FpOk (X.blk s3 H3 scope ce fp) [] H' b := fun I' hn b hb =>
    ⟨hn b hb, (I'.ok.exf b hb).1, I'.ok.exfs b hb, .inl hb, fun x c e => (I'.ok.exf b hb).2 x c e, fun p hp => nomatch (show p ∈ ([] : List (Addr × Obj)) from hp)⟩
  have loop : codeAny (model X.prog X.w) X.A (.compLoop (.SetComp elt [⟨tg, iter, ifs, 0⟩] scope pos) 0 (.ref it) (.ref D) ce) (compPost (model X.prog X.w) X.A X.xe use Qf (.ref D) s3.heap.objs.size) s4 := by
    refine compLoopS_any (fun n s' => ∃ i H', Inv (X.blk s3 H3 scope ce fp) [] (wipe σ (own.map (·.2))) H' s' ∧ tn i s'.heap ∧ (∀ b ∈ fp, H' b = none) ∧ W i n H') ?_ m0 ⟨0, H3, I4, st4, nfp, w0⟩
    rintro n s5 ⟨i, H5, I5, st5, n5, w5⟩
    rcases turn i n H5 w5 with ⟨stop, qq⟩ | ⟨go, Nx, hNx, step⟩
    · refine thnF (T.done (X.blk s3 H3 scope ce fp) rfl rfl rfl hc i [] s5 _ H5 (fun _ _ => False) I5 (stat I5 n5) st5 stop) fun r6 s6 ⟨hr6, I6⟩ => ?_
      subst hr6
      have I7 : Inv X pins σ H5 s6 := I3.call' (ch := fp) I6.os I6.base I6.hok I6.bare fun b hb => by
        obtain ⟨⟨_, a2, _, a4, a5, a6⟩, _⟩ := f3 b hb
        exact ⟨a4, a2, a5, a6⟩
      obtain ⟨m, hn, _⟩ := I6.loc
      have nC : H5 ce.locals = none := I6.free
      have hn : s6.heap.Ns ce.locals m := hn
      rw [cL] at hn nC
      exact hend D _ s6 m H5 I7 qq hn (I3.fpOk (Nat.le_refl _) nC)
    · refine thnF (T.item (X.blk s3 H3 scope ce fp) rfl rfl rfl hc i [] s5 _ H5 (fun _ _ => False) I5 (stat I5 n5) st5 go) fun r6 s6 ⟨u, hr6, h6⟩ => ?_
      subst hr6
      refine thnF h6 fun _ s7 ⟨x, H7, I7, r7, y7, st7, n7⟩ => ?_
      refine thnF (pg.run _ s7 _ H7 x u _ (I7.pinned (stat I7 n7) (T.obj _ _ st7)) r7 (step x H7 y7)) fun _ s8 ⟨σ8, H8, I8, hw8, q8⟩ => ?_
      refine thnF (pt.run _ s8 σ8 H8 _ I8 q8) fun b s9 ⟨H9, I9, q9⟩ => ?_
      have fin : ∀ {s' : Shared} {H' : Hp}, Inv (X.blk s3 H3 scope ce fp) ([] ++ pinsAt fp s7.heap) σ8 H' s' → Nx H' → ∃ m, m < n ∧ ∃ i H', Inv (X.blk s3 H3 scope ce fp) [] (wipe σ (own.map (·.2))) H' s' ∧ tn i s'.heap ∧ (∀ b ∈ fp, H' b = none) ∧ W i m H' := fun {s' H'} I' nx => by
        obtain ⟨m', hm, w'⟩ := hNx H' nx
        have keep : ∀ b ∈ fp, ∀ o, s7.heap.get? b = some o → s'.heap.get? b = some o ∧ H' b = none := fun b hb o e => by
          have z := I'.pin (b, o) (List.mem_append_right _ (List.mem_append_right _ (mem_pinsAt hb e)))
          exact ⟨z.1, z.2.1⟩
        refine ⟨m', hm, i + 1, H', (I'.unpinned (pins := [])).weak (by rw [← hw8, wipe_length]) (fun j v e => ?_), T.keep _ _ _ st7 fun b hb o e => (keep b hb o e).1, fun b hb => ?_, w'⟩
        · rw [← hw8] at e
          exact (wipe_some e).1
        · obtain ⟨o, e, _⟩ := T.obj _ _ st7 b hb
          exact (keep b hb o e).2
      have q9 : Keep r D te Nx σ8 b H9 := q9
      unfold Keep at q9
      cases b with
      | false =>
        rw [if_neg (by decide)] at q9
        exact fin I9 q9
      | true =>
        rw [if_pos rfl] at q9
        refine thnF (pe.run _ s9 σ8 H9 _ I9 q9) fun z s10 ⟨yv, H10, I10, r10, q10⟩ => ?_
        refine thnF (ad _ s10 σ8 H10 (.ref D) [yv] (.ref D) [z] _ I10 rfl (.cons r10 .nil) q10) fun _ s11 ⟨_, H11, I11, _, q11⟩ => fin I11 q11
  exact codeAny_compStart_set loop (T.self X.A 0 _ _ _ st4 loop)
theorem pe_set {r : AddR} {fr : Addr → HO} {elt tg iter : Expr} {ifs : List Expr} {scope : Scope} {own : List (PySem.Str × Nat)} {pos : Pos} {wi : TI} {g : TG} {tt : TT} {te : TE}
    (hfr : ∀ (H : Hp) (h : Heap) (a : Addr), a = h.objs.size → ObjOk X.prog X.w H (h.push (freshSet X.w)) a (fr a)) (hr : ∀ (s : Shared) (H : Hp) (e : Env) (fp : List Addr), MtR (X.blk s H scope e fp) "set.add" r)
    (hc : X.calm = true) (hN : X.N.Nodup) (hi : PI X tg iter wi) (ok : BlkOk X.N X.env.scope scope own)
    (hg : ∀ (s : Shared) (H : Hp) (C : Addr) (cl : List (PySem.Str × Addr)) (fp : List Addr), PG (X.blk s H scope (compEnvC scope cl C X.env) fp) tg g)
    (ht : ∀ (s : Shared) (H : Hp) (C : Addr) (cl : List (PySem.Str × Addr)) (fp : List Addr), PTs (X.blk s H scope (compEnvC scope cl C X.env) fp) ifs tt)
    (he : ∀ (s : Shared) (H : Hp) (C : Addr) (cl : List (PySem.Str × Addr)) (fp : List Addr), PE (X.blk s H scope (compEnvC scope cl C X.env) fp) elt te)
    (hs : ∀ x, foldedSetIterable iter X.env x = pure x := by intro _; rfl) : PE X (.SetComp elt [⟨tg, iter, ifs, 0⟩] scope pos) (tSet r fr wi g tt te (own.map (·.2))) := by
  constructor
  intro pins s σ H Q I h
  rw [eval_SetComp]
  refine run_set hfr hr hc hN I hi ok hg ht he hs h fun D C s' m H' I' q hn ⟨f0, f1, f2, f3, f4, f5⟩ => ⟨m, hn, fun h'' sb => ?_⟩
  exact ⟨.ref D, H', I'.turned (t' := s'.toks) (fun b o hb e => (sb.2 b hb).trans e) f0 f1 f3 f4 f5, rfl, q⟩
/-- sets of whole numbers -/
def frI (w : World) : Addr → HO := fun a => SetO w a (fun _ => false) 0
theorem pe_setI {elt tg iter : Expr} {ifs : List Expr} {scope : Scope} {own : List (PySem.Str × Nat)} {pos : Pos} {wi : TI} {g : TG} {tt : TT} {te : TE}
    (hc : X.calm = true) (hN : X.N.Nodup) (hi : PI X tg iter wi) (ok : BlkOk X.N X.env.scope scope own)
    (hg : ∀ (s : Shared) (H : Hp) (C : Addr) (cl : List (PySem.Str × Addr)) (fp : List Addr), PG (X.blk s H scope (compEnvC scope cl C X.env) fp) tg g)
    (ht : ∀ (s : Shared) (H : Hp) (C : Addr) (cl : List (PySem.Str × Addr)) (fp : List Addr), PTs (X.blk s H scope (compEnvC scope cl C X.env) fp) ifs tt)
    (he : ∀ (s : Shared) (H : Hp) (C : Addr) (cl : List (PySem.Str × Addr)) (fp : List Addr), PE (X.blk s H scope (compEnvC scope cl C X.env) fp) elt te)
    (hs : ∀ x, foldedSetIterable iter X.env x = pure x := by intro _; rfl) : PE X (.SetComp elt [⟨tg, iter, ifs, 0⟩] scope pos) (tSet (rSAdd X.w) (frI X.w) wi g tt te (own.map (·.2))) :=
  pe_set (fun H h a e => by subst e; exact setO_new (setR_fresh X.w)) (fun s H e fp => mt_sadd) hc hN hi ok hg ht he hs
end
/-! ### readings: the set of the numbers of a list that a test lets in -/
open Z
def tSetE (r : AddR) (fr : Addr → HO) (K : PySem.W.Frag) (g : TG) (tt : TT) (te : TE) (vs : List Nat) (σ : L2.St) (Q : VK) : VK := fun x H1 => tSet r fr (iList K (tC x)) g tt te vs σ H1 Q
section
variable {K : PySem.W.Frag} {H : Hp} {Q : VK} {σ : L2.St} {r : AddR} {fr : Addr → HO} {w : World}
theorem z_setE {tl : TE} {g : TG} {tt : TT} {te : TE} {vs : List Nat} (h : tl σ H (tSetE r fr K g tt te vs σ Q)) : tSet r fr (iList K tl) g tt te vs σ H Q := h
/-- the ints of ns that p lets in -/
def inI (p : Int → Bool) (ns : List Int) (S : Int → Bool) : Prop := ∀ k, S k = true ↔ k ∈ ns ∧ p k = true
theorem z_setI {k : Nat} {tt : TT} {vs : List Nat} {a : Addr} {ns : List Int} {te : TE} (p : Int → Bool) (hl : ns.length ≤ 1000) (hx : H a = some (.lst (ns.map V.int)))
    (hw : ∀ x, wipe ((wipe σ vs).set k (some x)) vs = wipe σ vs)
    (ht : ∀ (x : Int) (H' : Hp) (R : Bool → Hp → Prop), x ∈ ns → R (p x) H' → tt ((wipe σ vs).set k (some (.int x))) H' R)
    (he : ∀ (x : Int) (H' : Hp) (R : VK), x ∈ ns → R (.int x) H' → te ((wipe σ vs).set k (some (.int x))) H' R)
    (q : ∀ D H' S n, H D = none → Same H H' → H' D = some (SetO w D S n) → inI p ns S → n ≤ ns.length → Q (.ref D) H') :
    tSetE (rSAdd w) (frI w) K (gName k) tt te vs σ Q (.ref a) H := by
  refine ⟨a, rfl, ⟨_, .inl (.inl hx)⟩, fun D hD => ?_⟩
  have hDa : a ≠ D := ne_of_none hx hD
  let Pv : Nat → Hp → Prop := fun i H' => Same H H' ∧ ∃ S n, H' D = some (SetO w D S n) ∧ inI p (ns.take i) S ∧ n ≤ i
  refine ⟨fun i m H' => m = ns.length - i ∧ i ≤ ns.length ∧ Pv i H', ⟨ns.length, by simp, Nat.zero_le _, same_upd hD, _, 0, upd_same, fun k => by simp, Nat.le_refl _⟩, ?_⟩
  rintro i m H' ⟨rfl, hi, sm, S, n, hS, hin, hn⟩
  have ha := sm _ _ hx
  by_cases hlt : i < ns.length
  · refine .inr ⟨⟨_, .int ns[i], .inl (.inl ha), by simp [hlt]⟩, Pv (i + 1), fun H2 p2 => ⟨ns.length - (i + 1), by omega, rfl, hlt, p2⟩, fun x H2 y => ?_⟩
    obtain ⟨e, y⟩ := y
    subst e
    have e := y _ (.inl (.inl ha))
    have ex : x = .int ns[i] := by
      have e2 : (ns.map V.int)[i]? = some (.int ns[i]) := by simp [hlt]
      rw [e2] at e
      exact (Option.some.inj e).symm
    subst ex
    refine ⟨hw _, ht _ _ _ (List.getElem_mem hlt) ?_⟩
    have tk : ns.take (i + 1) = ns.take i ++ [ns[i]] := by rw [List.take_add_one, List.getElem?_eq_getElem hlt] <;> rfl
    unfold Keep
    by_cases c : p ns[i] = true
    · rw [if_pos c]
      refine he _ _ _ (List.getElem_mem hlt) ?_
      refine ⟨D, ns[i], S, n, rfl, rfl, hS, Nat.lt_of_le_of_lt (show n + 1 ≤ 1001 by omega) (by decide), ?_, _, _, upd_same, ?_, ?_⟩
      · exact fun b o e => by
          rw [upd_ne (ne_of_none e hD)]
          exact sm _ _ e
      · intro k
        rw [tk, List.mem_append, List.mem_singleton, Bool.or_eq_true, hin k, decide_eq_true_eq]
        constructor
        · rintro (⟨z1, z2⟩ | rfl)
          · exact ⟨.inl z1, z2⟩
          · exact ⟨.inr rfl, c⟩
        · rintro ⟨z1 | rfl, z2⟩
          · exact .inl ⟨z1, z2⟩
          · exact .inr rfl
      · split <;> omega
    · rw [if_neg c]
      refine ⟨sm, S, n, hS, fun k => ?_, by omega⟩
      rw [tk, List.mem_append, List.mem_singleton, hin k]
      constructor
      · rintro ⟨z1, z2⟩
        exact ⟨.inl z1, z2⟩
      · rintro ⟨z1 | rfl, z2⟩
        · exact ⟨z1, z2⟩
        · exact absurd z2 c
  · have e : i = ns.length := by omega
    subst e
    refine .inl ⟨⟨_, .inl (.inl ha), by simp⟩, q D H' S n hD sm hS (by rwa [List.take_length] at hin) hn⟩
/-- sorted(set of ints) -/
theorem z_sortedSet {a : Addr} {S : Int → Bool} {n : Nat} (h : H a = some (SetO w a S n)) (hn : n < 64) (q : ∀ (ns : List Int) (p : Addr) (H' : Hp), ns.Pairwise (· < ·) → (∀ k, k ∈ ns ↔ S k = true) → ns.length = n → H p = none → Same H H' → H' p = some (.lst (ns.map V.int)) → Q (.ref p) H') :
    rSortedSet w [.ref a] H Q := ⟨a, S, n, rfl, h, hn, fun ns p h1 h2 h3 hp => q ns p _ h1 h2 h3 hp (same_upd hp) upd_same⟩
end
end Sc

namespace Z
open PySem PySem.Spec PyProof.Rows L2
def rMax2 : List V → Hp → VK → Prop := fun xs H Q => ∃ i j, xs = [.int i, .int j] ∧ Q (.int (if j > i then j else i)) H
def rMin2 : List V → Hp → VK → Prop := fun xs H Q => ∃ i j, xs = [.int i, .int j] ∧ Q (.int (if j < i then j else i)) H
theorem c_max2 {X : Cx} (hc : X.calm = true) : CallR X (.builtin "max") rMax2 := call_max2 hc
theorem c_min2 {X : Cx} (hc : X.calm = true) : CallR X (.builtin "min") rMin2 := call_min2 hc
def rDivmod : List V → Hp → VK → Prop := fun xs H Q => ∃ i j, xs = [.int i, .int j] ∧ CDiv i j ∧ ∀ p, H p = none → Q (.ref p) (upd H p (.tup [.int (i / j), .int (i % j)]))
theorem c_divmod {X : Cx} : CallR X (.builtin "divmod") rDivmod := call_divmod
def TruQ (K : PySem.W.Frag) (QB : Bool → Hp → Prop) : VK := fun x H' => ∃ k, TruV K x H' k ∧ QB k H'
def tTru (K : PySem.W.Frag) (te : TE) : TT := fun σ H QB => te σ H (TruQ K QB)
theorem pt_tru {X : Cx} {a : Expr} {ta : TE} (ha : PE X a ta) (he : ∀ whole, isTrue a X.env whole = (do let v ← whole; standAt a.pos; holding [v] (truthy v))) : PT X a (tTru X.K ta) := pt_truth ha he
section
variable {K : PySem.W.Frag} {σ : L2.St} {H : Hp} {Q : VK} {QB : Bool → Hp → Prop} {i j : Int} {v x y : V} {p q l : Addr} {xs ys : List V} {te : TE}
theorem z_max2 (h : Q (.int (if j > i then j else i)) H) : rMax2 [.int i, .int j] H Q := ⟨i, j, rfl, h⟩
theorem z_min2 (h : Q (.int (if j < i then j else i)) H) : rMin2 [.int i, .int j] H Q := ⟨i, j, rfl, h⟩
theorem z_divmod (c : 0 < j ∧ j < 1073741824) (h : ∀ p H', H p = none → Same H H' → H' p = some (.tup [.int (i / j), .int (i % j)]) → Q (.ref p) H') : rDivmod [.int i, .int j] H Q :=
  ⟨i, j, rfl, c, fun a ha => h a _ ha (same_upd ha) upd_same⟩
theorem z_tru (h : te σ H (TruQ K QB)) : tTru K te σ H QB := h
/-- a test whose answer is known -/
theorem z_known {tt : TT} (k : Bool) (h : ∀ R : Bool → Hp → Prop, R k H → tt σ H R) (q : QB k H) : tt σ H QB := h QB q
/-- a test that is known to fail -/
theorem z_skip {n : L2.St → Hp → Prop} {r : VK} {b c : L2.St → Hp → Prop} {tt : TT} {t : TS} (h : ∀ R : Bool → Hp → Prop, R false H → tt σ H R) (q : n σ H) : tIfS tt t tNext ⟨n, r, b, c⟩ σ H := by
  refine h _ ?_
  rw [if_neg (by decide)]
  exact q
theorem z_truL (h : H p = some (.lst xs)) (q : QB (!xs.isEmpty) H) : TruQ K QB (.ref p) H := ⟨_, .inl ⟨xs, .inl (.inl h), rfl⟩, q⟩
theorem z_truT (h : SqT K H p xs) (q : QB (!xs.isEmpty) H) : TruQ K QB (.ref p) H := ⟨_, .inr (.inl ⟨xs, h, rfl⟩), q⟩
theorem z_truI (q : QB (i != 0) H) : TruQ K QB (.int i) H := ⟨_, rfl, q⟩
theorem rep_one (v : V) : ∀ m : Nat, (List.replicate m [v]).flatten = List.replicate m v
  | 0 => rfl
  | m + 1 => by
    rw [List.replicate_succ, List.flatten_cons, rep_one v m, List.replicate_succ]
    rfl
theorem z_rep (m : Nat) (h : H l = some (.lst [v])) (hj : j = (m : Int)) (hm : m ≤ 1000) (q : ∀ a H', H a = none → Same H H' → H' a = some (.lst (List.replicate m v)) → Q (.ref a) H') : rRep (.ref l) (.int j) H Q := by
  subst hj
  refine ⟨l, (m : Int), [v], rfl, rfl, h, by omega, by omega, Nat.le_trans (show [v].length * (m : Int).toNat ≤ 1000 by simpa using hm) (by decide), fun a ha => ?_⟩
  rw [Int.toNat_natCast, rep_one v m]
  exact q a _ ha (same_upd ha) upd_same
/-! while -/
/-- the number in slot k, as a measure -/
def muI (k : Nat) : L2.St → Hp → Nat := fun σ _ => match (σ[k]? : Option (Option V)) with
  | some (some (V.int m)) => m.toNat
  | _ => 0
def WB (Pv : L2.St → Hp → Prop) (μ : L2.St → Hp → Nat) (m : Nat) (tb : TS) (n : L2.St → Hp → Prop) (r : VK) (σ : L2.St) : Bool → Hp → Prop := fun b H1 =>
  if b = true then ∃ N : L2.St → Hp → Prop, (∀ σ' H', N σ' H' → ∃ m', m' < m ∧ m' = μ σ' H' ∧ Pv σ' H') ∧ tb ⟨N, r, n, N⟩ σ H1 else n σ H1
section
variable {Pv : L2.St → Hp → Prop} {μ : L2.St → Hp → Nat} {m : Nat} {tb : TS} {n : L2.St → Hp → Prop} {r : VK} {b c : L2.St → Hp → Prop}
theorem z_wbT (h : tb ⟨fun σ' H' => Pv σ' H' ∧ μ σ' H' < m, r, n, fun σ' H' => Pv σ' H' ∧ μ σ' H' < m⟩ σ H) : WB Pv μ m tb n r σ true H := by
  unfold WB
  rw [if_pos rfl]
  exact ⟨_, fun σ' H' z => ⟨_, z.2, rfl, z.1⟩, h⟩
theorem z_wbF (h : n σ H) : WB Pv μ m tb n r σ false H := by
  unfold WB
  rw [if_neg (by decide)]
  exact h
theorem z_wb {p : Prop} [Decidable p] (h1 : p → tb ⟨fun σ' H' => Pv σ' H' ∧ μ σ' H' < m, r, n, fun σ' H' => Pv σ' H' ∧ μ σ' H' < m⟩ σ H) (h2 : ¬ p → n σ H) : WB Pv μ m tb n r σ (decide p) H := by
  by_cases h : p
  · rw [decide_eq_true h]
    exact z_wbT (h1 h)
  · rw [decide_eq_false h]
    exact z_wbF (h2 h)
theorem z_while {tt : TT} (Pv : L2.St → Hp → Prop) (μ : L2.St → Hp → Nat) (h0 : Pv σ H) (hs : ∀ σ H, Pv σ H → tt σ H (WB Pv μ (μ σ H) tb n r σ)) : tWhile tt tb ⟨n, r, b, c⟩ σ H := by
  refine ⟨fun m σ H => m = μ σ H ∧ Pv σ H, ⟨_, rfl, h0⟩, ?_⟩
  rintro m σ H ⟨rfl, p⟩
  exact hs σ H p
end
/-! comprehensions over a range, over a list: the list at D grows -/
def LcB (D : Addr) (i : Nat) (Pv : Nat → Addr → List V → Hp → Prop) (Nx : Hp → Prop) : VK := fun y H4 => ∃ acc, H4 D = some (.lst acc) ∧ acc.length < sizeLine ∧ Nx (upd H4 D (.lst (acc ++ [y])))
theorem z_lcB {D : Addr} {i : Nat} {Pv : Nat → Addr → List V → Hp → Prop} {acc : List V} (h : H D = some (.lst acc)) (hl : acc.length = i) (hi : i < 1000) (q : ∀ H', H' D = some (.lst (acc ++ [y])) → Kp D H H' → (∀ b, b ≠ D → H' b = H b) → Pv (i + 1) D (acc ++ [y]) H') :
    LcB D i Pv (fun H' => ∃ acc', acc'.length = i + 1 ∧ H' D = some (.lst acc') ∧ Pv (i + 1) D acc' H') y H :=
  ⟨acc, h, Nat.lt_of_lt_of_le (show acc.length < 1000 by omega) (by decide), acc ++ [y], by simp [hl], upd_same, q _ upd_same (fun b o hb e => by rw [upd_ne hb]; exact e) fun b hb => upd_ne hb⟩
abbrev LcN (D : Addr) (i : Nat) (Pv : Nat → Addr → List V → Hp → Prop) : VK := LcB D i Pv (fun H' => ∃ acc', acc'.length = i + 1 ∧ H' D = some (.lst acc') ∧ Pv (i + 1) D acc' H')
theorem z_lcR {ta : TA} {k : Nat} {te : TE} {vs : List Nat} (m : Nat) (hm : m ≤ 1000) (ha : ∀ R : List V → Hp → Prop, R [.int (m : Int)] H → ta σ H R) (hw : ∀ x, wipe ((wipe σ vs).set k (some x)) vs = wipe σ vs) (Pv : Nat → Addr → List V → Hp → Prop)
    (h0 : ∀ D H', H D = none → Same H H' → H' D = some (.lst []) → Pv 0 D [] H')
    (hs : ∀ i D acc H', i < m → acc.length = i → H' D = some (.lst acc) → Pv i D acc H' → te ((wipe σ vs).set k (some (.int (i : Int)))) H' (LcN D i Pv))
    (hd : ∀ D acc H', H D = none → acc.length = m → H' D = some (.lst acc) → Pv m D acc H' → Q (.ref D) H') : tLc (iRng1 ta) (gName k) tYes te vs σ H Q := by
  refine ha _ ⟨(m : Int), rfl, by omega, by omega, fun D hD => ?_⟩
  refine lc_range (lo := 0) (n := (m : Int).toNat) (fun i H' => ∃ acc, acc.length = i ∧ H' D = some (.lst acc) ∧ Pv i D acc H') ⟨[], rfl, upd_same, h0 D _ hD (same_upd hD) upd_same⟩ (fun i H' hi ⟨acc, hl, hH, pv⟩ => ?_) (fun H' ⟨acc, hl, hH, pv⟩ => hd D acc H' hD (by simpa using hl) hH (by simpa using pv))
  have e : (0 : Int) + (i : Int) = (i : Int) := Int.zero_add _
  show wipe ((wipe σ vs).set k (some (.int ((0 : Int) + (i : Int))))) vs = wipe σ vs ∧ _
  refine ⟨hw _, z_yes (z_ifT ?_)⟩
  rw [e]
  exact hs i D acc H' (by simpa using hi) hl hH pv
def LcE (K : PySem.W.Frag) (g : TG) (tt : TT) (te : TE) (vs : List Nat) (σ : L2.St) (Q : VK) : VK := fun x H1 => tLc (iList K (tC x)) g tt te vs σ H1 Q
theorem z_lcE {tl : TE} {g : TG} {tt : TT} {vs : List Nat} (h : tl σ H (LcE K g tt te vs σ Q)) : tLc (iList K tl) g tt te vs σ H Q := h
def LcRE (g : TG) (tt : TT) (te : TE) (vs : List Nat) (σ : L2.St) (Q : VK) : List V → Hp → Prop := fun xs H1 => tLc (iRng1 fun _ H R => R xs H) g tt te vs σ H1 Q
theorem z_lcRE {ta : TA} {g : TG} {tt : TT} {vs : List Nat} (h : ta σ H (LcRE g tt te vs σ Q)) : tLc (iRng1 ta) g tt te vs σ H Q := h
theorem z_lcRr {k : Nat} {vs : List Nat} (m : Nat) (hm : m ≤ 1000) (hw : ∀ x, wipe ((wipe σ vs).set k (some x)) vs = wipe σ vs) (Pv : Nat → Addr → List V → Hp → Prop)
    (h0 : ∀ D H', H D = none → Same H H' → H' D = some (.lst []) → Pv 0 D [] H')
    (hs : ∀ i D acc H', i < m → acc.length = i → H' D = some (.lst acc) → Pv i D acc H' → te ((wipe σ vs).set k (some (.int (i : Int)))) H' (LcN D i Pv))
    (hd : ∀ D acc H', H D = none → acc.length = m → H' D = some (.lst acc) → Pv m D acc H' → Q (.ref D) H') : LcRE (gName k) tYes te vs σ Q [.int (m : Int)] H := z_lcR m hm (fun R q => q) hw Pv h0 hs hd
/-- over a list that stands as long as Pv -/
theorem z_lcLs {k : Nat} {vs : List Nat} {a : Addr} (hm : xs.length ≤ 1000) (hx : SqL K H a xs) (hw : ∀ x, wipe ((wipe σ vs).set k (some x)) vs = wipe σ vs) (Pv : Nat → Addr → List V → Hp → Prop)
    (h0 : ∀ D H', H D = none → Same H H' → H' D = some (.lst []) → Pv 0 D [] H') (hl : ∀ i D acc H', Pv i D acc H' → SqL K H' a xs)
    (hs : ∀ i x D acc H', xs[i]? = some x → acc.length = i → H' D = some (.lst acc) → Pv i D acc H' → te ((wipe σ vs).set k (some x)) H' (LcN D i Pv))
    (hd : ∀ D acc H', H D = none → acc.length = xs.length → H' D = some (.lst acc) → Pv xs.length D acc H' → Q (.ref D) H') : LcE K (gName k) tYes te vs σ Q (.ref a) H := by
  refine ⟨a, rfl, ⟨xs, hx⟩, fun D hD => ?_⟩
  refine lc_list (xs := xs) (fun i H' => ∃ acc, acc.length = i ∧ H' D = some (.lst acc) ∧ Pv i D acc H') ⟨[], rfl, upd_same, h0 D _ hD (same_upd hD) upd_same⟩ (fun i H' _ ⟨acc, _, _, pv⟩ => hl _ _ _ _ pv) (fun i x H' hi ⟨acc, hl, hH, pv⟩ => ?_) (fun H' ⟨acc, hl, hH, pv⟩ => hd D acc H' hD hl hH pv)
  show wipe ((wipe σ vs).set k (some x)) vs = wipe σ vs ∧ _
  exact ⟨hw _, z_yes (z_ifT (hs i x D acc H' hi hl hH pv))⟩
/-- any target -/
theorem z_lcG {g : TG} {vs : List Nat} {a : Addr} (hm : xs.length ≤ 1000) (hx : SqL K H a xs) (Pv : Nat → Addr → List V → Hp → Prop)
    (h0 : ∀ D H', H D = none → Same H H' → H' D = some (.lst []) → Pv 0 D [] H') (hl : ∀ i D acc H', Pv i D acc H' → SqL K H' a xs)
    (hs : ∀ i x D acc H', xs[i]? = some x → acc.length = i → H' D = some (.lst acc) → Pv i D acc H' → g x (wipe σ vs) H' fun σ2 H2 => wipe σ2 vs = wipe σ vs ∧ te σ2 H2 (LcN D i Pv))
    (hd : ∀ D acc H', H D = none → acc.length = xs.length → H' D = some (.lst acc) → Pv xs.length D acc H' → Q (.ref D) H') : LcE K g tYes te vs σ Q (.ref a) H := by
  refine ⟨a, rfl, ⟨xs, hx⟩, fun D hD => ?_⟩
  refine lc_list (xs := xs) (fun i H' => ∃ acc, acc.length = i ∧ H' D = some (.lst acc) ∧ Pv i D acc H') ⟨[], rfl, upd_same, h0 D _ hD (same_upd hD) upd_same⟩ (fun i H' _ ⟨acc, _, _, pv⟩ => hl _ _ _ _ pv) (fun i x H' hi ⟨acc, hl, hH, pv⟩ => ?_) (fun H' ⟨acc, hl, hH, pv⟩ => hd D acc H' hD hl hH pv)
  have h := hs i x D acc H' hi hl hH pv
  have e : (fun σ2 H2 => wipe σ2 vs = wipe σ vs ∧ te σ2 H2 (LcN D i Pv)) = (fun (σ2 : L2.St) (H2 : Hp) => wipe σ2 vs = wipe σ vs ∧ tYes σ2 H2 fun b H3 => if b = true then te σ2 H3 (LcN D i Pv) else ∃ acc', acc'.length = i + 1 ∧ H3 D = some (.lst acc') ∧ Pv (i + 1) D acc' H3) := by
    funext σ2 H2
    show _ = (wipe σ2 vs = wipe σ vs ∧ if true = true then te σ2 H2 (LcN D i Pv) else ∃ acc', acc'.length = i + 1 ∧ H2 D = some (.lst acc') ∧ Pv (i + 1) D acc' H2)
    rw [if_pos rfl]
  rw [e] at h
  exact h
/-- where the item answers at once -/
theorem z_lcS {k : Nat} {vs : List Nat} {a : Addr} (ws : List V) (hlen : ws.length = xs.length) (hm : xs.length ≤ 1000) (hx : H a = some (.lst xs)) (hw : ∀ x, wipe ((wipe σ vs).set k (some x)) vs = wipe σ vs)
    (body : ∀ (i : Nat) (x w : V) (H' : Hp), xs[i]? = some x → ws[i]? = some w → Same H H' → ∀ R : VK, R w H' → te ((wipe σ vs).set k (some x)) H' R)
    (hd : ∀ D H', H D = none → Same H H' → H' D = some (.lst ws) → Q (.ref D) H') : LcE K (gName k) tYes te vs σ Q (.ref a) H :=
  z_lcM (tl := tC (.ref a)) hlen hm (fun R q => q) hx hw body hd
end
/-! ### data: numbers, lists of numbers -/
def Fl (n : Nat) (d : PyData) : Prop := PyData.canLay0 d = true ∧ PyData.depth d ≤ n
theorem fl_all {n : Nat} : ∀ {ds : List PyData}, (∀ d ∈ ds, Fl n d) → PyData.canLayAll0 ds = true ∧ PyData.depthAll ds ≤ n
  | [], _ => ⟨rfl, Nat.zero_le _⟩
  | d :: ds, h => by
    have h1 := h d (.head _)
    have h2 := fl_all (ds := ds) fun x hx => h x (.tail _ hx)
    refine ⟨?_, ?_⟩
    · show (PyData.canLay0 d && PyData.canLayAll0 ds) = true
      rw [h1.1, h2.1]
      rfl
    · show max (PyData.depth d) (PyData.depthAll ds) ≤ n
      have := h1.2
      have := h2.2
      omega
theorem fl_list {n : Nat} {ds : List PyData} (h : ∀ d ∈ ds, Fl n d) : Fl (n + 1) (.list ds) := ⟨(fl_all h).1, Nat.succ_le_succ (fl_all h).2⟩
theorem fl_tup {n : Nat} {ds : List PyData} (h : ∀ d ∈ ds, Fl n d) : Fl (n + 1) (.tuple ds) := ⟨(fl_all h).1, Nat.succ_le_succ (fl_all h).2⟩
theorem fl_int (i : Int) : Fl 0 (.int i) := ⟨rfl, Nat.le_refl 0⟩
theorem shaped_fl {n : Nat} {d : PyData} (h : Fl n d) (hn : n ≤ 64 := by decide) : SeqAt.shaped d = true := by
  unfold SeqAt.shaped
  rw [Bool.and_eq_true]
  exact ⟨h.1, decide_eq_true (Nat.le_trans h.2 hn)⟩
theorem fl_ints (ns : List Int) : Fl 1 (.list (ns.map .int)) := fl_list fun d hd => by
  obtain ⟨i, _, rfl⟩ := List.mem_map.mp hd
  exact fl_int i
section
variable {K : PySem.W.Frag} {H : Hp} {Q : VK} {p q : Addr}
theorem dpa_ints : ∀ (ns : List Int), DpAll K H (ns.map V.int) (ns.map PyData.int)
  | [] => .nil
  | n :: ns => .cons (.int n) (dpa_ints ns)
theorem dp_ints {ns : List Int} (h : H p = some (.lst (ns.map V.int))) : Dp K H (.ref p) (.list (ns.map .int)) := .lst (.inl (.inl h)) (dpa_ints ns)
theorem eqv_intsA : ∀ (ns ms : List Int), PyData.eqv (.list (ns.map .int)) (.list (ms.map .int)) = decide (ns = ms)
  | [], [] => rfl
  | [], m :: ms => rfl
  | n :: ns, [] => rfl
  | n :: ns, m :: ms => by
    have ih := eqv_intsA ns ms
    show ((n == m) && PyData.eqv (.list (ns.map .int)) (.list (ms.map .int))) = _
    rw [ih]
    by_cases h : n = m
    · subst h
      by_cases h2 : ns = ms
      · simp [h2]
      · simp [h2]
    · simp [h]
theorem z_eqInts {ns ms : List Int} (h1 : H p = some (.lst (ns.map V.int))) (h2 : H q = some (.lst (ms.map V.int))) (k : Q (.bl (decide (ns = ms))) H) : rEqD K (.ref p) (.ref q) H Q :=
  ⟨_, _, dp_ints h1, dp_ints h2, shaped_fl (fl_ints ns), shaped_fl (fl_ints ms), by rw [eqv_intsA]; exact k⟩
theorem z_neInts {ns ms : List Int} (h1 : H p = some (.lst (ns.map V.int))) (h2 : H q = some (.lst (ms.map V.int))) (k : Q (.bl (decide (¬ ns = ms))) H) : rNeD K (.ref p) (.ref q) H Q :=
  ⟨_, _, dp_ints h1, dp_ints h2, shaped_fl (fl_ints ns), shaped_fl (fl_ints ms), by
    rw [eqv_intsA, show (!decide (ns = ms)) = decide (¬ ns = ms) by simp]
    exact k⟩
theorem inV_int (i : Int) : ∀ (ns : List Int), inV (.int i) (ns.map V.int) = decide (i ∈ ns)
  | [] => rfl
  | n :: ns => by
    have ih := inV_int i ns
    show (eqV (.int n) (.int i) || inV (.int i) (ns.map V.int)) = _
    rw [ih, show eqV (.int n) (.int i) = decide (n = i) by first | rfl | simp [eqV]]
    by_cases h : n = i
    · subst h
      simp
    · have h' : ¬ i = n := fun z => h z.symm
      simp [h, h']
theorem flat_ints (ns : List Int) : (ns.map V.int).all flatV = true := by
  rw [List.all_eq_true]
  intro v hv
  obtain ⟨i, _, rfl⟩ := List.mem_map.mp hv
  rfl
theorem z_inI {i : Int} {ns : List Int} (h : H p = some (.lst (ns.map V.int))) (k : Q (.bl (decide (i ∈ ns))) H) : rIn K false (.int i) (.ref p) H Q :=
  ⟨p, _, rfl, .inl (.inl (.inl h)), rfl, flat_ints ns, by rw [inV_int]; exact k⟩
theorem z_notInI {i : Int} {ns : List Int} (h : H p = some (.lst (ns.map V.int))) (k : Q (.bl (decide (¬ i ∈ ns))) H) : rIn K true (.int i) (.ref p) H Q :=
  ⟨p, _, rfl, .inl (.inl (.inl h)), rfl, flat_ints ns, by
    rw [inV_int, show (if true = true then !decide (i ∈ ns) else decide (i ∈ ns)) = decide (¬ i ∈ ns) by simp]
    exact k⟩
theorem z_sortedI {ns : List Int} (h : H p = some (.lst (ns.map V.int))) (k : ∀ (ms : List Int) (a : Addr) (H' : Hp), ms.Perm ns → ms.Pairwise (· ≤ ·) → H a = none → Same H H' → H' a = some (.lst (ms.map V.int)) → Q (.ref a) H') : rSortedI K [.ref p] H Q :=
  ⟨p, ns, rfl, .inl (.inl h), fun ms a h1 h2 ha => k ms a _ h1 h2 ha (same_upd ha) upd_same⟩
/-- truth values -/
theorem inV_bl (i : Bool) : ∀ (ns : List Bool), inV (.bl i) (ns.map V.bl) = decide (i ∈ ns)
  | [] => rfl
  | n :: ns => by
    have ih := inV_bl i ns
    show (eqV (.bl n) (.bl i) || inV (.bl i) (ns.map V.bl)) = _
    rw [ih]
    cases n <;> cases i <;> simp [eqV]
theorem flat_bls (ns : List Bool) : (ns.map V.bl).all flatV = true := by
  rw [List.all_eq_true]
  intro v hv
  obtain ⟨i, _, rfl⟩ := List.mem_map.mp hv
  rfl
theorem z_inB {i : Bool} {ns : List Bool} (h : H p = some (.lst (ns.map V.bl))) (k : Q (.bl (decide (i ∈ ns))) H) : rIn K false (.bl i) (.ref p) H Q :=
  ⟨p, _, rfl, .inl (.inl (.inl h)), rfl, flat_bls ns, by rw [inV_bl]; exact k⟩
theorem z_notInB {i : Bool} {ns : List Bool} (h : H p = some (.lst (ns.map V.bl))) (k : Q (.bl (decide (¬ i ∈ ns))) H) : rIn K true (.bl i) (.ref p) H Q :=
  ⟨p, _, rfl, .inl (.inl (.inl h)), rfl, flat_bls ns, by
    rw [inV_bl, show (if true = true then !decide (i ∈ ns) else decide (i ∈ ns)) = decide (¬ i ∈ ns) by simp]
    exact k⟩
theorem z_notNI {i : Int} (q : Q (.bl true) H) : rNotN (.int i) .non H Q := ⟨rfl, by simpa using q⟩
theorem z_isNI {i : Int} (q : Q (.bl false) H) : rIsN (.int i) .non H Q := ⟨rfl, by simpa using q⟩
theorem fresh_of {H H' : Hp} {a : Addr} (s : Same H H') (h : H' a = none) : H a = none := by
  cases z : H a with
  | none => rfl
  | some o =>
    have := s _ _ z
    rw [h] at this
    cases this
/-- sorted(ints) -/
theorem z_sorted {ns : List Int} (h : H p = some (.lst (ns.map V.int))) (hl : ns.length < 64) (k : ∀ (ms : List Int) (a : Addr) (H' : Hp), ms.Perm ns → ms.Pairwise (· ≤ ·) → H a = none → Same H H' → H' a = some (.lst (ms.map V.int)) → Q (.ref a) H') : rSorted K [.ref p] H Q :=
  ⟨p, ns, rfl, .inl (.inl h), hl, fun ms a h1 h2 ha => k ms a _ h1 h2 ha (same_upd ha) upd_same⟩
end
end Z

namespace Z
open PySem PySem.Spec PyProof PyProof.Rows L2
theorem get_list {X : Cx} : PGet X (rIxL X.K) := by
  intro pins s σ H o i ov iv Q I ro ri h
  obtain ⟨p, xs, k, z, rfl, rfl, hq, he, q⟩ := h
  cases ro
  obtain ⟨t, rfl⟩ := ri
  obtain ⟨its, r, pl, hz⟩ := I.list hq
  obtain ⟨j, h1, h2, h3, h4, h5⟩ := atI_get he
  obtain ⟨w, ew, rw'⟩ := r.get h2
  have hl := r.length
  have hn := line63
  by_cases h0 : 0 ≤ k
  · have hj : k.toNat = j := by
      rw [seqIndex_of h0 h5] at h1
      exact Option.some.inj h1
    exact wpAny_getItem_list pl.isList h0 (by omega) (by rw [hj]; simpa using ew) ⟨z, H, I, rw', q⟩
  · have hj : (k + (its.toArray.size : Int)).toNat = j := by
      rw [seqIndex_neg (by omega) h4] at h1
      rw [List.size_toArray, ← hl]
      exact Option.some.inj h1
    exact wpAny_getItem_list_neg pl.isList (by omega) (by rw [List.size_toArray, ← hl]; omega) (by omega) (by rw [hj]; simpa using ew) ⟨z, H, I, rw', q⟩
section
variable {K : PySem.W.Frag} {σ : L2.St} {H H' : Hp} {Q : VK} {p q : Addr} {xs ys : List V} {v y : V} {n : L2.St → Hp → Prop} {r : VK} {b c : L2.St → Hp → Prop} {tb : TS}
theorem z_augS {to ti te : TE} {tip : TIp} {st : TSet} {tget : V → V → Hp → VK → Prop} (h : to σ H fun o H1 => ti σ H1 fun i H2 => tget o i H2 fun x H3 => te σ H3 fun y H4 => tip x y H4 fun z H5 => st o i z H5 fun H6 => n σ H6) : tAugS to ti te tget tip st ⟨n, r, b, c⟩ σ H := h
/-- for k in range(lo, hi), whatever the two are -/
theorem z_forR2g {ta : TA} {k : Nat} (lo hi : Int) (hl : -(2 ^ 61) ≤ lo ∧ lo < 2 ^ 61) (hh : -(2 ^ 61) ≤ hi ∧ hi < 2 ^ 61) (ha : ∀ R : List V → Hp → Prop, R [.int lo, .int hi] H → ta σ H R) (Pv : Nat → L2.St → Hp → Prop) (h0 : Pv 0 σ H)
    (hs : ∀ i σ H, i < (hi - lo).toNat → Pv i σ H → tb ⟨Pv (i + 1), r, n, Pv (i + 1)⟩ (σ.set k (some (.int (lo + (i : Int))))) H) (hd : ∀ σ H, Pv (hi - lo).toNat σ H → n σ H) : tFor (iRng2 ta) (gName k) tb ⟨n, r, b, c⟩ σ H :=
  ha _ ⟨lo, hi, rfl, by omega, for_range (lo := lo) (n := (hi - lo).toNat) Pv h0 hs hd⟩
theorem z_extendW (h1 : H p = some (.lst xs)) (h2 : H q = some (.lst ys)) (hl : xs.length + ys.length ≤ 1000000) (k : Q .non (upd H p (.lst (xs ++ ys)))) : rExtend (.ref p) [.ref q] H Q :=
  ⟨p, q, xs, ys, rfl, rfl, h1, h2, Nat.le_trans hl (by decide), k⟩
theorem z_appendW (hp : H p = some (.lst xs)) (hl : xs.length < 1000000) (k : Q .non (upd H p (.lst (xs ++ [y])))) : rAppend (.ref p) [y] H Q := ⟨p, xs, y, rfl, rfl, hp, Nat.lt_of_lt_of_le hl (by decide), k⟩
/-! lists of data -/
theorem dpa_len : ∀ {ds : List PyData} {vs : List V}, DpAll K H vs ds → vs.length = ds.length
  | [], vs, h => by rw [dpa_nil h]; rfl
  | d :: ds, vs, h => by
    obtain ⟨v, t, rfl, _, h2⟩ := dpa_cons h
    rw [List.length_cons, List.length_cons, dpa_len h2]
theorem dpa_get : ∀ {ds : List PyData} {vs : List V} {i : Nat} {d : PyData}, DpAll K H vs ds → ds[i]? = some d → ∃ v, vs[i]? = some v ∧ Dp K H v d
  | [], _, _, _, _, e => by simp at e
  | d' :: ds, vs, i, d, h, e => by
    obtain ⟨v, t, rfl, h1, h2⟩ := dpa_cons h
    cases i with
    | zero =>
      cases e
      exact ⟨v, rfl, h1⟩
    | succ i =>
      have h5 := dpa_get (i := i) h2 (show ds[i]? = some _ from e)
      exact h5
theorem dpa_getv {ds : List PyData} {vs : List V} {i : Nat} {v : V} (h : DpAll K H vs ds) (e : vs[i]? = some v) : ∃ d, ds[i]? = some d ∧ Dp K H v d := by
  have hi : i < vs.length := (List.getElem?_eq_some_iff.mp e).1
  obtain ⟨w, hw, d⟩ := dpa_get h (List.getElem?_eq_getElem (show i < ds.length by rw [← dpa_len h]; exact hi))
  rw [e] at hw
  cases hw
  exact ⟨_, List.getElem?_eq_getElem _, d⟩
theorem dpa_app : ∀ {ds es : List PyData} {vs ws : List V}, DpAll K H vs ds → DpAll K H ws es → DpAll K H (vs ++ ws) (ds ++ es)
  | [], _, _, _, h, k => by
    rw [dpa_nil h]
    exact k
  | _ :: _, _, _, _, h, k => by
    obtain ⟨v, t, rfl, h1, h2⟩ := dpa_cons h
    exact .cons h1 (dpa_app h2 k)
theorem dpa_one {d : PyData} (h : Dp K H v d) : DpAll K H [v] [d] := .cons h .nil
end
end Z

/-! sets of tuples of whole numbers by a comprehension; such a set of pairs, sorted, whatever the signs of its numbers -/
namespace Sc
open PySem PySem.Spec PyProof PyProof.Rows L2 PpSet
section
variable {X : Cx}
/-- set.add of a tuple of whole numbers -/
def rAddT (K : PySem.W.Frag) (P : Program) (w : World) : AddR := fun x xs H Q => ∃ (a t : Addr) (L : List (Addr × List Int)) (k : List Int), x = V.ref a ∧ xs = [V.ref t] ∧ H a = some (SetTO P w a L) ∧ SqT K H t (k.map V.int) ∧ (∀ p ∈ L, SqT K H p.1 (p.2.map V.int)) ∧ L.length + 1 < 64 ∧
  ∀ L', (k ∈ L.map (·.2) → L' = L) → (k ∉ L.map (·.2) → L'.Perm ((t, k) :: L)) → Q .non (upd H a (SetTO P w a L'))
theorem mt_addT (hu : X.A.units + 64 < cLine) : MtR X "set.add" (rAddT X.K X.prog X.w) := by
  intro pins s σ H x xs v us Q I r rxs h
  obtain ⟨a, t, L, k, rfl, rfl, ha, ht, hL, room, q⟩ := h
  cases r
  cases rxs with
  | cons ry rt =>
  cases rt
  cases ry
  have R0 : SetT0 X.prog X.w s.heap a L := (I.hok a _ ha).1
  obtain ⟨es, ep, tb, R⟩ := R0.full fun p hp => I.isT (hL p hp)
  have hx := I.isT ht
  obtain ⟨o, ho, hex, hd⟩ := R.ob
  have hT : s.heap.get? a = some o := ho
  refine wpAny_call_entry F.slot_set_add (T := "set") ?_ F.entry_set_add ?_ (F.args_set_add_2 _ _)
  · exact ⟨o, ho, hex.1⟩
  unfold Builtin.«set.add» Builtin.Frozenset.oneOther
  simp only [List.isEmpty_nil, bind_assoc]
  unfold Builtin.Frozenset.addrOf setAdd
  refine wpAny_bind (wpAny_pure ?_)
  try dsimp only
  refine wpAny_bind (wpAny_pure ?_)
  try dsimp only
  refine wpAny_bind ?_
  refine wpAny_holding ?_
  refine wpAny_bind (wpAny_pyHash_tuple (by show X.A.units + 1 < cLine; omega) hx ?_)
  refine add_at (s := { s with toks := s.toks + (k.length + 1) }) R hx (by show X.A.units + 1 < cLine; omega) room fun b h' L' es' ep' t' sb R' c1 c2 => ?_
  show wpAny _ _ (ret Value.none) _ _ _
  refine wpAny_pure ⟨_, rfl, .non, upd H a (SetTO X.prog X.w a L'), ?_, rfl, q L' c1 c2⟩
  have he : ∃ u, h'.get? a = some u := by
    obtain ⟨o', ho', _⟩ := R'.ob
    exact ⟨o', ho'⟩
  exact I.write (e := a) (t' := s.toks + (k.length + 1)) (by rw [ha]; trivial) (.inl rfl) (fun b u hb hu => (sb.2 b hb).trans hu) he (setTO_new R'.t0)
def frT (P : Program) (w : World) : Addr → HO := fun a => SetTO P w a []
theorem pe_setT {elt tg iter : Expr} {ifs : List Expr} {scope : Scope} {own : List (PySem.Str × Nat)} {pos : Pos} {wi : TI} {g : TG} {tt : TT} {te : TE}
    (hu : X.A.units + 64 < cLine) (hc : X.calm = true) (hN : X.N.Nodup) (hi : PI X tg iter wi) (ok : BlkOk X.N X.env.scope scope own)
    (hg : ∀ (s : Shared) (H : Hp) (C : Addr) (cl : List (PySem.Str × Addr)) (fp : List Addr), PG (X.blk s H scope (compEnvC scope cl C X.env) fp) tg g)
    (ht : ∀ (s : Shared) (H : Hp) (C : Addr) (cl : List (PySem.Str × Addr)) (fp : List Addr), PTs (X.blk s H scope (compEnvC scope cl C X.env) fp) ifs tt)
    (he : ∀ (s : Shared) (H : Hp) (C : Addr) (cl : List (PySem.Str × Addr)) (fp : List Addr), PE (X.blk s H scope (compEnvC scope cl C X.env) fp) elt te)
    (hs : ∀ x, foldedSetIterable iter X.env x = pure x := by intro _; rfl) : PE X (.SetComp elt [⟨tg, iter, ifs, 0⟩] scope pos) (tSet (rAddT X.K X.prog X.w) (frT X.prog X.w) wi g tt te (own.map (·.2))) :=
  pe_set (fun H h a e => by
    subst e
    exact setTO_new (setTR_fresh (P := X.prog) (w := X.w) (Heap.get?_push_size _ rfl)).t0) (fun s H e fp => mt_addT (X := X.blk s H scope e fp) hu) hc hN hi ok hg ht he hs
end
/-! sorted -/
section
variable {P : Program} {w : World} {A : Around} {E : Value → Shared → Prop} {s : Shared}
theorem sorted_setP {a : Addr} {L : List (Addr × List Int)} {es : Array (Int × Value)} {ep : Nat} {t : SetTable} {k : Value → Int × Int} {Q : Value → Shared → Prop} (R : SetTR P w s.heap a L es ep t) (hh : A.handled = none)
    (hk : ∀ p ∈ L, p.2 = [(k (.ref p.1)).1, (k (.ref p.1)).2])
    (hQ : ∀ s' p (out : List Value) (c : Nat), (∀ b o, s.heap.get? b = some o → s'.heap.get? b = some o) → s'.gens = s.gens → s'.os = s.os → s.heap.objs.size ≤ p → s'.heap.get? p = some (seqObj "list" out.toArray c) →
      out.Perm (L.map fun q => Value.ref q.1) → SrtO.Srtd (fun v u => SrtO.lexB (k v) (k u)) out → Q (.ref p) s') :
    wpAny (model P w) A (call (.builtin "sorted") [.ref a]) Q E s := by
  obtain ⟨o, ho, hex, hd⟩ := R.ob
  have hsz := R.size
  have hfew := R.few
  refine Calls.call_function_entry kind_sorted plain_sorted entry_sorted (args_sorted1 _) ?_
  unfold Builtin.«sorted»
  refine wpAny_bind (m := checkCount "sorted" 1 1 _) (wpAny_pure ?_)
  refine wpAny_bind (collect_set (A := A.in1) hh ⟨o, ho, hex.1, hd⟩ R.fits (by unfold scanBound; omega) R.tab.ris R.led fun s1 vs k1 hz g1 o1 pm => ?_)
  have hes : es.toList.map (·.2) = L.map fun q => Value.ref q.1 := by
    rw [R.rows]
    unfold rowsOf
    rw [List.map_map]
    rfl
  rw [hes] at pm
  have hvl : vs.length < 64 := by rw [pm.length_eq, List.length_map]; exact hfew
  have hvz : vs.length ≤ sizeLine := by rw [sizeLine_eq]; omega
  refine wpAny_bind (wpAny_newList ?_ hvz)
  have hoL : (s1.heap.push (seqObj "list" vs.toArray 0)).get? s1.heap.objs.size = some (seqObj "list" vs.toArray 0) := Heap.get?_push_size _ rfl
  have keep : ∀ b u, s.heap.get? b = some u → (s1.heap.push (seqObj "list" vs.toArray 0)).get? b = some u := fun b u e => Heap.get?_push_of_some _ (k1 b u e)
  have pairs : ∀ v ∈ vs, Srt.IsPair (s1.heap.push (seqObj "list" vs.toArray 0)) v (k v).1 (k v).2 := fun v hv => by
    obtain ⟨q, hq, e⟩ := List.mem_map.mp (pm.mem_iff.mp hv)
    subst e
    obtain ⟨o2, items, n, h1, h2, h3, h4⟩ := R.tup q hq
    rw [hk q hq] at h4
    have h5 := ints_of_items h4
    generalize hil : items.toList = il at h5
    cases h5 with
    | cons _ t1 r1 =>
      cases r1 with
      | cons _ t2 r2 =>
        cases r2
        refine ⟨q.1, o2, t1, t2, n, rfl, keep _ _ h1, h2, ?_⟩
        rw [h3, ← hil] <;> simp
  refine wpAny_bind (wpAny_holding (wpAny_call_entry slot_list_sort ⟨_, hoL, rfl⟩ entry_list_sort (SrtO.list_sort_ord (s := { s1 with heap := s1.heap.push (seqObj "list" vs.toArray 0) }) (SrtO.swo_lex k) hoL hvz
    (fun h2 => SrtO.pairs_sortableO (s := { s1 with heap := s1.heap.push (seqObj "list" vs.toArray 0) }) (by omega) pairs fun o e => ?_) fun out hs hb => ⟨_, rfl, ?_⟩) (args_list_sort _)))
  · have e' : some o = some (seqObj "list" vs.toArray 0) := e.symm.trans hoL
    cases e'
    intro c
    exact absurd (Value.type.inj c) (by decide)
  obtain ⟨c, hc⟩ := sortedHeap_at (vs := vs) (out := out.toArray) hoL
  refine wpAny_pure ⟨_, rfl, hQ _ s1.heap.objs.size out c (fun b u e => ?_) g1 o1 hz hc (hb.perm.trans pm) hs⟩
  have q := k1 b u e
  have hlt := Heap.lt_size q
  show (sortedHeap (s1.heap.push (seqObj "list" vs.toArray 0)) s1.heap.objs.size vs out.toArray).get? b = some u
  rw [sortedHeap_old (Nat.ne_of_lt hlt) (by rw [size_push']; exact Nat.lt_succ_of_lt hlt)]
  exact Heap.get?_push_of_some _ q
end
section
variable {X : Cx}
/-- sorted(set of pairs): the list of the same tuples, by their first numbers, then by their second -/
def rSortedP2 (K : PySem.W.Frag) (P : Program) (w : World) : List V → Hp → VK → Prop := fun vs H Q => ∃ (a : Addr) (L : List (Addr × List Int)) (k : Addr → Int × Int), vs = [V.ref a] ∧ H a = some (SetTO P w a L) ∧ (∀ p ∈ L, SqT K H p.1 [V.int (k p.1).1, V.int (k p.1).2] ∧ p.2 = [(k p.1).1, (k p.1).2]) ∧
  ∀ (ts : List Addr) (p : Addr), ts.Perm (L.map (·.1)) → ts.Pairwise (fun t u => ¬ ((k u).1 < (k t).1 ∨ ((k u).1 = (k t).1 ∧ (k u).2 < (k t).2))) → (L.map (·.2)).Nodup → H p = none → Q (.ref p) (upd H p (.lst (ts.map V.ref)))
theorem cr_sortedP2 (hc : X.calm = true) : CallR X (.builtin "sorted") (rSortedP2 X.K X.prog X.w) := by
  intro pins s σ H vs us Q I r h
  obtain ⟨a, L, k, rfl, ha, hk, q⟩ := h
  have R0 : SetT0 X.prog X.w s.heap a L := (I.hok a _ ha).1
  obtain ⟨es, ep, t, R⟩ := R0.full fun p hp => I.isT (by rw [(hk p hp).2]; exact (hk p hp).1)
  rw [Vals.ref1 r]
  let kv : Value → Int × Int := fun v => match v with | .ref b => k b | _ => (0, 0)
  refine sorted_setP (k := kv) R (I.ok.hd hc) (fun p hp => (hk p hp).2) fun s' p out c kp g o hp hg pm pw => ?_
  have href : ∀ (out : List Value), (∀ v ∈ out, ∃ b, v = Value.ref b) → ∃ ts : List Addr, out = ts.map Value.ref := by
    intro out
    induction out with
    | nil => intro _; exact ⟨[], rfl⟩
    | cons v out ih =>
      intro h
      obtain ⟨b, rfl⟩ := h v (.head _)
      obtain ⟨ts, rfl⟩ := ih fun u hu => h u (.tail _ hu)
      exact ⟨b :: ts, rfl⟩
  obtain ⟨ts, rfl⟩ := href out fun v hv => by
    obtain ⟨q, _, e⟩ := List.mem_map.mp (pm.mem_iff.mp hv)
    exact ⟨_, e.symm⟩
  have pm2 : ts.Perm (L.map (·.1)) := by
    have e : L.map (fun q => Value.ref q.1) = (L.map (·.1)).map Value.ref := by rw [List.map_map]; rfl
    rw [e] at pm
    have back : ∀ l : List Addr, (l.map Value.ref).filterMap (fun v => match v with | .ref b => some b | _ => none) = l := by
      intro l
      induction l with
      | nil => rfl
      | cons b l ih =>
        show b :: _ = _
        rw [ih]
    have z := pm.filterMap (fun v => match v with | .ref b => some b | _ => none)
    rw [back, back] at z
    exact z
  have hn : H p = none := I.hok.fresh hp
  have hlen : (ts.map V.ref).length ≤ sizeLine := by
    rw [List.length_map, pm2.length_eq, List.length_map, sizeLine_eq]
    have := R.few
    omega
  have hv : ∀ ts : List Addr, Vals (ts.map V.ref) (ts.map Value.ref) := by
    intro ts
    induction ts with
    | nil => exact .nil
    | cons b ts ih => exact .cons rfl ih
  have J : Inv X pins σ (upd H p (.lst (ts.map V.ref))) { s with heap := s'.heap, gens := s'.gens, drawn := s'.drawn, toks := s'.toks } :=
    I.call (ch := []) (Un.laid kp hp hn) (I.hok.laid kp hp ⟨hlen, ts.map Value.ref, c, hv ts, hg⟩) (by rw [g]; exact I.bare) (fun _ z => nomatch z)
  have e : s' = { s with heap := s'.heap, gens := s'.gens, drawn := s'.drawn, toks := s'.toks } := by
    cases s'
    cases s
    cases o
    rfl
  rw [e]
  refine ⟨.ref p, _, J, rfl, q ts p pm2 ?_ R.nd hn⟩
  have pw : (ts.map Value.ref).Pairwise fun x y => SrtO.lexB (kv y) (kv x) = false := pw
  exact (List.pairwise_map.mp pw).imp fun h => SrtO.lexB_no.mp h
end
/-! ### readings: the set of the pairs of a list; sorted -/
open Z
theorem nodup_len {α : Type} [DecidableEq α] : ∀ {l m : List α}, l.Nodup → (∀ x ∈ l, x ∈ m) → l.length ≤ m.length
  | [], m, _, _ => Nat.zero_le _
  | x :: l, m, hn, hs => by
    have hn' := List.nodup_cons.mp hn
    have hx := hs x (.head _)
    have := nodup_len (l := l) (m := m.erase x) hn'.2 fun y hy => by
      have hy' := hs y (.tail _ hy)
      have hne : y ≠ x := fun e => hn'.1 (by rw [← e]; exact hy)
      exact (List.mem_erase_of_ne hne).mpr hy'
    rw [List.length_erase_of_mem hx] at this
    have := List.length_pos_of_mem hx
    rw [List.length_cons]
    omega
section
variable {K : PySem.W.Frag} {H : Hp} {Q : VK} {σ : L2.St} {P : Program} {w : World}
theorem z_setPr {k : Nat} {te : TE} {vs : List Nat} {a : Addr} {xs : List V} (zs : List (Int × Int)) (hlen : zs.length = xs.length) (bs : List (List Int)) (hbl : bs.length ≤ 62) (hb : ∀ z ∈ zs, [z.1, z.2] ∈ bs) (hx : H a = some (.lst xs))
    (hw : ∀ x, wipe ((wipe σ vs).set k (some x)) vs = wipe σ vs)
    (body : ∀ (i : Nat) (x : V) (z : Int × Int) (H' : Hp), xs[i]? = some x → zs[i]? = some z → Same H H' → ∀ R : VK, (∀ t H'', H' t = none → Same H' H'' → H'' t = some (.tup [.int z.1, .int z.2]) → R (.ref t) H'') → te ((wipe σ vs).set k (some x)) H' R)
    (q : ∀ D H' L, H D = none → Same H H' → H' D = some (SetTO P w D L) → (L.map (·.2)).Nodup → (∀ p ∈ L, H' p.1 = some (.tup (p.2.map V.int)) ∧ ∃ z ∈ zs, p.2 = [z.1, z.2]) → (∀ z ∈ zs, [z.1, z.2] ∈ L.map (·.2)) → Q (.ref D) H') :
    tSetE (rAddT K P w) (frT P w) K (gName k) tYes te vs σ Q (.ref a) H := by
  refine ⟨a, rfl, ⟨_, .inl (.inl hx)⟩, fun D hD => ?_⟩
  have hDa : a ≠ D := ne_of_none hx hD
  let Pv : Nat → Hp → Prop := fun i H' => Same H H' ∧ ∃ L, H' D = some (SetTO P w D L) ∧ (L.map (·.2)).Nodup ∧ (∀ p ∈ L, H' p.1 = some (.tup (p.2.map V.int)) ∧ ∃ z ∈ zs.take i, p.2 = [z.1, z.2]) ∧ ∀ z ∈ zs.take i, [z.1, z.2] ∈ L.map (·.2)
  refine ⟨fun i m H' => m = xs.length - i ∧ i ≤ xs.length ∧ Pv i H', ⟨xs.length, by simp, Nat.zero_le _, same_upd hD, [], upd_same, List.nodup_nil, (fun p hp => by cases hp), (fun z hz => by cases hz)⟩, ?_⟩
  rintro i m H' ⟨rfl, hi, sm, L, hS, nd, hL, hz⟩
  have ha := sm _ _ hx
  by_cases hlt : i < xs.length
  · refine .inr ⟨⟨_, xs[i], .inl (.inl ha), by simp [hlt]⟩, Pv (i + 1), fun H2 p2 => ⟨xs.length - (i + 1), by omega, rfl, hlt, p2⟩, fun x H2 y => ?_⟩
    obtain ⟨e, y⟩ := y
    subst e
    have e := y _ (.inl (.inl ha))
    have hzi : zs[i]? = some (zs[i]'(by omega)) := List.getElem?_eq_getElem _
    generalize zs[i]'(by omega) = z at hzi
    have tk : zs.take (i + 1) = zs.take i ++ [z] := by rw [List.take_add_one, hzi]; rfl
    refine ⟨hw _, ?_⟩
    show Keep _ _ _ _ _ true _
    unfold Keep
    rw [if_pos rfl]
    refine body i x z H2 e hzi sm _ fun t H3 f3 s3 h3 => ?_
    have sm3 := sm.trans s3
    have htD : t ≠ D := fun z => by
      rw [z, hS] at f3
      cases f3
    have hlen2 : L.length ≤ bs.length := by
      have := nodup_len nd (m := bs) fun k hk => by
        obtain ⟨p, hp, rfl⟩ := List.mem_map.mp hk
        obtain ⟨z', hz', e'⟩ := (hL p hp).2
        rw [e']
        exact hb z' (List.mem_of_mem_take hz')
      rwa [List.length_map] at this
    refine ⟨D, t, L, [z.1, z.2], rfl, rfl, s3 _ _ hS, .inl (.inl h3), fun p hp => .inl (.inl (s3 _ _ (hL p hp).1)), by omega, fun L' c1 c2 => ?_⟩
    refine ⟨fun b o e => ?_, L', upd_same, ?_, fun p hp => ?_, fun z' hz' => ?_⟩
    · rw [upd_ne (ne_of_none e hD)]
      exact sm3 _ _ e
    · by_cases c : [z.1, z.2] ∈ L.map (·.2)
      · rw [c1 c]
        exact nd
      · have := (c2 c).map (·.2)
        exact this.nodup_iff.mpr (List.nodup_cons.mpr ⟨c, nd⟩)
    · by_cases c : [z.1, z.2] ∈ L.map (·.2)
      · rw [c1 c] at hp
        have hpD : p.1 ≠ D := fun z => by
          have := (hL p hp).1
          rw [z, hS] at this
          cases this
        obtain ⟨z', hz', e'⟩ := (hL p hp).2
        exact ⟨by rw [upd_ne hpD]; exact s3 _ _ (hL p hp).1, z', by rw [tk]; exact List.mem_append.mpr (.inl hz'), e'⟩
      · rcases List.mem_cons.mp ((c2 c).mem_iff.mp hp) with e' | hp
        · rw [e']
          exact ⟨by rw [upd_ne htD]; exact h3, z, by rw [tk]; exact List.mem_append.mpr (.inr (.head _)), rfl⟩
        · have hpD : p.1 ≠ D := fun z => by
            have := (hL p hp).1
            rw [z, hS] at this
            cases this
          obtain ⟨z', hz', e'⟩ := (hL p hp).2
          exact ⟨by rw [upd_ne hpD]; exact s3 _ _ (hL p hp).1, z', by rw [tk]; exact List.mem_append.mpr (.inl hz'), e'⟩
    · have old : z' ∈ zs.take i → [z'.1, z'.2] ∈ L'.map (·.2) := fun h => by
        by_cases c : [z.1, z.2] ∈ L.map (·.2)
        · rw [c1 c]
          exact hz z' h
        · exact ((c2 c).map (·.2)).mem_iff.mpr (.tail _ (hz z' h))
      rw [tk] at hz'
      rcases List.mem_append.mp hz' with h | h
      · exact old h
      · rw [List.mem_singleton.mp h]
        by_cases c : [z.1, z.2] ∈ L.map (·.2)
        · rw [c1 c]
          exact c
        · exact ((c2 c).map (·.2)).mem_iff.mpr (.head _)
  · have e : i = xs.length := by omega
    subst e
    rw [show zs.take xs.length = zs by rw [← hlen, List.take_length]] at hL hz
    exact .inl ⟨⟨_, .inl (.inl ha), by simp⟩, q D H' L hD sm hS nd hL hz⟩
/-- by the first number, then by the second -/
def plt (a b : Int × Int) : Prop := a.1 < b.1 ∨ (a.1 = b.1 ∧ a.2 < b.2)
def atH (H : Hp) (t : Addr) : Int × Int := match H t with
  | some (.tup [.int a, .int b]) => (a, b)
  | _ => (0, 0)
theorem atH_of {t : Addr} {a b : Int} (h : H t = some (.tup [.int a, .int b])) : atH H t = (a, b) := by
  unfold atH
  rw [h]
theorem z_sortedPr {a : Addr} {L : List (Addr × List Int)} {zs : List (Int × Int)} (h : H a = some (SetTO P w a L)) (hL : ∀ p ∈ L, H p.1 = some (.tup (p.2.map V.int)) ∧ ∃ z ∈ zs, p.2 = [z.1, z.2]) (hz : ∀ z ∈ zs, [z.1, z.2] ∈ L.map (·.2))
    (q : ∀ (ts : List Addr) (us : List (Int × Int)) (p : Addr) (H' : Hp), ts.length = us.length → (∀ (i : Nat) (t : Addr) (u : Int × Int), ts[i]? = some t → us[i]? = some u → H' t = some (.tup [.int u.1, .int u.2])) → us.Pairwise plt → (∀ z, z ∈ us ↔ z ∈ zs) → us.length ≤ L.length → H p = none → Same H H' → H' p = some (.lst (ts.map V.ref)) → Q (.ref p) H') :
    rSortedP2 K P w [.ref a] H Q := by
  have key : ∀ p ∈ L, p.2 = [(atH H p.1).1, (atH H p.1).2] := fun p hp => by
    obtain ⟨h1, z, _, e⟩ := hL p hp
    rw [e] at h1 ⊢
    rw [atH_of h1]
  refine ⟨a, L, atH H, rfl, h, fun p hp => ⟨.inl (.inl ?_), key p hp⟩, fun ts p pm pw nd hp => ?_⟩
  · have := (hL p hp).1
    rw [key p hp] at this
    exact this
  have mem : ∀ t ∈ ts, ∃ r ∈ L, r.1 = t := fun t ht => List.mem_map.mp (pm.mem_iff.mp ht)
  have ndt : (ts.map (atH H)).Nodup := by
    have e1 : (L.map (·.1)).map (fun t => [(atH H t).1, (atH H t).2]) = L.map (·.2) := by
      rw [List.map_map]
      exact List.map_congr_left fun r hr => (key r hr).symm
    have e2 : (ts.map fun t => [(atH H t).1, (atH H t).2]).Nodup := (pm.map _).nodup_iff.mpr (by rw [e1]; exact nd)
    have e3 : (ts.map (atH H)).Pairwise fun u v => u ≠ v := by
      rw [List.pairwise_map]
      refine (List.pairwise_map.mp e2).imp fun hne e => hne ?_
      rw [e]
    exact e3
  refine q ts (ts.map (atH H)) p _ (by rw [List.length_map]) (fun i t u ht hu => ?_) ?_ (fun z => ?_) (by rw [List.length_map, pm.length_eq, List.length_map]; exact Nat.le_refl _) hp (same_upd hp) upd_same
  · rw [List.getElem?_map, ht] at hu
    cases hu
    obtain ⟨r, hr, rfl⟩ := mem t (List.mem_of_getElem? ht)
    have h1 := (hL r hr).1
    rw [key r hr] at h1
    rw [upd_ne (ne_of_none h1 hp)]
    exact h1
  · rw [List.pairwise_map]
    have ndt' := List.pairwise_map.mp ndt
    refine (pw.and ndt').imp fun {t u} ⟨h1, h2⟩ => ?_
    unfold plt
    have h3 : ¬ ((atH H t).1 = (atH H u).1 ∧ (atH H t).2 = (atH H u).2) := fun e => h2 (Prod.ext e.1 e.2)
    omega
  · constructor
    · intro hz'
      obtain ⟨t, ht, rfl⟩ := List.mem_map.mp hz'
      obtain ⟨r, hr, rfl⟩ := mem t ht
      obtain ⟨_, z', hz2, e⟩ := hL r hr
      rw [key r hr] at e
      have e1 : (atH H r.1).1 = z'.1 := by injection e
      have e2 : (atH H r.1).2 = z'.2 := by
        injection e with _ e
        injection e
      rw [show atH H r.1 = z' from Prod.ext e1 e2]
      exact hz2
    · intro hz'
      obtain ⟨r, hr, e⟩ := List.mem_map.mp (hz z hz')
      rw [key r hr] at e
      have e1 : (atH H r.1).1 = z.1 := by injection e
      have e2 : (atH H r.1).2 = z.2 := by
        injection e with _ e
        injection e
      exact List.mem_map.mpr ⟨r.1, pm.mem_iff.mpr (List.mem_map.mpr ⟨r, hr, rfl⟩), Prod.ext e1 e2⟩
end
end Sc

/-! tuples of whole numbers: >, and < > of pairs; in, not in, of data -/
namespace Z
open PySem PySem.Spec PyProof PyProof.Rows L2
theorem room65 {k : Nat} {A : _root_.PySem.Around} (r : L2.Room k A) : A.units + 65 < cLine := by have := r.un; omega
def rGtT (K : PySem.W.Frag) : R2 := fun x y H Q => ∃ (a b : Addr) (ns ms : List Int), x = .ref a ∧ y = .ref b ∧ SqT K H a (ns.map V.int) ∧ SqT K H b (ms.map V.int) ∧
  Q (.bl (Ob.lexAt (fun j => decide (ns.getD j 0 = ms.getD j 0)) (fun j => decide (ms.getD j 0 < ns.getD j 0)) (decide (ms.length < ns.length)) 0 (min ns.length ms.length))) H
theorem op_gtT {X : Cx} (hu : X.A.units < cLine) : OpR X (compareOp .Gt) (rGtT X.K) := by
  intro pins s σ H x y v u Q I rx ry h
  obtain ⟨a, b, ns, ms, rfl, rfl, ha, hb, q⟩ := h
  cases rx
  cases ry
  obtain ⟨its, r1, p1, _⟩ := I.tuple ha
  obtain ⟨its2, r2, p2, _⟩ := I.tuple hb
  have i1 : IntsAre its ns := Vals.ints r1
  have i2 : IntsAre its2 ms := Vals.ints r2
  have e1 : its.toArray.size = ns.length := by rw [List.size_toArray]; exact i1.length
  have e2 : its2.toArray.size = ms.length := by rw [List.size_toArray]; exact i2.length
  have at1 : ∀ j (h1 : j < its.toArray.size), ∃ t, its.toArray[j] = .int (ns.getD j 0) t := fun j h1 => PyProof.Rows.IntsAre.int_at i1 _ _ (by simp at h1; simp [h1])
  have at2 : ∀ j (h1 : j < its2.toArray.size), ∃ t, its2.toArray[j] = .int (ms.getD j 0) t := fun j h1 => PyProof.Rows.IntsAre.int_at i2 _ _ (by simp at h1; simp [h1])
  have R := Ob.RcOp.tuples_gt (A := X.A) (s := s) (e := fun j => decide (ns.getD j 0 = ms.getD j 0)) (r := fun j => decide (ms.getD j 0 < ns.getD j 0)) p1 p2 hu (fun j h1 h2 => by
    obtain ⟨t, et⟩ := at1 j h1
    obtain ⟨t', et'⟩ := at2 j h2
    rw [et, et']
    have z : (ns.getD j 0 == ms.getD j 0) = decide (ns.getD j 0 = ms.getD j 0) := by
      by_cases q : ns.getD j 0 = ms.getD j 0
      · rw [decide_eq_true q]; exact beq_iff_eq.mpr q
      · rw [decide_eq_false q]; exact beq_eq_false_iff_ne.mpr q
    rw [← z]
    exact SeqAt.EqAt.int_int _ _ _ _) (fun j h1 h2 _ => by
    obtain ⟨t, et⟩ := at1 j h1
    obtain ⟨t', et'⟩ := at2 j h2
    rw [et, et']
    exact Ob.RcOp.gt_int _ _ _ _)
  rw [e1, e2] at R
  have z : wpAny (model X.prog X.w) X.A (compareOp .Gt (.ref a) (.ref b)) (EP X pins σ Q) X.xe s := R X.prog X.w X.xe (EP X pins σ Q) ⟨.bl _, H, I, rfl, q⟩
  exact z
section
variable {K : PySem.W.Frag} {H : Hp} {Q : VK} {p q : Addr} {a b c d : Int}
theorem z_ltP (h1 : H p = some (.tup [.int a, .int b])) (h2 : H q = some (.tup [.int c, .int d])) (k : Q (.bl (decide (a < c ∨ (a = c ∧ b < d)))) H) : rLtT K (.ref p) (.ref q) H Q := by
  refine ⟨p, q, [a, b], [c, d], rfl, rfl, .inl (.inl h1), .inl (.inl h2), ?_⟩
  have e : HT.lexLt [a, b] [c, d] = decide (a < c ∨ (a = c ∧ b < d)) := by
    unfold HT.lexLt
    by_cases h : a = c
    · subst h
      rw [if_pos rfl]
      unfold HT.lexLt
      by_cases h : b = d
      · subst h
        rw [if_pos rfl]
        unfold HT.lexLt
        simp
      · rw [if_neg h]
        simp
    · rw [if_neg h]
      simp [h]
  rw [e]
  exact k
theorem z_gtP (h1 : H p = some (.tup [.int a, .int b])) (h2 : H q = some (.tup [.int c, .int d])) (k : Q (.bl (decide (c < a ∨ (c = a ∧ d < b)))) H) : rGtT K (.ref p) (.ref q) H Q := by
  refine ⟨p, q, [a, b], [c, d], rfl, rfl, .inl (.inl h1), .inl (.inl h2), ?_⟩
  have e : Ob.lexAt (fun j => decide ([a, b].getD j 0 = [c, d].getD j 0)) (fun j => decide ([c, d].getD j 0 < [a, b].getD j 0)) (decide ([c, d].length < [a, b].length)) 0 (min [a, b].length [c, d].length) = decide (c < a ∨ (c = a ∧ d < b)) := by
    show Ob.lexAt _ _ _ 0 2 = _
    rw [Ob.lexAt_succ, Ob.lexAt_succ, Ob.lexAt_zero]
    show (if decide (a = c) = true then (if decide (b = d) = true then decide ((2 : Nat) < 2) else decide (d < b)) else decide (c < a)) = _
    by_cases h : a = c
    · subst h
      by_cases h : b = d
      · subst h
        simp
      · simp [h]
    · have h' : ¬ c = a := fun z => h z.symm
      simp [h, h']
  rw [e]
  exact k
end
def rInsert : V → List V → Hp → VK → Prop := fun x vs H Q => ∃ (l : Addr) (xs : List V) (i : Int) (y : V), x = .ref l ∧ vs = [.int i, y] ∧ H l = some (.lst xs) ∧ xs.length < sizeLine ∧ 0 ≤ i ∧ i < 2 ^ 63 ∧
    Q .non (upd H l (.lst (xs.take i.toNat ++ [y] ++ xs.drop i.toNat)))
theorem mt_insertN {X : Cx} : MtR X "list.insert" rInsert := mt_insert
section
variable {K : PySem.W.Frag} {σ : L2.St} {H : Hp} {Q : VK} {p : Addr} {xs : List V} {y : V} {n : L2.St → Hp → Prop} {r : VK} {b c : L2.St → Hp → Prop} {tb : TS}
theorem z_insert {i : Nat} (hp : H p = some (.lst xs)) (hl : xs.length < 1000) (hi : i < 1000) (q : Q .non (upd H p (.lst (xs.take i ++ [y] ++ xs.drop i)))) : rInsert (.ref p) [.int (i : Int), y] H Q :=
  ⟨p, xs, (i : Int), y, rfl, rfl, hp, Nat.lt_of_lt_of_le hl (by decide), by omega, by omega, by rw [Int.toNat_natCast]; exact q⟩
def ForR (g : TG) (tb : TS) (n : L2.St → Hp → Prop) (r : VK) (b c : L2.St → Hp → Prop) (σ : L2.St) : List V → Hp → Prop := fun xs H1 => tFor (iRng1 fun _ H R => R xs H) g tb ⟨n, r, b, c⟩ σ H1
theorem z_forRE {ta : TA} {g : TG} (h : ta σ H (ForR g tb n r b c σ)) : tFor (iRng1 ta) g tb ⟨n, r, b, c⟩ σ H := h
theorem z_forRr {k : Nat} (m : Nat) (hm : m < 2 ^ 62) (Pv : Nat → L2.St → Hp → Prop) (h0 : Pv 0 σ H)
    (hs : ∀ i σ H, i < m → Pv i σ H → tb ⟨Pv (i + 1), r, n, Pv (i + 1)⟩ (σ.set k (some (.int (i : Int)))) H) (hd : ∀ σ H, Pv m σ H → n σ H) : ForR (gName k) tb n r b c σ [.int (m : Int)] H :=
  z_forR1 m hm (fun R q => q) Pv h0 hs hd
end
end Z

namespace Cw
open PySem PySem.Spec PyProof.Rows L2 Z
/-- o.m(e, .., k = v, ..) -/
def tMethN (C : Addr) (mn : Str) (n m : Nat) (sp : Sp) (gV : List V → List V → List V) (E : XK) (ta : TE) (t tk : TA) : TE := fun σ H Q => ta σ H fun x H1 => ∃ a dx fs, x = .ref a ∧ H1 a = some (.ins C dx fs) ∧ fs.lookup mn = none ∧
  t σ H1 fun vs H2 => tk σ H2 fun zs H3 => vs.length = n ∧ zs.length = m ∧ sp (gV (x :: vs) zs) H3 Q E
section
variable {X : Cx} {CX : CXT} {k n : Nat} {f C : Addr} {fd : FuncData} {ps ks : List Str} {sp : Sp} {E : XK} {m : Str} {apos pos : Pos} {o e : Expr} {es : List Expr} {kws : List Keyword} {ta : TE} {t tk : TA} {g : List Value → List Value → List Value} {gV : List V → List V → List V}
theorem pe_methN {pl : Sem Bool} (he : PE X o ta) (c : Cls X.K C) (hm : Meth X.K C m f) (F : FnOk X.prog X.w X.K X.mg X.base CX k f fd ps sp) (hr : Room k X.A) (hb : KBn X.K fd ps (n + 1) ks g gV) (hx : Passes CX X E) (ha : PA X (e :: es) t) (hkw : PK X kws tk)
    (hall : (backToKw pos (keywordEach kws X.env)).all (·.1.isSome) = true := by rfl) (hks : (backToKw pos (keywordEach kws X.env)).filterMap (·.1) = ks := by rfl)
    (hst : starEach (e :: es) X.env = (false, eval e X.env) :: starEach es X.env := by rfl)
    (hpl : ((backTo pos (starEach (e :: es) X.env)).any (·.1) || (backToKw pos (keywordEach kws X.env)).any (·.1.isNone)) = false := by rfl)
    (ht : eval (.Call (.Attribute o m apos) (e :: es) kws pos) X.env = (do
      let ov ← eval o X.env
      standAt apos.atName
      let (f, first) ← holding [ov] (getMethod ov m pl)
      callWith pos f first (backTo pos (starEach (e :: es) X.env)) (backToKw pos (keywordEach kws X.env))) := by rfl) :
    PE X (.Call (.Attribute o m apos) (e :: es) kws pos) (tMethN C m n ks.length sp gV E ta t tk) := by
  refine ⟨fun pins s σ H Q I h => ?_⟩
  refine PySem.W.methodCall_KW (pl := pl) (thn (he.run pins s σ H _ I h) fun u s1 ⟨x, H1, I1, rx, a, dx, fs, ex, ea, l, q⟩ => ?_) ht
  subst ex
  obtain rfl : u = Value.ref a := rx
  refine getmeth_ok I1 ea c hm l ?_
  refine PySem.W.callWith_KW (first := [.ref a]) (h₀ := X.base) I.ok.mod.kin hm.kp hall (thn (ha.run pos pins s1 σ H1 _ I1 q) fun us s2 ⟨vs, H2, I2, r, q2⟩ => ?_) hpl hst
  refine thn (hkw.run pos pins s2 σ H2 _ I2 q2) fun ws s3 ⟨zs, H3, I3, rz, l1, l2, q3⟩ => ⟨I3.kIn, ?_⟩
  rw [hks]
  exact run_fnN (us := .ref a :: us) (vs := .ref a :: vs) F hr hb hx I3 (.cons rfl r) rz (by rw [List.length_cons, l1]) l2 q3
end
/-! methods whose errors are wished for at the slots (in a try) -/
def tMethS (C : Addr) (m : Str) (sp : Sp) (dvs : List V) (E : L2.St → XK) (ta : TE) (t : TA) : TE := fun σ H Q => ta σ H fun x H1 => ∃ a dx fs, x = .ref a ∧ H1 a = some (.ins C dx fs) ∧ fs.lookup m = none ∧ t σ H1 fun vs H2 => sp (x :: (vs ++ dvs)) H2 Q (E σ)
def tMethNS (C : Addr) (mn : Str) (n m : Nat) (sp : Sp) (gV : List V → List V → List V) (E : L2.St → XK) (ta : TE) (t tk : TA) : TE := fun σ H Q => ta σ H fun x H1 => ∃ a dx fs, x = .ref a ∧ H1 a = some (.ins C dx fs) ∧ fs.lookup mn = none ∧
  t σ H1 fun vs H2 => tk σ H2 fun zs H3 => vs.length = n ∧ zs.length = m ∧ sp (gV (x :: vs) zs) H3 Q (E σ)
section
variable {X : Cx} {CX : CXT} {k n : Nat} {f C : Addr} {fd : FuncData} {ps ks : List Str} {sp : Sp} {E : L2.St → XK} {m : Str} {apos pos : Pos} {o e : Expr} {es : List Expr} {kws : List Keyword} {ta : TE} {t tk : TA} {dvs : List V} {ds : List Value} {g : List Value → List Value → List Value} {gV : List V → List V → List V}
theorem pe_methS {pl : Sem Bool} (he : PE X o ta) (c : Cls X.K C) (hm : Meth X.K C m f) (F : FnOk X.prog X.w X.K X.mg X.base CX k f fd ps sp) (hr : Room k X.A) (hb : Binds X.K fd ps ds) (hd : Vals dvs ds) (hx : ∀ σ, PassesAt CX X σ (E σ)) (ha : PA X (e :: es) t)
    (hst : starEach (e :: es) X.env = (false, eval e X.env) :: starEach es X.env := by rfl) (hpl : (backTo pos (starEach es X.env)).any (·.1) = false := by rfl)
    (ht : eval (.Call (.Attribute o m apos) (e :: es) [] pos) X.env = (do
      let ov ← eval o X.env
      standAt apos.atName
      let (f, first) ← holding [ov] (getMethod ov m pl)
      callWith pos f first (backTo pos (starEach (e :: es) X.env)) (backToKw pos (keywordEach [] X.env))) := by rfl) :
    PE X (.Call (.Attribute o m apos) (e :: es) [] pos) (tMethS C m sp dvs E ta t) := by
  refine ⟨fun pins s σ H Q I h => ?_⟩
  refine PySem.W.methodCall_KW (pl := pl) (thn (he.run pins s σ H _ I h) fun u s1 ⟨x, H1, I1, rx, a, dx, fs, ex, ea, l, q⟩ => ?_) ht
  subst ex
  obtain rfl : u = Value.ref a := rx
  refine getmeth_ok I1 ea c hm l ?_
  refine PySem.W.callWith_K (first := [.ref a]) (h₀ := X.base) I.ok.mod.kin hm.kp (thn (ha.run pos pins s1 σ H1 _ I1 q) fun us s2 ⟨vs, H2, I2, r, q2⟩ => ⟨I2.kIn, ?_⟩) hst hpl
  exact run_fnSD (us := .ref a :: us) (vs := .ref a :: vs) F hr hb hd (hx σ) I2 (.cons rfl r) q2
theorem pe_meth0S {pl : Sem Bool} (he : PE X o ta) (c : Cls X.K C) (hm : Meth X.K C m f) (F : FnOk X.prog X.w X.K X.mg X.base CX k f fd ps sp) (hr : Room k X.A) (hb : Binds X.K fd ps ds) (hd : Vals dvs ds) (hx : ∀ σ, PassesAt CX X σ (E σ))
    (ht : eval (.Call (.Attribute o m apos) [] [] pos) X.env = (do
      let ov ← eval o X.env
      standAt apos.atName
      let (f, first) ← holding [ov] (getMethod ov m pl)
      callWith pos f first (backTo pos (starEach [] X.env)) (backToKw pos (keywordEach [] X.env))) := by rfl) :
    PE X (.Call (.Attribute o m apos) [] [] pos) (tMethS C m sp dvs E ta tNil) := by
  refine ⟨fun pins s σ H Q I h => ?_⟩
  refine PySem.W.methodCall_KW (pl := pl) (thn (he.run pins s σ H _ I h) fun u s1 ⟨x, H1, I1, rx, a, dx, fs, ex, ea, l, q⟩ => ?_) ht
  subst ex
  obtain rfl : u = Value.ref a := rx
  refine getmeth_ok I1 ea c hm l ?_
  exact PySem.W.callWith_K0 (first := [.ref a]) I1.kIn hm.kp (run_fnSD (us := [.ref a]) (vs := [.ref a]) F hr hb hd (hx σ) I1 (.cons rfl .nil) q)
theorem run_fnNS {pins : List (Addr × Obj)} {σ : L2.St} {H : Hp} {s : Shared} {Q : VK} {us ws : List Value} {vs zs : List V} (F : FnOk X.prog X.w X.K X.mg X.base CX k f fd ps sp) (hr : Room k X.A) (hb : KBn X.K fd ps n ks g gV) (hx : PassesAt CX X σ (E σ))
    (I : Inv X pins σ H s) (r : Vals vs us) (rz : Vals zs ws) (l1 : vs.length = n) (l2 : zs.length = ks.length) (h : sp (gV vs zs) H Q (E σ)) : wpAny (model X.prog X.w) X.A (call (.ref f) us (ks.zip ws)) (EP X pins σ Q) X.xe s := by
  have r2 := hb.rel r rz
  refine wpAny_call (codeAny_mono (F.run X.A X.stack s H ⟨us, ks.zip ws⟩ (g us ws) (gV vs zs) Q (E σ) hr I.env0 (hb.to s us ws I.kIn (r.length.symm.trans l1) (rz.length.symm.trans l2)) r2 h) fun r s' hq => ?_)
  cases r with
  | error e => exact hx pins H s e s' I hq
  | ok fl =>
    cases fl with
    | ret u => exact I.after hq
    | next => exact False.elim hq
    | brk => exact False.elim hq
    | cont => exact False.elim hq
theorem pe_methNS {pl : Sem Bool} (he : PE X o ta) (c : Cls X.K C) (hm : Meth X.K C m f) (F : FnOk X.prog X.w X.K X.mg X.base CX k f fd ps sp) (hr : Room k X.A) (hb : KBn X.K fd ps (n + 1) ks g gV) (hx : ∀ σ, PassesAt CX X σ (E σ)) (ha : PA X (e :: es) t) (hkw : PK X kws tk)
    (hall : (backToKw pos (keywordEach kws X.env)).all (·.1.isSome) = true := by rfl) (hks : (backToKw pos (keywordEach kws X.env)).filterMap (·.1) = ks := by rfl)
    (hst : starEach (e :: es) X.env = (false, eval e X.env) :: starEach es X.env := by rfl)
    (hpl : ((backTo pos (starEach (e :: es) X.env)).any (·.1) || (backToKw pos (keywordEach kws X.env)).any (·.1.isNone)) = false := by rfl)
    (ht : eval (.Call (.Attribute o m apos) (e :: es) kws pos) X.env = (do
      let ov ← eval o X.env
      standAt apos.atName
      let (f, first) ← holding [ov] (getMethod ov m pl)
      callWith pos f first (backTo pos (starEach (e :: es) X.env)) (backToKw pos (keywordEach kws X.env))) := by rfl) :
    PE X (.Call (.Attribute o m apos) (e :: es) kws pos) (tMethNS C m n ks.length sp gV E ta t tk) := by
  refine ⟨fun pins s σ H Q I h => ?_⟩
  refine PySem.W.methodCall_KW (pl := pl) (thn (he.run pins s σ H _ I h) fun u s1 ⟨x, H1, I1, rx, a, dx, fs, ex, ea, l, q⟩ => ?_) ht
  subst ex
  obtain rfl : u = Value.ref a := rx
  refine getmeth_ok I1 ea c hm l ?_
  refine PySem.W.callWith_KW (first := [.ref a]) (h₀ := X.base) I.ok.mod.kin hm.kp hall (thn (ha.run pos pins s1 σ H1 _ I1 q) fun us s2 ⟨vs, H2, I2, r, q2⟩ => ?_) hpl hst
  refine thn (hkw.run pos pins s2 σ H2 _ I2 q2) fun ws s3 ⟨zs, H3, I3, rz, l1, l2, q3⟩ => ⟨I3.kIn, ?_⟩
  rw [hks]
  exact run_fnNS (us := .ref a :: us) (vs := .ref a :: vs) F hr hb (hx σ) I3 (.cons rfl r) rz (by rw [List.length_cons, l1]) l2 q3
end
/-! the readings -/
section
variable {K : PySem.W.Frag} {H : Hp} {Q : VK} {σ : L2.St} {a C dx : Addr} {fs : List (Str × V)} {f m : Str} {v : V} {ta tv : TE} {t tk : TA} {n : L2.St → Hp → Prop} {r : VK} {b c : L2.St → Hp → Prop} {sp : Sp} {dvs : List V} {E : XK} {gV : List V → List V → List V}
def QFld (K : PySem.W.Frag) (f : Str) (Q : VK) : VK := fun x H1 => ∃ a C dx fs v, x = .ref a ∧ H1 a = some (.ins C dx fs) ∧ Cls K C ∧ NoAttr K C f ∧ fs.lookup f = some v ∧ Q v H1
theorem z_fldE (h : ta σ H (QFld K f Q)) : tFld K ta f σ H Q := h
theorem z_fld (e : H a = some (.ins C dx fs)) (c : Cls K C) (no : NoAttr K C f) (l : fs.lookup f = some v) (q : Q v H) : QFld K f Q (.ref a) H := ⟨a, C, dx, fs, v, rfl, e, c, no, l, q⟩
def QSet (K : PySem.W.Frag) (f : Str) (y : V) (n : Hp → Prop) : VK := fun x H2 => ∃ a C dx fs, x = .ref a ∧ H2 a = some (.ins C dx fs) ∧ Cls K C ∧ NoAttr K C f ∧ fs.length < 1000 ∧ n (upd H2 a (.ins C dx (putF f y fs)))
theorem z_sfldE (h : tv σ H fun y H1 => ta σ H1 (QSet K f y (n σ))) : sFld K ta tv f ⟨n, r, b, c⟩ σ H := h
theorem z_sfld {n : Hp → Prop} (e : H a = some (.ins C dx fs)) (c : Cls K C) (no : NoAttr K C f) (l : fs.length < 1000) (q : n (upd H a (.ins C dx (putF f v fs)))) : QSet K f v n (.ref a) H := ⟨a, C, dx, fs, rfl, e, c, no, l, q⟩
def QMeth (C : Addr) (m : Str) (σ : L2.St) (t : TA) (sp : List V → Hp → Prop) : VK := fun x H1 => ∃ a dx fs, x = .ref a ∧ H1 a = some (.ins C dx fs) ∧ fs.lookup m = none ∧ t σ H1 fun vs H2 => sp (x :: vs) H2
theorem z_methSE {E : L2.St → XK} (h : ta σ H (QMeth C m σ t fun vs H2 => sp (vs ++ dvs) H2 Q (E σ))) : tMethS C m sp dvs E ta t σ H Q := h
theorem z_methE (h : ta σ H (QMeth C m σ t fun vs H2 => sp (vs ++ dvs) H2 Q E)) : tMeth C m sp dvs E ta t σ H Q := h
theorem z_meth {sp : List V → Hp → Prop} (e : H a = some (.ins C dx fs)) (l : fs.lookup m = none) (q : t σ H fun vs H2 => sp (.ref a :: vs) H2) : QMeth C m σ t sp (.ref a) H := ⟨a, dx, fs, rfl, e, l, q⟩
def QMethN (C : Addr) (mn : Str) (k j : Nat) (sp : Sp) (gV : List V → List V → List V) (E : XK) (σ : L2.St) (t tk : TA) (Q : VK) : VK := fun x H1 => ∃ a dx fs, x = .ref a ∧ H1 a = some (.ins C dx fs) ∧ fs.lookup mn = none ∧
  t σ H1 fun vs H2 => tk σ H2 fun zs H3 => vs.length = k ∧ zs.length = j ∧ sp (gV (x :: vs) zs) H3 Q E
theorem z_methNE {k j : Nat} (h : ta σ H (QMethN C m k j sp gV E σ t tk Q)) : tMethN C m k j sp gV E ta t tk σ H Q := h
theorem z_methNSE {k j : Nat} {E : L2.St → XK} (h : ta σ H (QMethN C m k j sp gV (E σ) σ t tk Q)) : tMethNS C m k j sp gV E ta t tk σ H Q := h
theorem z_methN {k j : Nat} (e : H a = some (.ins C dx fs)) (l : fs.lookup m = none) (q : t σ H fun vs H2 => tk σ H2 fun zs H3 => vs.length = k ∧ zs.length = j ∧ sp (gV (.ref a :: vs) zs) H3 Q E) : QMethN C m k j sp gV E σ t tk Q (.ref a) H := ⟨a, dx, fs, rfl, e, l, q⟩
theorem z_lens {xs ys : List V} {k j : Nat} {P : Prop} (h1 : xs.length = k) (h2 : ys.length = j) (q : P) : xs.length = k ∧ ys.length = j ∧ P := ⟨h1, h2, q⟩
theorem z_make (h : t σ H fun vs H1 => ∀ x dx, H1 x = none → H1 dx = none → dx ≠ x → sp (.ref x :: (vs ++ dvs)) (upd (upd H1 dx (.own x)) x (.ins C dx [])) (fun v H2 => v = .non ∧ Q (.ref x) H2) E) : tMake C sp dvs E t σ H Q := h
end
/-! for and comprehensions over any walk -/
section
variable {K : PySem.W.Frag} {H : Hp} {Q : VK} {σ : L2.St} {wi : TI} {J : It} {m : Nat} {G : Hp → Prop} {Y : Nat → Hp → V → Hp → Prop} {g : TG} {tb : TS} {te : TE} {n : L2.St → Hp → Prop} {r : VK} {b c : L2.St → Hp → Prop} {vs : List Nat}
theorem z_forW (w : Walk J m G Y) (hi : ∀ R : It → Hp → Prop, R J H → wi σ H R) (Pv : Nat → L2.St → Hp → Prop) (h0 : Pv 0 σ H) (hG : ∀ i σ H, i ≤ m → Pv i σ H → G H)
    (hs : ∀ i x σ H H', i < m → Pv i σ H → Y i H x H' → g x σ H' fun σ2 H2 => tb ⟨Pv (i + 1), r, n, Pv (i + 1)⟩ σ2 H2) (hd : ∀ σ H, Pv m σ H → n σ H) : tFor wi g tb ⟨n, r, b, c⟩ σ H :=
  hi _ (for_it w Pv h0 hG hs hd)
theorem z_lcW (w : Walk J m G Y) (hi : ∀ R : It → Hp → Prop, R J H → wi σ H R) (Pv : Nat → Addr → List V → Hp → Prop)
    (h0 : ∀ D H', H D = none → Same H H' → H' D = some (.lst []) → Pv 0 D [] H') (hG : ∀ i D acc H', Pv i D acc H' → G H')
    (hs : ∀ i x D acc H' H2, i < m → acc.length = i → H' D = some (.lst acc) → Pv i D acc H' → Y i H' x H2 → g x (wipe σ vs) H2 fun σ2 H3 => wipe σ2 vs = wipe σ vs ∧ te σ2 H3 (LcN D i Pv))
    (hd : ∀ D acc H', H D = none → acc.length = m → H' D = some (.lst acc) → Pv m D acc H' → Q (.ref D) H') : tLc wi g tYes te vs σ H Q := by
  refine hi _ fun D hD => ?_
  refine lc_it w (fun i H' => ∃ acc, acc.length = i ∧ H' D = some (.lst acc) ∧ Pv i D acc H') ⟨[], rfl, upd_same, h0 D _ hD (same_upd hD) upd_same⟩ (fun i H' _ ⟨acc, _, _, pv⟩ => hG _ _ _ _ pv) (fun i x H' H2 hi' ⟨acc, hl, hH, pv⟩ y => ?_) (fun H' ⟨acc, hl, hH, pv⟩ => hd D acc H' hD hl hH pv)
  have h := hs i x D acc H' H2 hi' hl hH pv y
  have e : (fun σ2 H2 => wipe σ2 vs = wipe σ vs ∧ te σ2 H2 (LcN D i Pv)) = (fun (σ2 : L2.St) (H2 : Hp) => wipe σ2 vs = wipe σ vs ∧ tYes σ2 H2 fun b H3 => if b = true then te σ2 H3 (LcN D i Pv) else ∃ acc', acc'.length = i + 1 ∧ H3 D = some (.lst acc') ∧ Pv (i + 1) D acc' H3) := by
    funext σ2 H2
    show _ = (wipe σ2 vs = wipe σ vs ∧ if true = true then te σ2 H2 (LcN D i Pv) else ∃ acc', acc'.length = i + 1 ∧ H2 D = some (.lst acc') ∧ Pv (i + 1) D acc' H2)
    rw [if_pos rfl]
  rw [e] at h
  exact h
/-- [e for x in ..]: the values ws -/
theorem z_valsW {ws : List V} (w : Walk J m G Y) (hm : m ≤ 1000) (hi : ∀ R : It → Hp → Prop, R J H → wi σ H R) (hG : ∀ H', Same H H' → G H') (hl : ws.length = m)
    (hs : ∀ i x v H' H2 (R : VK), ws[i]? = some v → i < m → Same H H' → Y i H' x H2 → (∀ H3, Same H' H3 → R v H3) → g x (wipe σ vs) H2 fun σ2 H3 => wipe σ2 vs = wipe σ vs ∧ te σ2 H3 R)
    (hd : ∀ D H', H D = none → Same H H' → H' D = some (.lst ws) → Q (.ref D) H') : tLc wi g tYes te vs σ H Q := by
  refine z_lcW w hi (fun i D acc H' => Same H H' ∧ H D = none ∧ acc = ws.take i) (fun D H' f s _ => ⟨s, f, rfl⟩) (fun i D acc H' h => hG _ h.1) (fun i x D acc H' H2 hi' hl' hD ⟨s', fD, ea⟩ y => ?_) (fun D acc H' fD hl' hD ⟨s', _, ea⟩ => ?_)
  · have hw : ws[i]? = some ws[i] := List.getElem?_eq_getElem (by omega)
    refine hs i x ws[i] H' H2 _ hw hi' s' y fun H3 s3 => ?_
    refine z_lcB (s3 _ _ hD) hl' (by omega) fun H5 hD5 k5 e5 => ⟨fun b o h => ?_, fD, ?_⟩
    · rw [e5 b (ne_of_none h fD)]
      exact s3 _ _ (s' _ _ h)
    · subst ea
      rw [List.take_add_one, hw]
      rfl
  · refine hd D H' fD s' ?_
    rw [hD, ea, ← hl, List.take_length]
/-- [e for x in ..]: a new object each time -/
theorem z_objsW {ob : Nat → HO} (w : Walk J m G Y) (hm : m ≤ 1000) (hi : ∀ R : It → Hp → Prop, R J H → wi σ H R) (hG : ∀ H', Same H H' → G H')
    (hs : ∀ i x H' H2 (R : VK), i < m → Same H H' → Y i H' x H2 → (∀ a H3, H' a = none → Same H' H3 → H3 a = some (ob i) → R (.ref a) H3) → g x (wipe σ vs) H2 fun σ2 H3 => wipe σ2 vs = wipe σ vs ∧ te σ2 H3 R)
    (hd : ∀ (D : Addr) (H' : Hp) (as : List Addr), H D = none → Same H H' → H' D = some (.lst (as.map V.ref)) → as.length = m → as.Nodup → D ∉ as → (∀ i a, as[i]? = some a → H a = none ∧ H' a = some (ob i)) → Q (.ref D) H') : tLc wi g tYes te vs σ H Q := by
  refine z_lcW w hi (fun i D acc H' => Same H H' ∧ H D = none ∧ ∃ as : List Addr, acc = as.map V.ref ∧ as.Nodup ∧ D ∉ as ∧ ∀ i a, as[i]? = some a → H a = none ∧ H' a = some (ob i)) (fun D H' f s _ => ⟨s, f, [], rfl, List.nodup_nil, List.not_mem_nil, fun i a h => (by simp at h)⟩) (fun i D acc H' h => hG _ h.1) (fun i x D acc H' H2 hi' hl' hD ⟨s', fD, as, ea, nd, nD, hv⟩ y => ?_) (fun D acc H' fD hl' hD ⟨s', _, as, ea, nd, nD, hv⟩ => ?_)
  · have la : as.length = i := by
      have := congrArg List.length ea
      rw [List.length_map, hl'] at this
      exact this.symm
    refine hs i x H' H2 _ hi' s' y fun a H3 fa s3 h3 => ?_
    have na : a ∉ as := fun hm => by
      obtain ⟨j, hj⟩ := List.mem_iff_getElem?.mp hm
      have := (hv j a hj).2
      rw [fa] at this
      cases this
    have nDa : a ≠ D := fun z => by
      rw [z, hD] at fa
      cases fa
    refine z_lcB (s3 _ _ hD) hl' (by omega) fun H5 hD5 k5 e5 => ⟨fun b o h => ?_, fD, as ++ [a], by rw [ea, List.map_append]; rfl, ?_, ?_, fun j b hb => ?_⟩
    · rw [e5 b (ne_of_none h fD)]
      exact s3 _ _ (s' _ _ h)
    · rw [List.nodup_append]
      refine ⟨nd, List.pairwise_singleton _ _, fun x hx y hy z => ?_⟩
      rw [List.mem_singleton.mp hy] at z
      exact na (by rw [← z]; exact hx)
    · rw [List.mem_append, List.mem_singleton]
      rintro (h | h)
      · exact nD h
      · exact nDa h.symm
    · rcases Nat.lt_or_ge j as.length with h | h
      · rw [List.getElem?_append_left h] at hb
        have hne : b ≠ D := fun z => nD (by rw [← z]; exact List.mem_of_getElem? hb)
        refine ⟨(hv j b hb).1, ?_⟩
        rw [e5 b hne]
        exact s3 _ _ (hv j b hb).2
      · have hr : j = i := by
          have := (List.getElem?_eq_some_iff.mp hb).1
          rw [List.length_append, List.length_singleton] at this
          omega
        subst hr
        rw [List.getElem?_append_right h, la, Nat.sub_self] at hb
        cases hb
        refine ⟨?_, by rw [e5 a nDa]; exact h3⟩
        cases z : H a with
        | none => rfl
        | some o =>
          have := s' _ _ z
          rw [fa] at this
          cases this
  · have la : as.length = m := by
      have := congrArg List.length ea
      rw [List.length_map, hl'] at this
      exact this.symm
    exact hd D H' as fD s' (by rw [hD, ea]) la nd nD hv
/-! what is walked -/
def It0 (R : It → Hp → Prop) : List V → Hp → Prop := fun _ _ => True
theorem z_iRng {ta : TA} {k : Nat} {R : It → Hp → Prop} (ha : ∀ S : List V → Hp → Prop, S [.int (k : Int)] H → ta σ H S) (hk : k ≤ 1000) (q : R (Itr 0 k) H) : iRng1 ta σ H R := by
  refine ha _ ⟨(k : Int), rfl, by omega, by omega, ?_⟩
  rw [Int.toNat_natCast]
  exact q
theorem z_iList {te : TE} {a : Addr} {xs : List V} {R : It → Hp → Prop} (ha : ∀ S : VK, S (.ref a) H → te σ H S) (h : SqL K H a xs) (q : R (Itl K a) H) : iList K te σ H R := ha _ ⟨a, rfl, ⟨xs, h⟩, q⟩
theorem z_iZip {ta : TA} {a b : Addr} {xs ys : List V} {R : It → Hp → Prop} (ha : ∀ S : List V → Hp → Prop, S [.ref a, .ref b] H → ta σ H S) (h1 : SqL K H a xs) (h2 : SqL K H b ys) (q : R (Itz K a b) H) : iZip K ta σ H R := ha _ ⟨a, b, xs, ys, rfl, h1, h2, q⟩
theorem z_iEnum {ta : TA} {a : Addr} {xs : List V} {R : It → Hp → Prop} (ha : ∀ S : List V → Hp → Prop, S [.ref a] H → ta σ H S) (h1 : SqL K H a xs) (q : R (Ite K a) H) : iEnum K ta σ H R := ha _ ⟨a, xs, rfl, h1, q⟩
def rSumN (K : PySem.W.Frag) : List V → Hp → VK → Prop := rSum K
theorem z_sum {ns : List Int} {a : Addr} (h : SqL K H a (ns.map V.int)) (q : Q (.int ns.sum) H) : rSum K [.ref a] H Q := ⟨a, ns, rfl, h, q⟩
theorem z_reverse {xs : List V} {l : Addr} (h : H l = some (.lst xs)) (q : Q .non (upd H l (.lst xs.reverse))) : rReverse (.ref l) [] H Q := ⟨l, xs, rfl, rfl, h, q⟩
end
/-! one field -/
theorem look1 {f : Str} {v : V} : ([(f, v)] : List (Str × V)).lookup f = some v := by
  unfold List.lookup
  rw [show (f == f) = true from beq_self_eq_true f]
theorem look1n {f m : Str} {v : V} (h : (m == f) = false) : ([(f, v)] : List (Str × V)).lookup m = none := by
  unfold List.lookup
  rw [h]
  rfl
theorem put1 {f : Str} {v w : V} : putF f w [(f, v)] = [(f, w)] := by
  unfold putF
  rw [if_pos rfl]
theorem put0 {f : Str} {w : V} : putF f w [] = [(f, w)] := rfl
end Cw

namespace Co
open PySem PySem.Spec PyProof.Rows L2 Z
/-- a value is never NotImplemented -/
theorem notNI {v : V} {u : Value} (r : RelV v u) {Q : Value → Shared → Prop} {s : Shared} (q : Q u s) : PySem.W.CmpBack Q u s := by
  cases u <;> first | exact q | (cases v <;> first | (cases r; done) | (obtain ⟨_, r⟩ := r; cases r; done) | exact absurd r (by intro z; cases z))
/-- x op y by an own method -/
def rOwn (C : Addr) (sp : Sp) (E : L2.St → XK) : L2.St → R2 := fun σ x y H Q => ∃ a b dx dy fs gs, x = .ref a ∧ y = .ref b ∧ H a = some (.ins C dx fs) ∧ H b = some (.ins C dy gs) ∧ sp [.ref a, .ref b] H Q (E σ)
def rOwn1 (C : Addr) (sp : Sp) (E : L2.St → XK) : L2.St → V → Hp → VK → Prop := fun σ x H Q => ∃ a dx fs, x = .ref a ∧ H a = some (.ins C dx fs) ∧ sp [.ref a] H Q (E σ)
def tOpS (r : L2.St → R2) (ta tb : TE) : TE := fun σ H Q => ta σ H fun x H1 => tb σ H1 fun y H2 => r σ x y H2 Q
def tUnS (r : L2.St → V → Hp → VK → Prop) (ta : TE) : TE := fun σ H Q => ta σ H fun x H1 => r σ x H1 Q
section
variable {X : Cx} {CX : CXT} {k : Nat} {f C : Addr} {fd : FuncData} {ps : List Str} {sp : Sp} {E : L2.St → XK} {op : Operator} {nm : Str}
theorem own_bin {pins : List (Addr × Obj)} {s : Shared} {σ : L2.St} {H : Hp} {x y : V} {v u : Value} {Q : VK} (c : PySem.W.selfFirst X.K C = true) (hs : PySem.W.findIn X.K (.ref C) nm = some (some (.ref f))) (hf : PySem.W.isFn X.K (.ref f) = true) (F : FnOk X.prog X.w X.K X.mg X.base CX k f fd ps sp) (hr : Room k X.A) (hb : Binds X.K fd ps []) (hx : ∀ σ, PassesAt CX X σ (E σ))
    (hn : PySem.dunder op.info.2 = nm) (I : Inv X pins σ H s) (rx : RelV x v) (ry : RelV y u) (h : rOwn C sp E σ x y H Q) : wpAny (model X.prog X.w) X.A (binaryOp op v u) (EP X pins σ Q) X.xe s := by
  obtain ⟨a, b, dx, dy, fs, gs, rfl, rfl, ha, hb', hq⟩ := h
  cases rx
  cases ry
  obtain ⟨mA, J, _⟩ := ins_get I.hok ha
  obtain ⟨mB, J', _⟩ := ins_get I.hok hb'
  obtain ⟨od, J, _⟩ := J.look
  obtain ⟨od', J', _⟩ := J'.look
  obtain ⟨m, hF⟩ := I.fr
  subst hn
  refine PySem.W.binop_K hF I.ok.mod.kin J J'.type c hs hf ?_
  refine wpAny_mono (run_fnSD (us := [.ref a, .ref b]) (vs := [.ref a, .ref b]) F hr hb .nil (hx σ) I (.cons rfl (.cons rfl .nil)) hq) (fun r s' q => ?_) fun _ _ x => x
  obtain ⟨z, H', I', rz, q⟩ := q
  exact notNI rz ⟨z, H', I', rz, q⟩
theorem pe_own {a b : Expr} {ta tb : TE} {pos : Pos} (c : PySem.W.selfFirst X.K C = true) (hs : PySem.W.findIn X.K (.ref C) nm = some (some (.ref f))) (hf : PySem.W.isFn X.K (.ref f) = true) (F : FnOk X.prog X.w X.K X.mg X.base CX k f fd ps sp) (hr : Room k X.A) (hb : Binds X.K fd ps []) (hx : ∀ σ, PassesAt CX X σ (E σ))
    (ha : PE X a ta) (hbb : PE X b tb) (hn : PySem.dunder op.info.2 = nm := by decide +kernel) : PE X (.BinOp a op b pos) (tOpS (rOwn C sp E) ta tb) := by
  refine ⟨fun pins s σ H Q I h => ?_⟩
  exact wpAny_BinOp (binT ha hbb I h fun v u s2 x y H2 I2 rx ry q => own_bin c hs hf F hr hb hx hn I2 rx ry q)
theorem own_neg {pins : List (Addr × Obj)} {s : Shared} {σ : L2.St} {H : Hp} {x : V} {v : Value} {Q : VK} (hs : PySem.W.findIn X.K (.ref C) "__neg__" = some (some (.ref f))) (hf : PySem.W.isFn X.K (.ref f) = true) (F : FnOk X.prog X.w X.K X.mg X.base CX k f fd ps sp) (hr : Room k X.A) (hb : Binds X.K fd ps []) (hx : ∀ σ, PassesAt CX X σ (E σ))
    (I : Inv X pins σ H s) (rx : RelV x v) (h : rOwn1 C sp E σ x H Q) : wpAny (model X.prog X.w) X.A (unaryOp .USub v) (EP X pins σ Q) X.xe s := by
  obtain ⟨a, dx, fs, rfl, ha, hq⟩ := h
  cases rx
  obtain ⟨mA, J, _⟩ := ins_get I.hok ha
  obtain ⟨od, J, _⟩ := J.look
  obtain ⟨m, hF⟩ := I.fr
  unfold unaryOp
  refine wpAny_holding ?_
  show wpAny _ _ (if (UnaryOp.USub == UnaryOp.Not) = true then _ else _) _ _ _
  rw [if_neg (by decide)]
  refine wpAny_bind (PySem.W.special_fn (args := []) (I.ok.mod.kin.keeps hF.keep) J hs (beq_iff_eq.mp hf) ?_)
  refine wpAny_mono (run_fnSD (us := [.ref a]) (vs := [.ref a]) F hr hb .nil (hx σ) I (.cons rfl .nil) hq) (fun r s' q => ?_) fun _ _ x => x
  exact wpAny_pure q
theorem pe_ownNeg {a : Expr} {ta : TE} {pos : Pos} (hs : PySem.W.findIn X.K (.ref C) "__neg__" = some (some (.ref f))) (hf : PySem.W.isFn X.K (.ref f) = true) (F : FnOk X.prog X.w X.K X.mg X.base CX k f fd ps sp) (hr : Room k X.A) (hb : Binds X.K fd ps []) (hx : ∀ σ, PassesAt CX X σ (E σ))
    (ha : PE X a ta) : PE X (.UnaryOp .USub a pos) (tUnS (rOwn1 C sp E) ta) := by
  refine ⟨fun pins s σ H Q I h => ?_⟩
  exact UnaryOp_ (thn (ha.run pins s σ H _ I h) fun v s1 ⟨x, H1, I1, r1, q1⟩ => own_neg hs hf F hr hb hx I1 r1 q1)
end
theorem passAll {X : Cx} {CX : CXT} {E : XK} (h : Passes CX X E) : ∀ σ, PassesAt CX X σ ((fun _ => E) σ) := fun σ pins H s e s' I q => h pins σ H s e s' I q
section
variable {ta tb : TE} {σ : L2.St} {H : Hp} {Q : VK} {C a b dx dy : Addr} {fs gs : List (Str × V)} {sp : Sp} {E : L2.St → XK}
theorem z_opS {r : L2.St → R2} (h : ta σ H fun x H1 => tb σ H1 fun y H2 => r σ x y H2 Q) : tOpS r ta tb σ H Q := h
theorem z_unS {r : L2.St → V → Hp → VK → Prop} (h : ta σ H fun x H1 => r σ x H1 Q) : tUnS r ta σ H Q := h
theorem z_own (h1 : H a = some (.ins C dx fs)) (h2 : H b = some (.ins C dy gs)) (q : sp [.ref a, .ref b] H Q (E σ)) : rOwn C sp E σ (.ref a) (.ref b) H Q := ⟨a, b, dx, dy, fs, gs, rfl, rfl, h1, h2, q⟩
theorem z_own1 (h1 : H a = some (.ins C dx fs)) (q : sp [.ref a] H Q (E σ)) : rOwn1 C sp E σ (.ref a) H Q := ⟨a, dx, fs, rfl, h1, q⟩
end
end Co

/-! an exception that leaves a list comprehension, also a nested one -/
namespace Xc
open PySem PySem.Spec PyProof.Rows L2 Z
section
variable {M : Model} {A : Around} {E : Value → Shared → Prop} {s : Shared} {env : Env}
/-- what a comprehension's run is to leave; the frame of its environment is told -/
def cpX (M : Model) (A : Around) (E : Value → Shared → Prop) (Q : Value → Shared → Prop) (acc : Value) (cenv : Env) (r : Result) (s' : Shared) : Prop :=
  match r with
  | .ok _ => ∃ m, s'.heap.Ns cenv.locals m ∧ ∀ h', Heap.SameBut cenv.locals s'.heap h' → Q acc { s' with heap := h' }
  | .error x => ∃ m, s'.heap.Ns cenv.locals m ∧ ∀ h', Heap.SameBut cenv.locals s'.heap h' → ∀ c' : Env, c'.frame = cenv.frame → wpAny M A (passOn "comprehension.variables-let-go" x c' : Sem Value) (fun _ _ => False) E { s' with heap := h' }
theorem comp_x {e : Expr} {scope : Scope} {pos : Pos} {newAcc first : Sem Value} {g : Comprehension} {gs : List Comprehension} {cl : List (Str × Addr)} {Q : Value → Shared → Prop}
    (hcl : clausesOf e = g :: gs) (hs : ∀ x, foldedSetIterable g.iter env x = pure x) (hclos : closureFor scope env = pure cl)
    (hkind : scope.kind = .function) (hnames : ∀ x ∈ scope.names, x.2 = .local → scope.names.lookup x.1 = some .local)
    (h : wpAny M A first (fun x s₁ => wpAny M A (pyIter x) (fun it s₂ => wpAny M A newAcc (fun acc s₃ =>
      wpAny M A (newFunctionEnv scope env.globals cl [] env.qual none .none (some env)) (fun cenv s₄ =>
        codeAny M A (.compStart e 0 it acc { cenv with scope := relabel scope env }) (cpX M A E Q acc cenv) s₄) E s₃) E s₂) E s₁) E s) :
    wpAny M A (comprehension e scope env pos newAcc false first none) Q E s := by
  unfold comprehension
  rw [hclos, hcl]
  refine wpAny_bind (wpAny_mono h (fun x s₁ h₁ => wpAny_bind (wpAny_standAt (wpAny_bind (wpAny_of_eq (hs x) (wpAny_bind (wpAny_holding (wpAny_mono h₁ (fun it s₂ h₂ =>
    wpAny_standIf (wpAny_bind (wpAny_mono h₂ (fun acc s₃ h₃ => wpAny_bind (wpAny_pure (wpAny_bind (wpAny_mono h₃ (fun cenv s₄ h₄ => ?_) fun _ _ h' => h')))) fun _ _ h' => h')))
      fun _ _ h' => h'))))))) fun _ _ h' => h')
  dsimp only
  have hv : ∀ x ∈ (scope.names.filter fun x => (x.2 == .local || x.2 == .cell) && x.1 != (".0" : Str)).reverse, x.2 = .local →
      Env.kindOf { cenv with scope := relabel scope env } x.1 = some .local := fun x hx hl => lookup_relabel_local (hnames x (List.mem_filter.mp (List.mem_reverse.mp hx)).1 hl)
  refine wpAny_holding (wpAny_bind (wpAny_attempt (wpAny_holding (wpAny_run (codeAny_mono h₄ fun r s' hr => ?_)))))
  cases r with
  | ok f =>
    obtain ⟨m, hn, hr⟩ := hr
    exact wpAny_bind (wpAny_holding (wpAny_comp_letGo (cenv := { cenv with scope := relabel scope env }) hkind _ s' m hv hn fun h' m' _ hs' => wpAny_pure (hr h' hs')))
  | error x =>
    obtain ⟨m, hn, hr⟩ := hr
    exact wpAny_bind (wpAny_holding (wpAny_comp_letGo (cenv := { cenv with scope := relabel scope env }) hkind _ s' m hv hn fun h' m' _ hs' => wpAny_mono (hr h' hs' _ rfl) (fun _ _ f => f.elim) fun _ _ y => y))
end

/-- an exception in the air of X, its frame at L -/
def XF (X : Cx) (L : Addr) (E : XK) (P : Heap → List Env → Addr → (Obj → Prop) → Addr → Heap → Prop) (u : Value) (s' : Shared) : Prop :=
  ∃ (a : Addr) (B : Heap) (sI : Shared) (pins : List (Addr × Obj)) (σ : L2.St) (H : Hp) (cls : Value) (d : Option Addr),
    u = .ref a ∧ Inv X pins σ H sI ∧ (∀ b o, sI.heap.get? b = some o → b ∉ frs X.stack → B.get? b = some o) ∧ sI.heap.UpToSlots s'.heap ∧
      P B X.stack a (Zc cls d) L s'.heap ∧ H a = none ∧ s'.os = sI.os ∧ AllBare s'.gens ∧ E cls d H
def Tk (X : Cx) (E : XK) : Prop := ∃ L D outs, X.stack = D :: outs ∧ D.frame = some L ∧ X.env.frame = some L ∧ ∀ u s', XF X L E Sky u s' → X.xe u s'
abbrev Held (B : Heap) (l : List Env) (a : Addr) (Z : Obj → Prop) (L : Addr) (h : Heap) : Prop := HandSPX.HeldZ B l a Z L h

section
variable {X : Cx} {E : XK} {L : Addr} {pins : List (Addr × Obj)} {σ : L2.St} {H : Hp} {s s' : Shared} {u : Value}
theorem tk_def (hs : X.stack = X.env :: X.outer) (hf : X.env.frame = some X.env.locals) (tk : Takes X (fun cls d _ H => E cls d H)) : Tk X E := ⟨X.env.locals, X.env, X.outer, hs, hf, hf, fun u s' h => tk u s' h⟩

/-- a call's exception -/
theorem XF.of_call (I : Inv X pins σ H s) (c : L2.CX X.prog X.w X.stack H s E u s') : XF X L E Sky u s' := by
  obtain ⟨a, B, H', cls, d, rfl, fl, hok, ub, na, os, ag, hE⟩ := c
  obtain ⟨G, gy, gn⟩ := restrict s'.heap fun b => (B.get? b).isSome || decide (b ∈ frs X.stack)
  have keepB : ∀ b o, B.get? b = some o → G.get? b = some o := fun b o e => (gy b (by simp [e])).trans (fl.1 b o e)
  have atF : ∀ b, b ∈ frs X.stack → G.get? b = s'.heap.get? b := fun b hb => gy b (by simp [hb])
  have inG : ∀ b o, G.get? b = some o → s'.heap.get? b = some o ∧ ((B.get? b).isSome = true ∨ b ∈ frs X.stack) := fun b o e => by
    by_cases q : ((B.get? b).isSome || decide (b ∈ frs X.stack)) = true
    · rw [gy b q] at e
      exact ⟨e, by simpa [Bool.or_eq_true] using q⟩
    · rw [gn b (by simpa using q)] at e; cases e
  have J : Inv X pins σ H' { s with heap := G, gens := s'.gens, drawn := s'.drawn, toks := s'.toks } := by
    refine I.call (ch := []) ⟨fun b o e n hb _ => keepB b o (ub.keep b o e n hb), fun b o e _ hb _ => ?_, fun b o e n _ => ub.free b o e n, fun b o e _ => ?_, ub.tups, ub.frzs, ub.tbls⟩ (hok.kept keepB) ag (fun _ z => nomatch z)
    · obtain ⟨sl, q⟩ := ub.slot b o e hb
      exact ⟨sl, (atF b hb).trans q⟩
    · by_cases hb : b ∈ frs X.stack
      · obtain ⟨sl, q⟩ := ub.slot b o e hb
        exact ⟨_, (atF b hb).trans q⟩
      · obtain ⟨o', q⟩ := ub.there b o e hb
        exact ⟨o', keepB b o' q⟩
  refine ⟨a, B, _, pins, σ, H', cls, d, rfl, J, fun b o e hb => ?_, Heap.UpToSlots.of_keeps fun b o e => (inG b o e).1, .inr (.inl fl), na, os, ag, hE⟩
  obtain ⟨e', h⟩ := inG b o e
  rcases h with h | h
  · obtain ⟨o', q⟩ := Option.isSome_iff_exists.mp h
    have z := fl.1 b o' q
    rw [e'] at z; cases z
    exact q
  · exact absurd h hb
theorem pass (tk : Tk X E) : Passes (L2.CX X.prog X.w) X E := fun pins σ H s e s' I c => by
  obtain ⟨L, D, outs, _, _, _, t⟩ := tk
  exact t e s' (XF.of_call I c)

/-- noted -/
theorem XF.noted {E₁ : Value → Shared → Prop} {D : Env} {outs : List Env} (hs : X.stack = D :: outs) (hD : D.frame = some L) (hf : X.env.frame = some L) (hA : X.A.frames = some X.stack) (x : XF X L E Sky u s') :
    wpAny (model X.prog X.w) X.A (noteFrame u X.env) (fun _ s'' => XF X L E Held u s'') E₁ s' := by
  obtain ⟨a, B, sI, pins, σ, H, cls, d, rfl, I, nb, up, sky, na, os, ag, hE⟩ := x
  have e : noteFrame (.ref a) X.env = noteFrame (.ref a) D := by unfold noteFrame PySem.frameOf; rw [hf, hD]
  rw [e]
  have hfr : X.A.frames = some (D :: outs) := by rw [hA, hs]
  have fin : ∀ h', HandSPX.HeldZ B X.stack a (Zc cls d) L h' → s'.heap.UpToSlots h' → XF X L E Held (.ref a) { s' with heap := h' } := fun h' hh up' => ⟨a, B, sI, pins, σ, H, cls, d, rfl, I, nb, up.trans up', hh, na, os, ag, hE⟩
  rw [hs] at sky fin
  rcases sky with ⟨hB, hn, hl, oe, vs, he, hz, hd, h1⟩ | fl | hh
  · exact HandSPX.look_newZ Zc.steady hfr hl hD he hB hn hd h1 hz fin
  · exact HandSPX.looks_onZ Zc.steady hfr hD fl fin
  · exact HandSPX.againZ hD hh.2.2.2 (fin s'.heap hh (Heap.UpToSlots.refl _))
/-- handed on -/
theorem XF.passed {E₁ : Value → Shared → Prop} {ce : Env} {what : String} (hf : ce.frame = some L) (x : XF X L E Held u s') (h : ∀ s'', XF X L E Sky u s'' → E₁ u s'') :
    wpAny (model X.prog X.w) X.A (passOn what u ce : Sem Value) (fun _ _ => False) E₁ s' := by
  obtain ⟨a, B, sI, pins, σ, H, cls, d, rfl, I, nb, up, hh, na, os, ag, hE⟩ := x
  unfold PySem.passOn
  obtain ⟨oe, vs, T, oT, ts, he, hz, hd, h1, hnT, hTe, hT, hdT, h3⟩ := hh.2.2.2
  refine wpAny_bind (wpAny_field he hd h1 ?_)
  rw [if_neg (show ¬ ((Value.ref T == Value.none) = true) from by simp)]
  rw [hf]
  refine wpAny_bind (HandSPX.setFlight_onZ hh fun h' hh' up' => ?_)
  exact wpAny_throw (h _ ⟨a, B, sI, pins, σ, H, cls, d, rfl, I, nb, up.trans up', .inr (.inr hh'), na, os, ag, hE⟩)
end
/-- the context of a block, with what is wanted of an exception -/
abbrev blkE (X : Cx) (s : Shared) (H : Hp) (scope : Scope) (cenv : Env) (fp : List Addr) (xe : Value → Shared → Prop) : Cx := { X with s_0 := s, H_0 := H, env := cenv, outer := X.stack, ex := fp, fn := fun x => scope.names.lookup x == some .cell, pn := [], xe := xe }
theorem toE {X : Cx} {s : Shared} {H : Hp} {scope : Scope} {ce : Env} {fp : List Addr} {xe : Value → Shared → Prop} {pins : List (Addr × Obj)} {σ : L2.St} {H' : Hp} {s' : Shared} (I : Inv (X.blk s H scope ce fp) pins σ H' s') : Inv (blkE X s H scope ce fp xe) pins σ H' s' :=
  ⟨⟨I.ok.mod, I.ok.kind, I.ok.glob, I.ok.blt, I.ok.above, I.ok.inj, I.ok.has, I.ok.cab, I.ok.hd, I.ok.frames, I.ok.stk, I.ok.exf, I.ok.bs, I.ok.bsz, I.ok.noex, I.ok.exfs, I.ok.funs, I.ok.frf⟩, I.os, I.bare, I.base, I.loc, I.cell, I.free, I.freeC, I.pin, I.hok, I.len⟩

theorem fun_hide {h h' B B' : Heap} {C : Addr} (sb : Heap.SameBut C h h') (gone : ∀ b, B.get? b = none → B'.get? b = none) : ∀ {l : List Env}, C ∉ frs l → h.FunFrames B l → h'.FunFrames B' l
  | [], _, _ => trivial
  | env :: l, hn, ⟨hk, ⟨L, o, hf, hb, ho, hd⟩, hr⟩ => by
    have hm : L ∈ frs (env :: l) := List.mem_filterMap.mpr ⟨env, List.mem_cons_self, hf⟩
    exact ⟨hk, ⟨L, o, hf, gone L hb, (sb.2 L fun z => hn (z ▸ hm)).trans ho, hd⟩, fun_hide sb gone (fun q => hn (by
      obtain ⟨e, he, q⟩ := List.mem_filterMap.mp q
      exact List.mem_filterMap.mpr ⟨e, List.mem_cons_of_mem _ he, q⟩)) hr⟩
/-- out of a block: the block's own names go -/
theorem XF.out {X : Cx} {E : XK} {L : Addr} {pins : List (Addr × Obj)} {σ : L2.St} {H : Hp} {s3 s' : Shared} {u : Value} {scope : Scope} {ce : Env} {fp : List Addr} {xe : Value → Shared → Prop} (I3 : Inv X pins σ H s3) (hC : s3.heap.objs.size ≤ ce.locals)
    (f3 : ∀ b ∈ fp, FpOk X pins H b ∧ b < s3.heap.objs.size) (x : XF (blkE X s3 H scope ce fp xe) L E Held u s') :
    (∃ m, s'.heap.Ns ce.locals m) ∧ ∀ h', Heap.SameBut ce.locals s'.heap h' → XF X L E Held u { s' with heap := h' } := by
  obtain ⟨a, B, sI, pn, σ', H', cls, d, rfl, I, nb, up, hh, na, os, ag, hE⟩ := x
  have J : Inv X pins σ H' sI := I3.call' (ch := fp) I.os I.base I.hok I.bare fun b hb => ⟨(f3 b hb).1.2.2.2.1, (f3 b hb).1.2.1, (f3 b hb).1.2.2.2.2.1, (f3 b hb).1.2.2.2.2.2⟩
  have nf : ce.locals ∉ frs X.stack := fun hm => by
    obtain ⟨_, o, e, _⟩ := I3.stack.mem hm
    exact absurd (Nat.lt_of_lt_of_le (Heap.lt_size e) hC) (Nat.lt_irrefl _)
  have nC : H' ce.locals = none := I.free
  obtain ⟨m, hn, _⟩ := I.loc
  have hn : sI.heap.Ns ce.locals m := hn
  obtain ⟨oc, es, ep, ho, hd, hk, hf⟩ := hn
  have hB : B.get? ce.locals = some oc := nb _ _ ho nf
  have hs' : s'.heap.get? ce.locals = some oc := hh.1 _ _ hB
  refine ⟨⟨m, oc, es, ep, hs', hd, hk, hf⟩, fun h' sb => ?_⟩
  have f := I3.fpOk (H' := H') hC nC
  obtain ⟨f0, f1, f2, f3', f4, f5⟩ := f
  have J2 : Inv X pins σ H' { sI with heap := PySem.W.hideAll sI.heap [ce.locals], toks := sI.toks } := J.turned (it := ce.locals) (fun b o hb e => PySem.W.hideAll_get _ e (by simpa using hb)) f0 f1 f3' f4 f5
  have aC : a ≠ ce.locals := fun z => by
    have q := hh.2.1
    rw [z, hB] at q; cases q
  have inB : ∀ b o, (PySem.W.hideAll B [ce.locals]).get? b = some o → B.get? b = some o ∧ b ≠ ce.locals := fun b o e => ⟨PySem.W.of_hideAll _ e, fun z => by
    rw [z, PySem.W.hideAll_none [ce.locals] (by simp)] at e; cases e⟩
  have inS : ∀ b o, (PySem.W.hideAll sI.heap [ce.locals]).get? b = some o → sI.heap.get? b = some o ∧ b ≠ ce.locals := fun b o e => ⟨PySem.W.of_hideAll _ e, fun z => by
    rw [z, PySem.W.hideAll_none [ce.locals] (by simp)] at e; cases e⟩
  have gone : ∀ b, B.get? b = none → (PySem.W.hideAll B [ce.locals]).get? b = none := fun b e => by
    cases q : (PySem.W.hideAll B [ce.locals]).get? b with
    | none => rfl
    | some o => rw [(inB b o q).1] at e; cases e
  have hh0 := hh
  obtain ⟨k1, k2, k3, k4⟩ := hh
  have k3 : s'.heap.FunFrames B X.stack := k3
  have k4 := k4
  refine ⟨a, PySem.W.hideAll B [ce.locals], _, pins, σ, H', cls, d, rfl, J2, fun b o e hb => ?_, fun b o e hnf => ?_, ⟨fun b o e => ?_, gone a k2, ?_, ?_⟩, na, os, ag, hE⟩
  · have e : (PySem.W.hideAll sI.heap [ce.locals]).get? b = some o := e
    obtain ⟨e1, e2⟩ := inS b o e
    exact PySem.W.hideAll_get _ (nb b o e1 hb) (by simpa using e2)
  · have e : (PySem.W.hideAll sI.heap [ce.locals]).get? b = some o := e
    obtain ⟨e1, e2⟩ := inS b o e
    obtain ⟨sl, q⟩ := up b o e1 hnf
    exact ⟨sl, (sb.2 b e2).trans q⟩
  · obtain ⟨e1, e2⟩ := inB b o e
    exact (sb.2 b e2).trans (k1 b o e1)
  · exact fun_hide sb gone nf k3
  · obtain ⟨oe, vs, T, oT, ts, he, hz, hd', h1, hnT, hTe, hT, hdT, h3⟩ := k4
    have tC : T ≠ ce.locals := fun z => by rw [z, hB] at hnT; cases hnT
    exact ⟨oe, vs, T, oT, ts, (sb.2 a aC).trans he, hz, hd', h1, gone T hnT, hTe, (sb.2 T tC).trans hT, hdT, h3⟩

section
variable {X : Cx} {E : XK}
/-- [elt for target in iter if ..], what may raise E inside -/
theorem pe_lcX {elt tg iter : Expr} {ifs : List Expr} {scope : Scope} {own : List (Str × Nat)} {pos : Pos} {wi : TI} {g : TG} {tt : TT} {te : TE} (tk : Tk X E) (hc : X.calm = true) (hN : X.N.Nodup) (hi : PI X tg iter wi) (ok : BlkOk X.N X.env.scope scope own)
    (hg : ∀ (s : Shared) (H : Hp) (C : Addr) (cl : List (Str × Addr)) (fp : List Addr) (xe : Value → Shared → Prop), Tk (blkE X s H scope (compEnvC scope cl C X.env) fp xe) E → PG (blkE X s H scope (compEnvC scope cl C X.env) fp xe) tg g)
    (ht : ∀ (s : Shared) (H : Hp) (C : Addr) (cl : List (Str × Addr)) (fp : List Addr) (xe : Value → Shared → Prop), Tk (blkE X s H scope (compEnvC scope cl C X.env) fp xe) E → PTs (blkE X s H scope (compEnvC scope cl C X.env) fp xe) ifs tt)
    (he : ∀ (s : Shared) (H : Hp) (C : Addr) (cl : List (Str × Addr)) (fp : List Addr) (xe : Value → Shared → Prop), Tk (blkE X s H scope (compEnvC scope cl C X.env) fp xe) E → PE (blkE X s H scope (compEnvC scope cl C X.env) fp xe) elt te)
    (hs : ∀ x, foldedSetIterable iter X.env x = pure x := by intro _; rfl) :
    PE X (.ListComp elt [⟨tg, iter, ifs, 0⟩] scope pos) (tLc wi g tt te (own.map (·.2))) := by
  refine ⟨fun pins s σ H Q I h => ?_⟩
  obtain ⟨L, Dm, outs, hstk, hDf, hXf, htk⟩ := tk
  rw [eval_ListComp]
  have hfree : ∀ y ∈ scope.names, y.2 = .free → ∃ c, X.env.cells.lookup y.1 = some c := fun y hy e => by
    rcases ok.free y hy e with k | k
    · exact I.ok.has _ (.inl k)
    · exact I.ok.has _ (.inr k)
  refine comp_x rfl hs (closure_ok hfree) ok.kind (fun y hy e => by rw [ok.uniq y hy, e])
    (thn (hi.run pins s σ H _ I h) fun xv s1 hx => thn hx fun itv s2 h2 => ?_)
  obtain ⟨it, fp, tn, J, H2, e, I2, T, st2, f2, q⟩ := h2
  subst e
  refine wpAny_newObj_type (newEnv_comp ?_) (by show 0 ≤ sizeLine; decide)
  generalize hD : s2.heap.objs.size = D
  have hDn : H2 D = none := I2.hok.fresh (Nat.le_of_eq hD)
  obtain ⟨W, ⟨m0, w0⟩, turn⟩ := q D hDn
  generalize hs3 : ({ s2 with heap := s2.heap.push { cls := .type "list", data := .seq ([] : List Value).toArray } } : Shared) = s3
  have I3 : Inv X pins σ (upd H2 D (.lst [])) s3 := by
    rw [← hs3]
    refine I2.laid (t' := s2.toks) (fun b o e => Heap.get?_push_of_some _ e) (Nat.le_of_eq hD) ⟨Nat.zero_le _, [], 0, .nil, ?_⟩
    rw [← hD]
    exact Heap.get?_push_size _ rfl
  have h3 : s3.heap = s2.heap.push { cls := .type "list", data := .seq ([] : List Value).toArray } := by rw [← hs3]
  have sz : ∀ b ∈ fp, b < s2.heap.objs.size := fun b hb => by
    obtain ⟨o, e, _⟩ := T.obj _ _ st2 b hb
    exact Heap.lt_size e
  have f3 : ∀ b ∈ fp, FpOk X pins (upd H2 D (.lst [])) b ∧ b < s3.heap.objs.size := fun b hb => by
    have hlt := sz b hb
    refine ⟨⟨?_, (f2 b hb).2⟩, by rw [h3, Heap.size_push]; exact Nat.lt_succ_of_lt hlt⟩
    rw [upd_ne (by rw [← hD]; exact Nat.ne_of_lt hlt)]
    exact (f2 b hb).1
  have st3 : tn 0 s3.heap := T.keep _ _ _ st2 fun b _ o e => by rw [h3]; exact Heap.get?_push_of_some _ e
  have I4 := block_start I3 ok hN f3
  generalize hcl : cellsFrom (s3.heap.objs.size + 1) scope.names (cloFrom X.env.cells scope.names []) = cl at I4
  have pg := hg s3 (upd H2 D (.lst [])) s3.heap.objs.size cl fp
  have pt := ht s3 (upd H2 D (.lst [])) s3.heap.objs.size cl fp
  have pe := he s3 (upd H2 D (.lst [])) s3.heap.objs.size cl fp
  show codeAny _ _ (.compStart (.ListComp elt [⟨tg, iter, ifs, 0⟩] scope pos) 0 (.ref it) (.ref D) (compEnvC scope cl s3.heap.objs.size X.env)) (cpX (model X.prog X.w) X.A X.xe (fun v s' => EP X pins σ Q v s') (.ref D) (newEnv scope s3.heap.objs.size X.env.globals cl X.env.qual none .none (some X.env) builtinsNs)) { s3 with heap := pushCells (s3.heap.push { cls := .type "dict", data := .dict #[] }) scope.names }
  have nL : (newEnv scope s3.heap.objs.size X.env.globals cl X.env.qual none .none (some X.env) builtinsNs).locals = s3.heap.objs.size := rfl
  have nF : (newEnv scope s3.heap.objs.size X.env.globals cl X.env.qual none .none (some X.env) builtinsNs).frame = some L := hXf
  generalize newEnv scope s3.heap.objs.size X.env.globals cl X.env.qual none .none (some X.env) builtinsNs = cn at nL nF ⊢
  have nfp : ∀ b ∈ fp, (upd H2 D (.lst [])) b = none := fun b hb => (f3 b hb).1.1
  have cF : (compEnvC scope cl s3.heap.objs.size X.env).frame = some L := hXf
  have cL : (compEnvC scope cl s3.heap.objs.size X.env).locals = s3.heap.objs.size := rfl
  generalize hce : compEnvC scope cl s3.heap.objs.size X.env = ce at I4 pg pt pe cF cL ⊢
  generalize hH3 : upd H2 D (.lst []) = H3 at I3 I4 pg pt pe w0 nfp f3
  generalize hs4 : ({ s3 with heap := pushCells (s3.heap.push { cls := .type "dict", data := .dict #[] }) scope.names } : Shared) = s4 at I4 ⊢
  have st4 : tn 0 s4.heap := T.keep _ _ _ st3 fun b _ o e => by rw [← hs4]; exact pushCells_keeps _ _ _ _ (Heap.get?_push_of_some _ e)
  generalize hR : cpX (model X.prog X.w) X.A X.xe (fun v s' => EP X pins σ Q v s') (.ref D) cn = R
  generalize hxe : notedBy (model X.prog X.w) X.A ce (fun e s' => R (.error e) s') = xe
  have tkb : Tk (blkE X s3 H3 scope ce fp xe) E := by
    refine ⟨L, Dm, outs, hstk, hDf, cF, fun u s' x => ?_⟩
    show xe u s'
    rw [← hxe]
    show wpAny _ _ (noteFrame u ce) _ _ s'
    refine wpAny_mono (XF.noted (X := blkE X s3 H3 scope ce fp xe) (E₁ := fun e s' => R (.error e) s') hstk hDf cF I3.ok.frames x) (fun _ s'' x' => ?_) fun _ _ z => z
    rw [← hR]
    obtain ⟨⟨m, hm⟩, ho⟩ := XF.out I3 (Nat.le_of_eq cL.symm) f3 x'
    rw [cL] at hm ho
    refine ⟨m, by rw [nL]; exact hm, fun h' sb c' hc' => ?_⟩
    rw [nL] at sb
    exact XF.passed (hc'.trans nF) (ho h' sb) (htk u)
  have pg := pg xe tkb
  have pt := pt xe tkb
  have pe := pe xe tkb
  have I4 := toE (xe := xe) I4
  have stat : ∀ {σ' : L2.St} {H' : Hp} {s' : Shared}, Inv (blkE X s3 H3 scope ce fp xe) [] σ' H' s' → (∀ b ∈ fp, H' b = none) → ∀ b ∈ fp, FpOk (blkE X s3 H3 scope ce fp xe) [] H' b := fun {σ' H' s'} I' hn b hb =>
    ⟨hn b hb, (I'.ok.exf b hb).1, I'.ok.exfs b hb, .inl hb, fun x c e => (I'.ok.exf b hb).2 x c e, fun p hp => absurd (show p ∈ ([] : List (Addr × Obj)) ++ [] from hp) (by simp)⟩
  have loop : codeAny (model X.prog X.w) X.A (.compLoop (.ListComp elt [⟨tg, iter, ifs, 0⟩] scope pos) 0 (.ref it) (.ref D) ce) R s4 := by
    refine compLoop_any (fun n s' => ∃ i H', Inv (blkE X s3 H3 scope ce fp xe) [] (wipe σ (own.map (·.2))) H' s' ∧ tn i s'.heap ∧ (∀ b ∈ fp, H' b = none) ∧ W i n H') ?_ m0 ⟨0, H3, I4, st4, nfp, w0⟩
    rintro n s5 ⟨i, H5, I5, st5, n5, w5⟩
    rw [hxe]
    rcases turn i n H5 w5 with ⟨stop, qq⟩ | ⟨go, Nx, hNx, step⟩
    · refine thnF (T.done (blkE X s3 H3 scope ce fp xe) rfl rfl rfl hc i [] s5 _ H5 (fun _ _ => False) I5 (stat I5 n5) st5 stop) fun r s6 ⟨hr, I6⟩ => ?_
      subst hr
      have I7 : Inv X pins σ H5 s6 := I3.call' (ch := fp) I6.os I6.base I6.hok I6.bare fun b hb => ⟨(f3 b hb).1.2.2.2.1, (f3 b hb).1.2.1, (f3 b hb).1.2.2.2.2.1, (f3 b hb).1.2.2.2.2.2⟩
      have nC : H5 s3.heap.objs.size = none := by
        have z : H5 ce.locals = none := I6.free
        rw [cL] at z
        exact z
      obtain ⟨m, hn, _⟩ := I6.loc
      have hn : s6.heap.Ns ce.locals m := hn
      rw [cL] at hn
      show R (.ok .next) s6
      rw [← hR]
      refine ⟨m, by rw [nL]; exact hn, fun h'' sb => ?_⟩
      rw [nL] at sb
      obtain ⟨f0, f1, f2, f3', f4, f5⟩ := I3.fpOk (H' := H5) (Nat.le_refl _) nC
      exact ⟨.ref D, H5, I7.turned (t' := s6.toks) (fun b o hb e => (sb.2 b hb).trans e) f0 f1 f3' f4 f5, rfl, qq⟩
    · refine thnF (T.item (blkE X s3 H3 scope ce fp xe) rfl rfl rfl hc i [] s5 _ H5 (fun _ _ => False) I5 (stat I5 n5) st5 go) fun r s6 ⟨u, hr, h6⟩ => ?_
      subst hr
      refine thnF h6 fun _ s7 ⟨x, H7, I7, r7, y7, st7, n7⟩ => ?_
      have I7' := I7.pinned (stat I7 n7) (T.obj _ _ st7)
      refine thn (pg.run _ s7 _ H7 x u _ I7' r7 (step x H7 y7)) fun _ s8 ⟨σ8, H8, I8, hw8, q8⟩ => ?_
      refine thn (pt.run _ s8 σ8 H8 _ I8 q8) fun b s9 ⟨H9, I9, q9⟩ => ?_
      have fin : ∀ {s' : Shared} {H' : Hp}, Inv (blkE X s3 H3 scope ce fp xe) ([] ++ pinsAt fp s7.heap) σ8 H' s' → Nx H' → ∃ m, m < n ∧ ∃ i H', Inv (blkE X s3 H3 scope ce fp xe) [] (wipe σ (own.map (·.2))) H' s' ∧ tn i s'.heap ∧ (∀ b ∈ fp, H' b = none) ∧ W i m H' := fun {s' H'} I' nx => by
        obtain ⟨m', hm, w'⟩ := hNx H' nx
        have pin' : ∀ b ∈ fp, ∀ o, s7.heap.get? b = some o → s'.heap.get? b = some o ∧ H' b = none := fun b hb o e =>
          let z := I'.pin (b, o) (List.mem_append_right _ (List.mem_append_right _ (mem_pinsAt hb e)))
          ⟨z.1, z.2.1⟩
        have hl : (wipe σ (own.map (·.2))).length = σ8.length := by rw [← hw8, wipe_length]
        refine ⟨m', hm, i + 1, H', (I'.unpinned (pins := [])).weak hl (fun j v e => ?_), T.keep _ _ _ st7 fun b hb o e => (pin' b hb o e).1, fun b hb => ?_, w'⟩
        · rw [← hw8] at e
          exact (wipe_some e).1
        · obtain ⟨o, e, _⟩ := T.obj _ _ st7 b hb
          exact (pin' b hb o e).2
      cases b with
      | false =>
        simp only [Bool.false_eq_true, if_false] at q9 ⊢
        exact fin I9 q9
      | true =>
        simp only [if_true] at q9 ⊢
        refine thn (pe.run _ s9 σ8 H9 _ I9 q9) fun z s10 ⟨yv, H10, I10, r10, acc, hD10, hz10, nx⟩ => ?_
        exact app_ok (X := blkE X s3 H3 scope ce fp xe) I10 hD10 hz10 r10 fun s11 I11 => fin I11 nx
  exact codeAny_compStart_list loop (T.self X.A 0 _ _ _ st4 loop)
end
section
variable {H : Hp} {Q : VK} {σ : L2.St} {wi : TI} {J : It} {m : Nat} {G : Hp → Prop} {Y : Nat → Hp → V → Hp → Prop} {g : TG} {te : TE} {vs : List Nat}
/-- a comprehension that can't come to its end: an element without P raises -/
theorem z_failW (P : Nat → Prop) (w : Walk J m G Y) (hm : m ≤ 1000) (hi : ∀ R : It → Hp → Prop, R J H → wi σ H R) (hG : ∀ H', Same H H' → G H') (no : ¬ ∀ i, i < m → P i)
    (hs : ∀ i x H' H2 (R : VK), i < m → Same H H' → Y i H' x H2 → (P i → ∀ v H3, Same H' H3 → R v H3) → g x (wipe σ vs) H2 fun σ2 H3 => wipe σ2 vs = wipe σ vs ∧ te σ2 H3 R) : tLc wi g tYes te vs σ H Q := by
  refine Cw.z_lcW w hi (fun i D acc H' => Same H H' ∧ H D = none ∧ ∀ k, k < i → P k) (fun D H' f s _ => ⟨s, f, fun k h => absurd h (Nat.not_lt_zero _)⟩) (fun i D acc H' h => hG _ h.1) (fun i x D acc H' H2 hi' hl' hD ⟨s', fD, hp⟩ y => ?_) (fun D acc H' fD hl' hD ⟨s', _, hp⟩ => absurd hp no)
  refine hs i x H' H2 _ hi' s' y fun p v H3 s3 => ?_
  refine z_lcB (s3 _ _ hD) hl' (by omega) fun H5 hD5 k5 e5 => ⟨fun b o h => ?_, fD, fun k hk => ?_⟩
  · rw [e5 b (ne_of_none h fD)]
    exact s3 _ _ (s' _ _ h)
  · rcases Nat.lt_succ_iff_lt_or_eq.mp hk with h | h
    · exact hp k h
    · exact h ▸ p
end
end Xc

namespace G
open PySem PySem.Spec PyProof.Rows L2 Z
def topS (i : Nat) : Stmt := PySem.Challenge.pw_fontwinding_k38_refused_changes.main.body.getD i (.Pass ⟨0, 0, 0, 0⟩)
abbrev s_blank_rows : Stmt := topS 9
abbrev s_Picture___init__ : Stmt := inClass (topS 12) 0
abbrev s_Picture_rows : Stmt := inClass (topS 12) 2
abbrev s_Picture_add_rows : Stmt := inClass (topS 12) 3
abbrev s_Picture___add__ : Stmt := inClass (topS 12) 8
abbrev s_Picture___sub__ : Stmt := inClass (topS 12) 9
abbrev s_sums : Stmt := topS 14
abbrev s_checked : Stmt := topS 15
abbrev s__law_cell : Stmt := topS 17
abbrev s__law_stream : Stmt := topS 18
abbrev s__law_draw : Stmt := topS 19
abbrev s__law_copy : Stmt := topS 20
abbrev s__law_at : Stmt := topS 21
abbrev s__law_weights : Stmt := topS 22
abbrev s__law_change : Stmt := topS 23
abbrev s__law_sum : Stmt := topS 24
abbrev s__law_fits : Stmt := topS 25
abbrev s__law_same_rows : Stmt := topS 26
abbrev s__law_added : Stmt := topS 27
abbrev s__law_operated : Stmt := topS 28
abbrev s__law_operator_is_right : Stmt := topS 29
abbrev s_law : Stmt := topS 30
theorem sc_blank_rows : FnScope ["_"] [] (defScope s_blank_rows) := ⟨rfl, rfl, rfl, by decide +kernel, rfl, by decide +kernel, by decide +kernel⟩
theorem sc_Picture___init__ : FnScope ["self"] ["self"] (defScope s_Picture___init__) := ⟨rfl, rfl, rfl, by decide +kernel, rfl, by decide +kernel, by decide +kernel⟩
theorem sc_Picture_rows : FnScope ["self", "row"] ["self"] (defScope s_Picture_rows) := ⟨rfl, rfl, rfl, by decide +kernel, rfl, by decide +kernel, by decide +kernel⟩
theorem sc_Picture_add_rows : FnScope ["self", "rows", "factor"] ["self", "rows", "factor"] (defScope s_Picture_add_rows) := ⟨rfl, rfl, rfl, by decide +kernel, rfl, by decide +kernel, by decide +kernel⟩
theorem sc_Picture___add__ : FnScope ["self", "other", "picture"] ["self", "other"] (defScope s_Picture___add__) := ⟨rfl, rfl, rfl, by decide +kernel, rfl, by decide +kernel, by decide +kernel⟩
theorem sc_Picture___sub__ : FnScope ["self", "other", "picture"] ["self", "other"] (defScope s_Picture___sub__) := ⟨rfl, rfl, rfl, by decide +kernel, rfl, by decide +kernel, by decide +kernel⟩
theorem sc_sums : FnScope ["rows", "others", "factor", "item", "addend", "row", "other"] ["rows", "others", "factor"] (defScope s_sums) := ⟨rfl, rfl, rfl, by decide +kernel, rfl, by decide +kernel, by decide +kernel⟩
theorem sc_checked : FnScope ["weight"] ["weight"] (defScope s_checked) := ⟨rfl, rfl, rfl, by decide +kernel, rfl, by decide +kernel, by decide +kernel⟩
theorem sc__law_cell : FnScope ["script", "k"] ["script", "k"] (defScope s__law_cell) := ⟨rfl, rfl, rfl, by decide +kernel, rfl, by decide +kernel, by decide +kernel⟩
theorem sc__law_stream : FnScope ["cell"] ["cell"] (defScope s__law_stream) := ⟨rfl, rfl, rfl, by decide +kernel, rfl, by decide +kernel, by decide +kernel⟩
theorem sc__law_draw : FnScope ["stream", "size", "drawn", "mixed"] ["stream", "size"] (defScope s__law_draw) := ⟨rfl, rfl, rfl, by decide +kernel, rfl, by decide +kernel, by decide +kernel⟩
theorem sc__law_copy : FnScope ["rows", "row"] ["rows"] (defScope s__law_copy) := ⟨rfl, rfl, rfl, by decide +kernel, rfl, by decide +kernel, by decide +kernel⟩
theorem sc__law_at : FnScope ["stream"] ["stream"] (defScope s__law_at) := ⟨rfl, rfl, rfl, by decide +kernel, rfl, by decide +kernel, by decide +kernel⟩
theorem sc__law_weights : FnScope ["stream", "values", "value", "rows", "row", "k", "column"] ["stream"] (defScope s__law_weights) := ⟨rfl, rfl, rfl, by decide +kernel, rfl, by decide +kernel, by decide +kernel⟩
theorem sc__law_change : FnScope ["stream", "is_picture", "values", "value", "rows", "row", "k", "column"] ["stream", "is_picture"] (defScope s__law_change) := ⟨rfl, rfl, rfl, by decide +kernel, rfl, by decide +kernel, by decide +kernel⟩
theorem sc__law_sum : FnScope ["rows", "other", "times", "column", "row"] ["rows", "other", "times"] (defScope s__law_sum) := ⟨rfl, rfl, rfl, by decide +kernel, rfl, by decide +kernel, by decide +kernel⟩
theorem sc__law_fits : FnScope ["rows", "row", "item"] ["rows"] (defScope s__law_fits) := ⟨rfl, rfl, rfl, by decide +kernel, rfl, by decide +kernel, by decide +kernel⟩
theorem sc__law_same_rows : FnScope ["actual", "expected", "row", "item"] ["actual", "expected"] (defScope s__law_same_rows) := ⟨rfl, rfl, rfl, by decide +kernel, rfl, by decide +kernel, by decide +kernel⟩
theorem sc__law_added : FnScope ["picture", "rows", "times", "e"] ["picture", "rows", "times"] (defScope s__law_added) := ⟨rfl, rfl, rfl, by decide +kernel, rfl, by decide +kernel, by decide +kernel⟩
theorem sc__law_operated : FnScope ["first", "second", "times", "e"] ["first", "second", "times"] (defScope s__law_operated) := ⟨rfl, rfl, rfl, by decide +kernel, rfl, by decide +kernel, by decide +kernel⟩
theorem sc__law_operator_is_right : FnScope ["first", "second", "rows", "change", "times", "told", "actual", "expected"] ["first", "second", "rows", "change", "times"] (defScope s__law_operator_is_right) := ⟨rfl, rfl, rfl, by decide +kernel, rfl, by decide +kernel, by decide +kernel⟩
theorem sc_law : FnScope ["script", "stream", "rows", "picture", "k", "cells", "kind", "change", "other", "times", "expected", "told"] ["script"] (defScope s_law) := ⟨rfl, rfl, rfl, by decide +kernel, rfl, by decide +kernel, by decide +kernel⟩
structure Txt (K : PySem.W.Frag) (mg : Str → Option Value) (A : Nat → Addr) (D : Nat → FuncData) : Prop where
  F_blank_rows : Fun K "blank_rows" "blank_rows" s_blank_rows (A 4) (D 4)
  m_blank_rows : mg "blank_rows" = some (.ref (A 4))
  b_blank_rows : Binds K (D 4) [] []
  F_Picture___init__ : Fun K "__init__" "Picture.__init__" s_Picture___init__ (A 5) (D 5)
  b_Picture___init__ : Binds K (D 5) ["self"] []
  F_Picture_rows : Fun K "rows" "Picture.rows" s_Picture_rows (A 6) (D 6)
  m_Picture_rows : Meth K (A 3) "rows" (A 6)
  b_Picture_rows : Binds K (D 6) ["self"] []
  F_Picture_add_rows : Fun K "add_rows" "Picture.add_rows" s_Picture_add_rows (A 7) (D 7)
  m_Picture_add_rows : Meth K (A 3) "add_rows" (A 7)
  b_Picture_add_rows : ∃ ds, Vals [.int 1] ds ∧ Binds K (D 7) ["self", "rows", "factor"] ds
  k_Picture_add_rows_factor : KBn K (D 7) ["self", "rows", "factor"] 2 ["factor"] (fun us ws => us ++ ws) (fun vs zs => vs ++ zs)
  F_Picture___add__ : Fun K "__add__" "Picture.__add__" s_Picture___add__ (A 8) (D 8)
  m_Picture___add__ : Meth K (A 3) "__add__" (A 8)
  b_Picture___add__ : Binds K (D 8) ["self", "other"] []
  F_Picture___sub__ : Fun K "__sub__" "Picture.__sub__" s_Picture___sub__ (A 9) (D 9)
  m_Picture___sub__ : Meth K (A 3) "__sub__" (A 9)
  b_Picture___sub__ : Binds K (D 9) ["self", "other"] []
  F_sums : Fun K "sums" "sums" s_sums (A 10) (D 10)
  m_sums : mg "sums" = some (.ref (A 10))
  b_sums : Binds K (D 10) ["rows", "others", "factor"] []
  F_checked : Fun K "checked" "checked" s_checked (A 11) (D 11)
  m_checked : mg "checked" = some (.ref (A 11))
  b_checked : Binds K (D 11) ["weight"] []
  F__law_cell : Fun K "_law_cell" "_law_cell" s__law_cell (A 12) (D 12)
  m__law_cell : mg "_law_cell" = some (.ref (A 12))
  b__law_cell : Binds K (D 12) ["script", "k"] []
  F__law_stream : Fun K "_law_stream" "_law_stream" s__law_stream (A 13) (D 13)
  m__law_stream : mg "_law_stream" = some (.ref (A 13))
  b__law_stream : Binds K (D 13) ["cell"] []
  F__law_draw : Fun K "_law_draw" "_law_draw" s__law_draw (A 14) (D 14)
  m__law_draw : mg "_law_draw" = some (.ref (A 14))
  b__law_draw : Binds K (D 14) ["stream", "size"] []
  F__law_copy : Fun K "_law_copy" "_law_copy" s__law_copy (A 15) (D 15)
  m__law_copy : mg "_law_copy" = some (.ref (A 15))
  b__law_copy : Binds K (D 15) ["rows"] []
  F__law_at : Fun K "_law_at" "_law_at" s__law_at (A 16) (D 16)
  m__law_at : mg "_law_at" = some (.ref (A 16))
  b__law_at : Binds K (D 16) ["stream"] []
  F__law_weights : Fun K "_law_weights" "_law_weights" s__law_weights (A 17) (D 17)
  m__law_weights : mg "_law_weights" = some (.ref (A 17))
  b__law_weights : Binds K (D 17) ["stream"] []
  F__law_change : Fun K "_law_change" "_law_change" s__law_change (A 18) (D 18)
  m__law_change : mg "_law_change" = some (.ref (A 18))
  b__law_change : Binds K (D 18) ["stream", "is_picture"] []
  F__law_sum : Fun K "_law_sum" "_law_sum" s__law_sum (A 19) (D 19)
  m__law_sum : mg "_law_sum" = some (.ref (A 19))
  b__law_sum : Binds K (D 19) ["rows", "other", "times"] []
  F__law_fits : Fun K "_law_fits" "_law_fits" s__law_fits (A 20) (D 20)
  m__law_fits : mg "_law_fits" = some (.ref (A 20))
  b__law_fits : Binds K (D 20) ["rows"] []
  F__law_same_rows : Fun K "_law_same_rows" "_law_same_rows" s__law_same_rows (A 21) (D 21)
  m__law_same_rows : mg "_law_same_rows" = some (.ref (A 21))
  b__law_same_rows : Binds K (D 21) ["actual", "expected"] []
  F__law_added : Fun K "_law_added" "_law_added" s__law_added (A 22) (D 22)
  m__law_added : mg "_law_added" = some (.ref (A 22))
  b__law_added : Binds K (D 22) ["picture", "rows", "times"] []
  F__law_operated : Fun K "_law_operated" "_law_operated" s__law_operated (A 23) (D 23)
  m__law_operated : mg "_law_operated" = some (.ref (A 23))
  b__law_operated : Binds K (D 23) ["first", "second", "times"] []
  F__law_operator_is_right : Fun K "_law_operator_is_right" "_law_operator_is_right" s__law_operator_is_right (A 24) (D 24)
  m__law_operator_is_right : mg "_law_operator_is_right" = some (.ref (A 24))
  b__law_operator_is_right : Binds K (D 24) ["first", "second", "rows", "change", "times"] []
  F_law : Fun K "law" "law" s_law (A 25) (D 25)
  m_law : mg "law" = some (.ref (A 25))
  b_law : Binds K (D 25) ["script"] []
  q_Picture : Cls K (A 3)
  g_Picture : mg "Picture" = some (.ref (A 3))
  M_Picture : Mk K (A 3) (A 5)
  nf_Picture__weights : NoAttr K (A 3) "_weights"
  sf_Picture : PySem.W.selfFirst K (A 3) = true
  ic_Picture : PySem.W.findIn K (.ref (A 3)) "__class__" = some (some (.builtin "object.__class__"))
  im_Picture : PySem.W.mroIn K (A 3) (.type "object") = some true
  oc_g : PySem.W.specialIn K (.builtin "object.__class__") "__get__" = some (some (.builtin "getset_descriptor.__get__"))
  oc_t : PySem.W.takesIn K (.builtin "object.__class__") = some true
  x_FontError : Z.ExcX K mg "FontError" (A 0)
  x_TooGreat : Z.ExcX K mg "TooGreat" (A 1)
  x_OutOfRange : Z.ExcX K mg "OutOfRange" (A 2)
  e_FontError_FontError : PySem.W.subIn K (.ref (A 0)) (.ref (A 0)) = some true
  e_FontError_TooGreat : PySem.W.subIn K (.ref (A 0)) (.ref (A 1)) = some false
  e_FontError_OutOfRange : PySem.W.subIn K (.ref (A 0)) (.ref (A 2)) = some false
  e_TooGreat_FontError : PySem.W.subIn K (.ref (A 1)) (.ref (A 0)) = some true
  e_TooGreat_TooGreat : PySem.W.subIn K (.ref (A 1)) (.ref (A 1)) = some true
  e_TooGreat_OutOfRange : PySem.W.subIn K (.ref (A 1)) (.ref (A 2)) = some false
  e_OutOfRange_FontError : PySem.W.subIn K (.ref (A 2)) (.ref (A 0)) = some true
  e_OutOfRange_TooGreat : PySem.W.subIn K (.ref (A 2)) (.ref (A 1)) = some false
  e_OutOfRange_OutOfRange : PySem.W.subIn K (.ref (A 2)) (.ref (A 2)) = some true
  z_ValueError : mg "ValueError" = none
  z_bool : mg "bool" = none
  z_int : mg "int" = none
  z_isinstance : mg "isinstance" = none
  z_len : mg "len" = none
  z_list : mg "list" = none
  z_range : mg "range" = none
  z_zip : mg "zip" = none
  c_SIZE : ∃ u, mg "SIZE" = some u ∧ RelV (.int (48)) u
  c_GREATEST_WEIGHT : ∃ u, mg "GREATEST_WEIGHT" = some u ∧ RelV (.int (9999)) u
local macro_rules | `(tactic| walk_at "z1") => `(tactic| first
  | with_reducible refine z_seq ?_
  | with_reducible refine z_asg ?_
  | with_reducible refine z_asgS ?_
  | with_reducible refine z_ifs ?_
  | ((with_reducible refine' z_var ?h ?_); case h => with_unfolding_all exact rfl)
  | with_reducible refine z_c ?_
  | with_reducible refine z_op ?_
  | with_reducible refine z_un ?_
  | with_reducible refine z_I0 ?_
  | ((with_reducible refine z_I ?h ?_); case h => first | (exact Or.inr ⟨by decide, by decide⟩) | (exact Or.inl ⟨by decide, by decide⟩) | (show (0 : Int) < _; first | assumption | omega))
  | with_reducible refine z_U ?_
  | with_reducible refine z_eqI ?_
  | with_reducible refine z_neI ?_
  | with_reducible refine z_test ?_
  | with_reducible refine z_tB ?_
  | with_reducible refine z_bl ?_
  | with_reducible refine z_notT ?_
  | with_reducible refine z_andT ?_
  | with_reducible refine z_orT ?_
  | with_reducible refine z_andV ?_
  | with_reducible refine z_orV ?_
  | with_reducible refine z_notV ?_
  | with_reducible refine z_ifE ?_
  | with_reducible refine z_ifT ?_
  | with_reducible refine z_ifF ?_
  | with_reducible refine z_ifNT ?_
  | with_reducible refine z_ifNF ?_
  | with_reducible refine z_chain ?_
  | with_reducible refine z_nil ?_
  | with_reducible refine z_cons ?_
  | with_reducible refine z_tup ?_
  | with_reducible refine z_lst ?_
  | with_reducible refine z_cb ?_
  | with_reducible refine z_call ?_
  | with_reducible refine z_callS ?_
  | with_reducible refine z_int1 ?_
  | with_reducible refine z_int1b ?_
  | with_reducible refine z_abs ?_
  | with_reducible refine z_gcd ?_
  | with_reducible refine z_ret ?_
  | with_reducible refine z_retN ?_
  | with_reducible refine z_drop ?_
  | with_reducible refine z_next ?_
  | with_reducible refine z_brk ?_
  | with_reducible refine z_cont ?_
  | with_reducible refine z_par ?_
  | with_reducible refine z_two ?_
  | with_reducible refine z_asgT ?_
  | with_reducible refine z_sl ?_
  | with_reducible refine z_noPart ?_
  | with_reducible refine z_part ?_
  | with_reducible refine z_partI ?_
  | with_reducible refine z_gName ?_
  | with_reducible refine z_gcons ?_
  | with_reducible refine z_gnil ?_
  | ((with_reducible refine' z_up ?h ?hm ?_); (case h => walk_at "sq"); (case hm => exact rfl))
  | ((with_reducible refine' z_gT ?h ?hm ?_); (case h => walk_at "sq"); (case hm => exact rfl))
  | with_reducible refine z_isII ?_
  | with_reducible refine z_isNN ?_
  | with_reducible refine z_isNR ?_
  | with_reducible refine z_notNN ?_
  | with_reducible refine z_notNR ?_
  | with_reducible refine z_isIB ?_
  | with_reducible refine z_isBB ?_
  | ((with_reducible refine' z_isT ?h ?_); (case h => walk_at "sq"))
  | ((with_reducible refine' z_isLL ?h ?_); case h => assumption)
  | ((with_reducible refine z_newT ?h ?_); case h => exact Nat.le_of_ble_eq_true rfl)
  | ((with_reducible refine z_newL ?h ?_); case h => exact Nat.le_of_ble_eq_true rfl)
  | ((with_reducible refine' z_ixL ?h ?h2 ?_); (case h => walk_at "sq"); (case h2 => exact rfl))
  | ((with_reducible refine' z_ixT ?h ?h2 ?_); (case h => walk_at "sq"); (case h2 => exact rfl))
  | ((with_reducible refine' z_lenL ?h ?_); case h => walk_at "sq")
  | ((with_reducible refine' z_lenT ?h ?_); case h => walk_at "sq")
  | ((with_reducible refine z_ifYes ?h ?_); (case h => exact rfl))
  | ((with_reducible refine z_ifNo ?h ?_); (case h => exact rfl)))
local macro_rules | `(tactic| walk_at "sq") => `(tactic| first | assumption | exact Or.inl (Or.inl (by assumption)) | exact Or.inl (Or.inl upd_same))
local macro_rules | `(tactic| walk_at "z") => `(tactic| repeat (walk_at "z1"))
/-! ### promises -/
def sp__law_cell (K : PySem.W.Frag) : Sp := fun vs H Q _ => ∃ (l : Addr) (ns : List Int) (j : Nat), vs = [.ref l, .int (j : Int)] ∧ SqL K H l (ns.map V.int) ∧ ∀ v, Q (.int v) H
/-- a stream: three ints, whatever they are -/
def IsStm (H : Hp) (p : Addr) : Prop := ∃ a b m : Int, H p = some (.lst [.int a, .int b, .int m])
def sp__law_stream : Sp := fun vs H Q _ => ∃ c : Int, vs = [.int c] ∧ ∀ p H' a b m, H p = none → Same H H' → H' p = some (.lst [.int a, .int b, .int m]) → Q (.ref p) H'
def sp__law_draw : Sp := fun vs H Q _ => ∃ (p : Addr) (z : Int), vs = [.ref p, .int z] ∧ IsStm H p ∧ 0 < z ∧ z.natAbs < 2 ^ 1000 ∧ ∀ v a b m, 0 ≤ v → v < z → Q (.int v) (upd H p (.lst [.int a, .int b, .int m]))
section
theorem ok__law_cell {P : Program} {w : World} {K : PySem.W.Frag} {mg : Str → Option Value} {base : Heap} {A : Nat → Addr} {D : Nat → FuncData} (T : Txt K mg A D) : FnOk P w K mg base (L2.CX P w) 1 (A 12) (D 12) ["script", "k"] (sp__law_cell K) := by
  refine T.F__law_cell.okX sc__law_cell (fun vs H Q E h => ?_) (fun cdv A' outer s H vs Q E hr h => ?_)
  · obtain ⟨l, ns, j, rfl, _⟩ := h
    rfl
  obtain ⟨l, ns, j, rfl, hS, q⟩ := h
  refine ⟨_, (pss_cons (ps_if (pt_cmpR op_lt (pv 1) (pe_callB Z.c_len (by rfl) T.z_len (by decide +kernel) (pa_cons (pv 0) pa_nil)) (nomark _))
  (pss_one (ps_ret (pe_ix ix_list (pv 0) (pv 1) (fun _ _ => rfl))))
  pss_nil)
  (pss_one (ps_ret pe_int))), ?_⟩
  walk_at "z"
  refine z_if (fun hj => ?_) (fun _ => ?_)
  · walk_at "z"
    rw [List.length_map] at hj
    have hj' : j < ns.length := by omega
    refine z_ixL hS (v := .int ns[j]) (atI_nat (by rw [List.getElem?_map, List.getElem?_eq_getElem hj']; rfl)) (q _)
  · walk_at "z"
    exact q 0
theorem ok__law_stream {P : Program} {w : World} {K : PySem.W.Frag} {mg : Str → Option Value} {base : Heap} {A : Nat → Addr} {D : Nat → FuncData} (T : Txt K mg A D) : FnOk P w K mg base (L2.CX P w) 1 (A 13) (D 13) ["cell"] sp__law_stream := by
  refine T.F__law_stream.okX sc__law_stream (fun vs H Q E h => ?_) (fun cdv A' outer s H vs Q E hr h => ?_)
  · obtain ⟨c, rfl, _⟩ := h
    rfl
  obtain ⟨c, rfl, q⟩ := h
  refine ⟨_, (pss_cons (ps_if (pt_cmpR op_ge (pv 0) (Z.pe_powc (v := 1000000000000000000) ⟨by decide, by decide, by decide⟩ (by decide)) (nomark _))
  (pss_one (ps_ret (pe_lst (pa_cons (pv 0) (pa_cons pe_int (pa_cons (pe_op op_mod (pe_callTy Z.c_int (by rfl) T.z_int (by decide +kernel) (pa_cons (pv 0) pa_nil)) pe_int) pa_nil))))))
  pss_nil)
  (pss_one (ps_ret (pe_lst (pa_cons pe_int (pa_cons pe_int (pa_cons (pe_op op_mod (pe_callTy Z.c_int (by rfl) T.z_int (by decide +kernel) (pa_cons (pv 0) pa_nil)) pe_int) pa_nil))))))), ?_⟩
  walk_at "z"
  refine z_if (fun hj => ?_) (fun _ => ?_)
  · walk_at "z"
    exact fun p H' hp s h => q p H' _ _ _ hp s h
  · walk_at "z"
    exact fun p H' hp s h => q p H' _ _ _ hp s h
theorem ok__law_draw {P : Program} {w : World} {K : PySem.W.Frag} {mg : Str → Option Value} {base : Heap} {A : Nat → Addr} {D : Nat → FuncData} (T : Txt K mg A D) : FnOk P w K mg base (L2.CX P w) 1 (A 14) (D 14) ["stream", "size"] sp__law_draw := by
  refine T.F__law_draw.okX sc__law_draw (fun vs H Q E h => ?_) (fun cdv A' outer s H vs Q E hr h => ?_)
  · obtain ⟨p, z, rfl, _⟩ := h
    rfl
  obtain ⟨p, z, rfl, ⟨a, b, m, hp⟩, hz, hz2, q⟩ := h
  refine ⟨_, (pss_cons (ps_if (pt_cmpR op_gt (pe_ix ix_list (pv 0) pe_int (fun _ _ => rfl)) pe_int (nomark _))
  (pss_cons (ps_set (i := 2) sc__law_draw.nd rfl (.inl rfl) (pe_op op_mod (pe_callTy Z.c_int (by rfl) T.z_int (by decide +kernel) (pa_cons (pe_ix ix_list (pv 0) pe_int (fun _ _ => rfl)) pa_nil)) (pv 1)))
  (pss_cons (ps_asg (pe_op op_fdivW (pe_ix ix_list (pv 0) pe_int (fun _ _ => rfl)) (pv 1)) (pg_sub (pv 0) pe_int set_list))
  (pss_one (ps_ret (pv 2)))))
  pss_nil)
  (pss_cons (ps_asg (pe_op op_add (pe_ix ix_list (pv 0) pe_int (fun _ _ => rfl)) pe_int) (pg_sub (pv 0) pe_int set_list))
  (pss_cons (ps_set (i := 3) sc__law_draw.nd rfl (.inl rfl) (pe_op op_mod (pe_callTy Z.c_int (by rfl) T.z_int (by decide +kernel) (pa_cons (pe_op op_add (pe_op op_mul (pe_op op_add (pe_ix ix_list (pv 0) pe_int (fun _ _ => rfl)) pe_int) pe_int) (pe_op op_mul (pe_ix ix_list (pv 0) pe_int (fun _ _ => rfl)) pe_int)) pa_nil)) pe_int))
  (pss_cons (ps_set (i := 3) sc__law_draw.nd rfl (.inl rfl) (pe_op op_mod (pe_callTy Z.c_int (by rfl) T.z_int (by decide +kernel) (pa_cons (pe_op op_add (pe_op op_mulW (pv 3) (pv 3)) (pe_op op_mul (pe_ix ix_list (pv 0) pe_int (fun _ _ => rfl)) pe_int)) pa_nil)) pe_int))
  (pss_cons (ps_set (i := 3) sc__law_draw.nd rfl (.inl rfl) (pe_op op_mod (pe_callTy Z.c_int (by rfl) T.z_int (by decide +kernel) (pa_cons (pe_op op_add (pe_op op_mulW (pv 3) (pv 3)) (pe_op op_mul (pe_ix ix_list (pv 0) pe_int (fun _ _ => rfl)) pe_int)) pa_nil)) pe_int))
  (pss_one (ps_ret (pe_op op_mod (pe_callTy Z.c_int (by rfl) T.z_int (by decide +kernel) (pa_cons (pv 3) pa_nil)) (pv 1))))))))), ?_⟩
  walk_at "z"
  refine z_if (fun hj => ?_) (fun _ => ?_)
  · walk_at "z"
    refine z_I (wide_div hz hz2 (by decide) (by decide)) ?_
    walk_at "z"
    refine z_setL hp rfl ?_
    walk_at "z"
    exact q _ _ _ _ (Int.emod_nonneg _ (by omega)) (Int.emod_lt_of_pos _ hz)
  · walk_at "z"
    refine z_setL hp rfl ?_
    have hp1 : (upd H p (HO.lst ([V.int a, V.int b, V.int m].set (Int.toNat 1) (V.int (b + 1))))) p = some (.lst [V.int a, V.int (b + 1), V.int m]) := upd_same
    walk_at "z"
    refine z_I ?_ ?_
    · exact wide_mul (a := 32) (b := 32) (by omega) (by omega) (by decide) (by decide) (by decide)
    walk_at "z"
    refine z_I ?_ ?_
    · exact wide_mul (a := 32) (b := 32) (by omega) (by omega) (by decide) (by decide) (by decide)
    walk_at "z"
    exact q _ _ _ _ (Int.emod_nonneg _ (by omega)) (Int.emod_lt_of_pos _ hz)
end

/-! ### numbers in lowest terms -/
theorem gd_pos {n d : Int} (h : d ≠ 0) : 0 < gd n d := by
  unfold gd
  have : 0 < Nat.gcd n.natAbs d.natAbs := Nat.gcd_pos_of_pos_right _ (by omega)
  omega
theorem gd_dvd_l (n d : Int) : gd n d ∣ n := by
  unfold gd
  exact Int.dvd_trans (Int.natCast_dvd_natCast.mpr (Nat.gcd_dvd_left _ _)) (Int.natAbs_dvd_self)
theorem gd_dvd_r (n d : Int) : gd n d ∣ d := by
  unfold gd
  exact Int.dvd_trans (Int.natCast_dvd_natCast.mpr (Nat.gcd_dvd_right _ _)) (Int.natAbs_dvd_self)
theorem rd_pos {n d : Int} (h : d ≠ 0) : 0 < rd n d := by
  have g := gd_pos (n := n) h
  obtain ⟨k, hk⟩ := gd_dvd_r n d
  unfold rd
  split
  · rename_i hd
    have e : -d = gd n d * (-k) := by rw [Int.mul_neg, ← hk]
    rw [e, Int.mul_ediv_cancel_left _ (by omega)]
    have : ¬ 0 ≤ k := fun z => by have := Int.mul_nonneg (Int.le_of_lt g) z; omega
    omega
  · rename_i hd
    have e : d / gd n d = k := Int.ediv_eq_of_eq_mul_right (by omega) hk
    rw [e]
    have : ¬ k ≤ 0 := fun z => by have := Int.mul_nonpos_of_nonneg_of_nonpos (Int.le_of_lt g) z; omega
    omega
/-- what the program divides: by the negative of the common divisor where d is negative -/
theorem fdiv_neg {n g : Int} (hg : 0 < g) (h : g ∣ n) : Int.fdiv n (-g) = -n / g := by
  obtain ⟨k, rfl⟩ := h
  rw [show g * k = (-g) * (-k) by rw [Int.neg_mul_neg], Int.mul_fdiv_cancel_left _ (by omega), Int.neg_mul_neg, show -(g * k) = g * (-k) by rw [Int.mul_neg], Int.mul_ediv_cancel_left _ (by omega)]
theorem fdiv_pos {n g : Int} (hg : 0 < g) : Int.fdiv n g = n / g := Int.fdiv_eq_ediv_of_nonneg _ (by omega)
theorem gd_log {n d : Int} {k : Nat} (h : d ≠ 0) (hd : d.natAbs < 2 ^ k) : (gd n d).natAbs < 2 ^ k := by
  have : Nat.gcd n.natAbs d.natAbs ≤ d.natAbs := Nat.gcd_le_right _ (by omega)
  unfold gd
  omega
theorem cfd {j : Int} (h : j ≠ 0) (hj : j.natAbs < 2 ^ 1000) : CFd 0 j := ⟨h, Nat.lt_of_lt_of_le (PySem.Flt.log2_lt_of (by decide) hj) (by decide)⟩
theorem lt4 {a : Nat} (h : a < 2 ^ 400) : a < 2 ^ 1000 := Nat.lt_of_lt_of_le h (Nat.pow_le_pow_right (by decide) (by decide))
theorem lt1000 {a : Nat} (h : a < 2 ^ 100) : a < 2 ^ 1000 := Nat.lt_of_lt_of_le h (Nat.pow_le_pow_right (by decide) (by decide))



/-! ### the draws of a law: the heap H0 stands, a stream stands at p -/
structure Sd (H0 H : Hp) (p : Addr) : Prop where
  same : Same H0 H
  fresh : H0 p = none
  stm : IsStm H p
theorem Sd.mk0 {H H' : Hp} {p : Addr} {a b m : Int} (h : H p = none) (s : Same H H') (e : H' p = some (.lst [.int a, .int b, .int m])) : Sd H H' p := ⟨s, h, a, b, m, e⟩
theorem Sd.mono {H0 H H' : Hp} {p : Addr} (S : Sd H0 H p) (s : Same H H') : Sd H0 H' p := by
  obtain ⟨a, b, m, e⟩ := S.stm
  exact ⟨S.same.trans s, S.fresh, a, b, m, s _ _ e⟩
theorem nx {H0 H : Hp} {p : Addr} {z : Int} {Q : VK} {E : XK} (S : Sd H0 H p) (hz : 0 < z) (hz2 : z.natAbs < 2 ^ 1000) (q : ∀ v H', 0 ≤ v → v < z → Sd H0 H' p → (∀ b, b ≠ p → H' b = H b) → Q (.int v) H') : sp__law_draw [.ref p, .int z] H Q E := by
  refine ⟨p, z, rfl, S.stm, hz, hz2, fun v a b m h0 h1 => q v _ h0 h1 ⟨fun c o e => ?_, S.fresh, a, b, m, upd_same⟩ fun b hb => upd_ne hb⟩
  rw [upd_ne (ne_of_none e S.fresh)]
  exact S.same c o e
theorem Sd.ext {H0 H : Hp} {p q : Addr} {o : HO} (S : Sd H0 H p) (h : H q = none) : Sd H0 (upd H q o) p := by
  obtain ⟨a, b, m, hp⟩ := S.stm
  exact ⟨S.same.trans (same_upd h), S.fresh, a, b, m, by rw [upd_ne (ne_of_none hp h)]; exact hp⟩
theorem kp_refl {p : Addr} {H : Hp} : Kp p H H := fun _ _ _ e => e
theorem _root_.Z.Kp.trans' {p : Addr} {H H1 H2 : Hp} (a : Kp p H H1) (b : Kp p H1 H2) : Kp p H H2 := fun c o h e => b c o h (a c o h e)
theorem kp_eq {p : Addr} {H H' : Hp} (k : ∀ b, b ≠ p → H' b = H b) : Kp p H H' := fun b o h e => by
  rw [k b h]
  exact e
theorem kp_of {p : Addr} {H H' : Hp} (s : Same H H') : Kp p H H' := fun b x _ e => s b x e
theorem Sd.ne {H0 H : Hp} {p q : Addr} {xs : List V} (S : Sd H0 H p) (h : H q = some (.tup xs)) : q ≠ p := by
  obtain ⟨_, _, _, e⟩ := S.stm
  exact ne_of h e (by intro z; cases z)
theorem Sd.ne0 {H0 H : Hp} {p q : Addr} (S : Sd H0 H p) (h : H q = none) : q ≠ p := by
  obtain ⟨_, _, _, e⟩ := S.stm
  exact Ne.symm (ne_of_none e h)
theorem lt400 {a : Nat} (h : a < 2 ^ 100) : a < 2 ^ 400 := Nat.lt_of_lt_of_le h (Nat.pow_le_pow_right (by decide) (by decide))
theorem kp_sd {H0 H H' : Hp} {p : Addr} {K : PySem.W.Frag} {v : V} {d : PyData} (S : Sd H0 H p) (k : Kp p H H') (t : tupOnly d = true) (h : Dp K H v d) : Dp K H' v d := by
  obtain ⟨a, b, m, e⟩ := S.stm
  exact dp_kp k e t h
/-! ### the four operations, and comparing -/






/-! ### [draw(stream, z) for k in range(m)] -/
theorem z_draws {H0 H : Hp} {p : Addr} {z : Int} {m k : Nat} {vs : List Nat} {te : TE} {σ : L2.St} {Q : VK} {v : Int} (S : Sd H0 H p) (hv : v = (m : Int)) (hm : m ≤ 500) (hz : 0 < z) (hz2 : z.natAbs < 2 ^ 1000) (hw : ∀ x, wipe ((wipe σ vs).set k (some x)) vs = wipe σ vs)
    (hte : ∀ (i : Nat) (H' : Hp) (R : VK), (∀ E, sp__law_draw [.ref p, .int z] H' R E) → te ((wipe σ vs).set k (some (.int (i : Int)))) H' R)
    (q : ∀ (D : Addr) (H' : Hp) (ns : List Int), H D = none → D ≠ p → Sd H0 H' p → Kp p H H' → H' D = some (.lst (ns.map V.int)) → ns.length = m → (∀ x ∈ ns, 0 ≤ x ∧ x < z) → Q (.ref D) H') : LcRE (gName k) tYes te vs σ Q [.int v] H := by
  subst hv
  refine z_lcRr m (by omega) hw (fun i D acc H' => Sd H0 H' p ∧ Kp p H H' ∧ D ≠ p ∧ H D = none ∧ ∃ ns : List Int, acc = ns.map V.int ∧ ∀ x ∈ ns, 0 ≤ x ∧ x < z)
    (fun D H' f s e => ⟨S.mono s, kp_of s, S.ne0 f, f, [], rfl, fun x hx => nomatch hx⟩) (fun i D acc H' hi hl hD ⟨S', k', ne, f, ns, ea, hb⟩ => ?_)
    (fun D acc H' f hl hD ⟨S', k', ne, _, ns, ea, hb⟩ => q D H' ns f ne S' k' (by rw [hD, ea]) (by rw [← hl, ea, List.length_map]) hb)
  refine hte i H' _ fun E => nx S' hz hz2 fun x H2 x0 x1 S2 e2 => ?_
  have hD2 : H2 D = some (.lst acc) := (e2 D ne).trans hD
  refine z_lcB hD2 hl (by omega) fun H3 hD3 k3 e3 => ⟨?_, ?_, ne, f, ns ++ [x], by rw [ea, List.map_append]; rfl, fun y hy => ?_⟩
  · obtain ⟨a, b, c, st⟩ := S2.stm
    refine ⟨fun b o h => ?_, S2.fresh, a, b, c, by rw [e3 p ne.symm]; exact st⟩
    have hne : b ≠ D := fun z => by
      have h1 := S.same _ _ h
      rw [z, f] at h1
      cases h1
    rw [e3 b hne]
    exact S2.same _ _ h
  · intro b o hb h
    have hne : b ≠ D := fun z => by
      rw [z, f] at h
      cases h
    rw [e3 b hne, e2 b hb]
    exact k' b o hb h
  · rcases List.mem_append.mp hy with h | h
    · exact hb y h
    · rw [List.mem_singleton.mp h]
      exact ⟨x0, x1⟩
theorem Sd.put {H0 H : Hp} {p l : Addr} {o : HO} (S : Sd H0 H p) (h : H0 l = none) (ne : l ≠ p) : Sd H0 (upd H l o) p := by
  obtain ⟨a, b, c, e⟩ := S.stm
  exact ⟨fun x y h' => by rw [upd_ne (ne_of_none h' h)]; exact S.same _ _ h', S.fresh, a, b, c, by rw [upd_ne ne.symm]; exact e⟩
theorem kp_put {p l : Addr} {H H' : Hp} {o : HO} (k : Kp p H H') (h : H l = none) : Kp p H (upd H' l o) := fun b x hb e => by
  rw [upd_ne (ne_of_none e h)]
  exact k b x hb e
theorem kp_none {p a : Addr} {H H' : Hp} (k : Kp p H H') (h : H' a = none) (ne : a ≠ p) : H a = none := by
  cases z : H a with
  | none => rfl
  | some o =>
    have := k _ _ ne z
    rw [h] at this
    cases this
theorem Sd.none0 {H0 H : Hp} {p l : Addr} (S : Sd H0 H p) (h : H l = none) : H0 l = none := by
  cases z : H0 l with
  | none => rfl
  | some o =>
    have := S.same _ _ z
    rw [h] at this
    cases this
local macro_rules | `(tactic| walk_at "z1") => `(tactic| first
  | with_reducible refine z_max2 ?_
  | with_reducible refine z_min2 ?_
  | with_reducible refine z_tru ?_
  | with_reducible refine Cw.z_fldE ?_
  | with_reducible refine Cw.z_sfldE ?_
  | with_reducible refine Cw.z_methE ?_
  | with_reducible refine Cw.z_methSE ?_
  | with_reducible refine Cw.z_methNSE ?_
  | with_reducible refine Cw.z_methNE ?_
  | with_reducible refine Cw.z_make ?_)
local macro_rules | `(tactic| walk_at "z1") => `(tactic| first
  | with_reducible refine Co.z_opS ?_
  | with_reducible refine Co.z_unS ?_)
/-! ### grid points -/
abbrev GP := Int × Int
def gD (z : GP) : PyData := .tuple [.int z.1, .int z.2]
/-- both parts within N -/
def Gb (N : Nat) (z : GP) : Prop := z.1.natAbs ≤ N ∧ z.2.natAbs ≤ N
theorem Gb.le {N M : Nat} {z : GP} (h : Gb N z) (l : N ≤ M) : Gb M z := ⟨Nat.le_trans h.1 l, Nat.le_trans h.2 l⟩
theorem dp_g {K : PySem.W.Frag} {H : Hp} {v : V} {z : GP} (h : Dp K H v (gD z)) : ∃ p, v = .ref p ∧ SqT K H p [.int z.1, .int z.2] := by
  obtain ⟨p, v1, v2, e, hS, h1, h2⟩ := dp_t2 h
  rw [dp_int h1, dp_int h2] at hS
  exact ⟨p, e, hS⟩
theorem dp_mkg {K : PySem.W.Frag} {H : Hp} {p : Addr} {x y : Int} (h : H p = some (.tup [.int x, .int y])) : Dp K H (.ref p) (gD (x, y)) := dp_mk h (.cons (.int _) (.cons (.int _) .nil))
theorem dp_seqg {K : PySem.W.Frag} {H : Hp} {p : Addr} {x y : Int} (h : SqT K H p [.int x, .int y]) : Dp K H (.ref p) (gD (x, y)) := .tup h (.cons (.int _) (.cons (.int _) .nil))
/-- values that stand for grid points -/
def Gs (K : PySem.W.Frag) (H : Hp) : List V → List GP → Prop
  | [], [] => True
  | v :: vs, z :: zs => Dp K H v (gD z) ∧ Gs K H vs zs
  | _, _ => False
section
variable {K : PySem.W.Frag} {H H' : Hp}
theorem Gs.len : ∀ {vs : List V} {zs : List GP}, Gs K H vs zs → vs.length = zs.length
  | [], [], _ => rfl
  | _ :: _, _ :: _, h => congrArg (· + 1) (Gs.len h.2)
theorem Gs.mono (s : Same H H') : ∀ {vs : List V} {zs : List GP}, Gs K H vs zs → Gs K H' vs zs
  | [], [], _ => trivial
  | _ :: _, _ :: _, h => ⟨dp_mono s h.1, Gs.mono s h.2⟩
theorem Gs.kp {p : Addr} {xs : List V} (k : Kp p H H') (hp : H p = some (.lst xs)) : ∀ {vs : List V} {zs : List GP}, Gs K H vs zs → Gs K H' vs zs
  | [], [], _ => trivial
  | _ :: _, _ :: _, h => ⟨dp_kp k hp rfl h.1, Gs.kp k hp h.2⟩
theorem Gs.app : ∀ {vs ws : List V} {zs us : List GP}, Gs K H vs zs → Gs K H ws us → Gs K H (vs ++ ws) (zs ++ us)
  | [], _, [], _, _, k => k
  | _ :: _, _, _ :: _, _, h, k => ⟨h.1, Gs.app h.2 k⟩
theorem Gs.get {vs : List V} {zs : List GP} {i : Nat} {z : GP} (h : Gs K H vs zs) (e : zs[i]? = some z) : ∃ v, vs[i]? = some v ∧ Dp K H v (gD z) := by
  induction vs generalizing zs i with
  | nil =>
    cases zs with
    | nil => simp at e
    | cons => exact h.elim
  | cons w ws ih =>
    cases zs with
    | nil => exact h.elim
    | cons u us =>
      cases i with
      | zero =>
        cases e
        exact ⟨w, rfl, h.1⟩
      | succ i => exact ih h.2 (by simpa using e)
theorem Gs.getv {vs : List V} {zs : List GP} {i : Nat} {v : V} (h : Gs K H vs zs) (e : vs[i]? = some v) : ∃ z, zs[i]? = some z ∧ Dp K H v (gD z) := by
  have hi : i < vs.length := (List.getElem?_eq_some_iff.mp e).1
  obtain ⟨w, hw, d⟩ := h.get (z := zs[i]'(by rw [← h.len]; exact hi)) (List.getElem?_eq_getElem _)
  rw [e] at hw
  cases hw
  exact ⟨_, List.getElem?_eq_getElem _, d⟩
theorem Gs.data : ∀ {vs : List V} {zs : List GP}, Gs K H vs zs → DpAll K H vs (zs.map gD)
  | [], [], _ => .nil
  | _ :: _, _ :: _, h => .cons h.1 (Gs.data h.2)
theorem gs_nil : Gs K H [] [] := trivial
theorem gs_one {v : V} {z : GP} (h : Dp K H v (gD z)) : Gs K H [v] [z] := ⟨h, trivial⟩
end
theorem nat_idx {xs : List V} {k : Nat} {v : V} (h : xs[k]? = some v) : atI xs (k : Int) = some v := atI_nat h
theorem idx_nat {xs : List V} {j : Int} (h0 : 0 ≤ j) (h1 : j < (xs.length : Int)) : ∃ v, xs[j.toNat]? = some v ∧ atI xs j = some v := by
  have hl : j.toNat < xs.length := by omega
  obtain ⟨v, hv⟩ : ∃ v, xs[j.toNat]? = some v := ⟨_, List.getElem?_eq_getElem hl⟩
  refine ⟨v, hv, ?_⟩
  have := nat_idx hv
  rwa [Int.toNat_of_nonneg h0] at this
theorem nep' {Ha Hb : Hp} {p q : Addr} (h : Hb q = none) (S : Sd Ha Hb p) : q ≠ p := fun z => by
  obtain ⟨_, _, _, e⟩ := S.stm
  rw [← z, h] at e
  cases e
theorem shaped_g (z : GP) : SeqAt.shaped (gD z) = true := rfl
theorem dp_gs {K : PySem.W.Frag} {H : Hp} {p : Addr} {ws : List V} {zs : List GP} (h : H p = some (.lst ws)) (g : Gs K H ws zs) : Dp K H (.ref p) (.list (zs.map gD)) := .lst (.inl (.inl h)) g.data
theorem shaped_gs (zs : List GP) : SeqAt.shaped (.list (zs.map gD)) = true := by
  have h1 : PyData.canLayAll0 (zs.map gD) = true := by
    induction zs with
    | nil => rfl
    | cons z zs ih =>
      show (PyData.canLay0 (gD z) && PyData.canLayAll0 (zs.map gD)) = true
      rw [ih]
      rfl
  have h2 : PyData.depthAll (zs.map gD) ≤ 1 := by
    induction zs with
    | nil => exact Nat.zero_le 1
    | cons z zs ih =>
      have h1' : PyData.canLayAll0 (zs.map gD) = true := by
        have h1 : (PyData.canLay0 (gD z) && PyData.canLayAll0 (zs.map gD)) = true := h1
        exact ((Bool.and_eq_true _ _).mp h1).2
      have := ih h1'
      show max (PyData.depth (gD z)) (PyData.depthAll (zs.map gD)) ≤ 1
      have e : PyData.depth (gD z) = 1 := rfl
      omega
  unfold SeqAt.shaped
  rw [Bool.and_eq_true]
  refine ⟨h1, decide_eq_true ?_⟩
  show PyData.depthAll (zs.map gD) + 1 ≤ 64
  omega
theorem ixN_nat {n c : Nat} (h : c < n) : ixN n (c : Int) = some c := by
  unfold ixN
  simp
  omega
/-! ### rows of pixels -/
def mrow (f : Nat → Nat → Int) (r : Nat) : List Int := (List.range 48).map (f r)
theorem mrow_len (f : Nat → Nat → Int) (r : Nat) : (mrow f r).length = 48 := by
  unfold mrow
  rw [List.length_map, List.length_range]
theorem mrow_get (f : Nat → Nat → Int) (r : Nat) {c : Nat} (h : c < 48) : (mrow f r)[c]? = some (f r c) := by
  unfold mrow
  rw [List.getElem?_map, List.getElem?_range h]
  rfl
/-- rows at R, to be read -/
def RdRows (H : Hp) (R : Addr) (as : List Addr) (f : Nat → Nat → Int) : Prop := H R = some (.lst (as.map V.ref)) ∧ as.length = 48 ∧ ∀ r a, as[r]? = some a → H a = some (.lst ((mrow f r).map V.int))
theorem RdRows.mono {H H' : Hp} {R : Addr} {as : List Addr} {f : Nat → Nat → Int} (h : RdRows H R as f) (s : Same H H') : RdRows H' R as f := ⟨s _ _ h.1, h.2.1, fun r a e => s _ _ (h.2.2 r a e)⟩
/-- rows that are one's own -/
def OwRows (H0 H : Hp) (R : Addr) (as : List Addr) (f : Nat → Nat → Int) : Prop := RdRows H R as f ∧ as.Nodup ∧ R ∉ as ∧ H0 R = none ∧ ∀ a ∈ as, H0 a = none
theorem mrow_congr {f g : Nat → Nat → Int} {r : Nat} (h : ∀ c, c < 48 → f r c = g r c) : mrow f r = mrow g r := by
  unfold mrow
  refine List.map_congr_left fun c hc => ?_
  exact h c (List.mem_range.mp hc)
theorem RdRows.congr {H : Hp} {R : Addr} {as : List Addr} {f g : Nat → Nat → Int} (h : RdRows H R as f) (e : ∀ r c, r < 48 → c < 48 → f r c = g r c) : RdRows H R as g :=
  ⟨h.1, h.2.1, fun r a ha => by
    have hr : r < 48 := by
      have := (List.getElem?_eq_some_iff.mp ha).1
      have := h.2.1
      omega
    rw [h.2.2 r a ha, mrow_congr fun c hc => e r c hr hc]⟩
theorem mrow_set (f : Nat → Nat → Int) (r c : Nat) (x : Int) (hc : c < 48) : (mrow f r).set c x = mrow (fun i j => if i = r ∧ j = c then x else f i j) r := by
  refine List.ext_getElem? fun k => ?_
  rw [List.getElem?_set, mrow_len]
  by_cases hk : k < 48
  · rw [mrow_get _ _ hk, mrow_get _ _ hk]
    by_cases e : c = k
    · subst e
      rw [if_pos rfl, if_pos hc, if_pos ⟨rfl, rfl⟩]
    · rw [if_neg e, if_neg (fun z => e z.2.symm)]
  · have h1 : (mrow f r)[k]? = none := List.getElem?_eq_none (by rw [mrow_len]; omega)
    have h2 : (mrow (fun i j => if i = r ∧ j = c then x else f i j) r)[k]? = none := List.getElem?_eq_none (by rw [mrow_len]; omega)
    rw [h1, h2, if_neg (by omega)]
theorem mrow_other (f : Nat → Nat → Int) (r c : Nat) (x : Int) {i : Nat} (h : i ≠ r) : mrow (fun i j => if i = r ∧ j = c then x else f i j) i = mrow f i := mrow_congr fun j _ => if_neg fun z => h z.1
theorem OwRows.put {H0 H : Hp} {R a : Addr} {as : List Addr} {f : Nat → Nat → Int} {r c : Nat} {x : Int} (h : OwRows H0 H R as f) (ha : as[r]? = some a) (hc : c < 48) :
    OwRows H0 (upd H a (.lst ((mrow f r).map V.int |>.set c (.int x)))) R as (fun i j => if i = r ∧ j = c then x else f i j) := by
  obtain ⟨⟨h1, h2, h3⟩, nd, nR, hR, hn⟩ := h
  have hRa : R ≠ a := fun z => nR (by rw [z]; exact List.mem_of_getElem? ha)
  refine ⟨⟨by rw [upd_ne hRa]; exact h1, h2, fun i b hb => ?_⟩, nd, nR, hR, hn⟩
  by_cases e : i = r
  · subst e
    rw [ha] at hb
    cases hb
    rw [upd_same, ← mrow_set f i c x hc, List.map_set]
  · have hba : b ≠ a := fun z => by
      subst z
      obtain ⟨ii, e1⟩ := List.getElem?_eq_some_iff.mp hb
      obtain ⟨rr, e2⟩ := List.getElem?_eq_some_iff.mp ha
      rcases Nat.lt_or_gt_of_ne e with z | z
      · exact (List.pairwise_iff_getElem.mp nd) i r ii rr z (e1.trans e2.symm)
      · exact (List.pairwise_iff_getElem.mp nd) r i rr ii z (e2.trans e1.symm)
    rw [upd_ne hba, h3 i b hb, mrow_other f r c x e]
theorem same_put {H0 H : Hp} {a : Addr} {o : HO} (s : Same H0 H) (h : H0 a = none) : Same H0 (upd H a o) := fun b x e => by
  rw [upd_ne (ne_of_none e h)]
  exact s _ _ e
def sp_blank_rows : Sp := fun vs H Q _ => vs = [] ∧ ∀ R H' as, Same H H' → OwRows H H' R as (fun _ _ => 0) → Q (.ref R) H'
theorem rep48 : List.replicate 48 (V.int 0) = (mrow (fun _ _ => 0) 0).map V.int := by
  unfold mrow
  rw [List.map_map]
  refine List.ext_getElem? fun k => ?_
  by_cases hk : k < 48
  · rw [List.getElem?_replicate, if_pos hk, List.getElem?_map, List.getElem?_range hk]
    rfl
  · rw [List.getElem?_eq_none (by simp; omega), List.getElem?_eq_none (by simp; omega)]
/-! ### rows, once more -/
theorem mrow_i {f : Nat → Nat → Int} {r i : Nat} {v : V} (h : ((mrow f r).map V.int)[i]? = some v) : v = .int (f r i) ∧ i < 48 := by
  have hi := (List.getElem?_eq_some_iff.mp h).1
  rw [List.length_map, mrow_len] at hi
  rw [List.getElem?_map, mrow_get _ _ hi] at h
  cases h
  exact ⟨rfl, hi⟩
theorem mrow_z : List.replicate 48 (V.int 0) = (mrow (fun _ _ => 0) 0).map V.int := rep48
theorem RdRows.kp {H H' : Hp} {R p : Addr} {as : List Addr} {f : Nat → Nat → Int} (h : RdRows H R as f) (k : Kp p H H') (nR : R ≠ p) (na : p ∉ as) : RdRows H' R as f :=
  ⟨k _ _ nR h.1, h.2.1, fun r a e => k _ _ (fun z => na (by rw [← z]; exact List.mem_of_getElem? e)) (h.2.2 r a e)⟩
/-- an address that holds no list is none of theirs -/
theorem RdRows.out {H : Hp} {R p : Addr} {as : List Addr} {f : Nat → Nat → Int} (h : RdRows H R as f) (n : ∀ xs, H p ≠ some (.lst xs)) : R ≠ p ∧ p ∉ as :=
  ⟨fun z => n _ (by rw [← z]; exact h.1), fun m => by
    obtain ⟨k, hk⟩ := List.mem_iff_getElem?.mp m
    exact n _ (h.2.2 k p hk)⟩
theorem OwRows.rd {H0 H : Hp} {R : Addr} {as : List Addr} {f : Nat → Nat → Int} (h : OwRows H0 H R as f) : RdRows H R as f := h.1
section
variable {σ : L2.St} {H : Hp} {Q : VK} {wi : TI} {J : It} {G : Hp → Prop} {Y : Nat → Hp → V → Hp → Prop} {g : TG} {te : TE} {vs : List Nat}
/-- a comprehension that makes rows -/
theorem z_rowsW (f : Nat → Nat → Int) (w : Walk J 48 G Y) (hi : ∀ R : It → Hp → Prop, R J H → wi σ H R) (hG : ∀ H', Same H H' → G H')
    (hs : ∀ i x H' H2 (R : VK), i < 48 → Same H H' → Y i H' x H2 → (∀ a H3, H' a = none → Same H' H3 → H3 a = some (.lst ((mrow f i).map V.int)) → R (.ref a) H3) → g x (wipe σ vs) H2 fun σ2 H3 => wipe σ2 vs = wipe σ vs ∧ te σ2 H3 R)
    (q : ∀ R H' as, Same H H' → OwRows H H' R as f → Q (.ref R) H') : tLc wi g tYes te vs σ H Q :=
  Cw.z_objsW w (by decide) hi hG hs fun D H' as fD s hD la nd nD hv => q D H' as s ⟨⟨hD, la, fun r a ha => (hv r a ha).2⟩, nd, nD, fD, fun a ha => by
    obtain ⟨k, hk⟩ := List.mem_iff_getElem?.mp ha
    exact (hv k a hk).1⟩
/-- a comprehension that makes one row -/
theorem z_rowW (f : Nat → Nat → Int) (r : Nat) (w : Walk J 48 G Y) (hi : ∀ R : It → Hp → Prop, R J H → wi σ H R) (hG : ∀ H', Same H H' → G H')
    (hs : ∀ i x H' H2 (R : VK), i < 48 → Same H H' → Y i H' x H2 → (∀ H3, Same H' H3 → R (.int (f r i)) H3) → g x (wipe σ vs) H2 fun σ2 H3 => wipe σ2 vs = wipe σ vs ∧ te σ2 H3 R)
    (q : ∀ D H', H D = none → Same H H' → H' D = some (.lst ((mrow f r).map V.int)) → Q (.ref D) H') : tLc wi g tYes te vs σ H Q :=
  Cw.z_valsW w (by decide) hi hG (by rw [List.length_map, mrow_len]) (fun i x v H' H2 R hv hi' s y c => hs i x H' H2 R hi' s y fun H3 s3 => by
    obtain ⟨rfl, _⟩ := mrow_i hv
    exact c H3 s3) q
theorem z_blank {k : Nat} (hw : ∀ x, wipe ((wipe σ vs).set k (some x)) vs = wipe σ vs) (q : ∀ R H' as, Same H H' → OwRows H H' R as (fun _ _ => 0) → Q (.ref R) H') :
    tLc (iRng1 (tCons (tC (.int 48)) tNil)) (gName k) tYes (tOp rRep (tLst (tCons (tC (.int 0)) tNil)) (tC (.int 48))) vs σ H Q := by
  refine z_rowsW _ walk_range (fun R h => Cw.z_iRng (k := 48) (fun S h => by walk_at "z"; exact h) (by decide) h) (fun _ _ => trivial) (fun i x H' H2 R hi s y c => ?_) q
  obtain ⟨rfl, rfl⟩ := y
  show wipe _ vs = wipe σ vs ∧ _
  refine ⟨hw _, ?_⟩
  walk_at "z"
  intro a1 H1 f1 s1 h1
  walk_at "z"
  refine z_rep 48 h1 rfl (by decide) fun a2 H2 f2 s2 h2 => c a2 H2 (fresh_of s1 f2) (s1.trans s2) ?_
  rw [h2, rep48]
  rfl
end
section
theorem ok_blank_rows {P : Program} {w : World} {K : PySem.W.Frag} {mg : Str → Option Value} {base : Heap} {A : Nat → Addr} {D : Nat → FuncData} (T : Txt K mg A D) : FnOk P w K mg base (L2.CX P w) 1 (A 4) (D 4) [] (sp_blank_rows) := by
  refine T.F_blank_rows.okX sc_blank_rows (fun vs H Q E h => ?_) (fun cdv A' outer s H vs Q E hr h => ?_)
  · obtain ⟨rfl, _⟩ := h
    rfl
  obtain ⟨rfl, q⟩ := h
  refine ⟨_, (pss_one (ps_ret (pe_lc (own := [("_", 0)]) (g := gName 0) (tt := tYes) rfl sc_blank_rows.nd (pi_range1 (by rfl) T.z_range (pa_cons (Z.pe_globE T.c_SIZE) pa_nil)) (blkOk_by (N := ["_"]) (sc := defScope s_blank_rows) (by decide +kernel)) (fun _ _ _ _ _ => pg_name (i := 0) sc_blank_rows.nd rfl (Or.inl rfl)) (fun _ _ _ _ _ => pts_nil) (fun _ _ _ _ _ => (pe_op op_rep (pe_lst (pa_cons pe_int pa_nil)) (Z.pe_globE T.c_SIZE)))))), ?_⟩
  walk_at "z"
  exact z_blank (fun _ => rfl) fun R H' as s o => q R H' as s o
end
theorem walk48 {K : PySem.W.Frag} {R : Addr} {as : List Addr} (h : as.length = 48) : Walk (Itl K R) 48 (fun H => SqL K H R (as.map V.ref)) (YAt (as.map V.ref)) := by
  have := walk_list (K := K) (a := R) (xs := as.map V.ref)
  rwa [List.length_map, h] at this
theorem walkrow {K : PySem.W.Frag} {a : Addr} {f : Nat → Nat → Int} {r : Nat} : Walk (Itl K a) 48 (fun H => SqL K H a ((mrow f r).map V.int)) (YAt ((mrow f r).map V.int)) := by
  have := walk_list (K := K) (a := a) (xs := (mrow f r).map V.int)
  rwa [List.length_map, mrow_len] at this
theorem walk0 {n : Nat} : Walk (Itr 0 n) n (fun _ => True) (fun i H x H' => H' = H ∧ x = .int (i : Int)) :=
  walk_range.mono (fun _ h => h) fun i H x H' _ _ y => ⟨y.1, y.2.trans (congrArg V.int (Int.zero_add _))⟩
/-- a copy of the rows -/
def sp__law_copy : Sp := fun vs H Q _ => ∃ (R : Addr) (as : List Addr) (f : Nat → Nat → Int), vs = [.ref R] ∧ RdRows H R as f ∧ ∀ R' H' as', Same H H' → OwRows H H' R' as' f → Q (.ref R') H'
theorem row_at {H : Hp} {R : Addr} {as : List Addr} {f : Nat → Nat → Int} (h : RdRows H R as f) {r : Nat} (hr : r < 48) : ∃ a, as[r]? = some a ∧ (as.map V.ref)[r]? = some (.ref a) ∧ H a = some (.lst ((mrow f r).map V.int)) := by
  obtain ⟨a, ha⟩ : ∃ a, as[r]? = some a := ⟨_, List.getElem?_eq_getElem (by have := h.2.1; omega)⟩
  exact ⟨a, ha, by rw [List.getElem?_map, ha]; rfl, h.2.2 r a ha⟩
theorem cell_at (f : Nat → Nat → Int) (r : Nat) {c : Nat} (hc : c < 48) : atI ((mrow f r).map V.int) (c : Int) = some (.int (f r c)) := atI_nat (by rw [List.getElem?_map, mrow_get _ _ hc]; rfl)
section
theorem ok__law_copy {P : Program} {w : World} {K : PySem.W.Frag} {mg : Str → Option Value} {base : Heap} {A : Nat → Addr} {D : Nat → FuncData} (T : Txt K mg A D) : FnOk P w K mg base (L2.CX P w) 1 (A 15) (D 15) ["rows"] (sp__law_copy) := by
  refine T.F__law_copy.okX sc__law_copy (fun vs H Q E h => ?_) (fun cdv A' outer s H vs Q E hr h => ?_)
  · obtain ⟨R, as, f, rfl, _⟩ := h
    rfl
  obtain ⟨R, as, f, rfl, rd, q⟩ := h
  refine ⟨_, (pss_one (ps_ret (pe_lc (own := [("row", 1)]) (g := gName 1) (tt := tYes) rfl sc__law_copy.nd (pi_list (pv 0)) (blkOk_by (N := ["rows", "row"]) (sc := defScope s__law_copy) (by decide +kernel)) (fun _ _ _ _ _ => pg_name (i := 1) sc__law_copy.nd rfl (Or.inl rfl)) (fun _ _ _ _ _ => pts_nil) (fun _ _ _ _ _ => (pe_callTy (show CallR _ (.type "list") (Z.rListOf K) from Z.c_listOf) (by rfl) T.z_list (by decide +kernel) (pa_cons (pv 1) pa_nil)))))), ?_⟩
  walk_at "z"
  refine z_rowsW f (walk48 (K := K) (R := R) rd.2.1) (fun S h => Cw.z_iList (fun S h => by walk_at "z"; exact h) (.inl (.inl rd.1)) h) (fun H' s => .inl (.inl (s _ _ rd.1))) (fun i x H' H2 S hi s y c => ?_) q
  obtain ⟨rfl, hx⟩ := y
  obtain ⟨a, ha, hm, hrow⟩ := row_at rd hi
  rw [hm] at hx
  cases hx
  walk_at "z"
  refine ⟨rfl, ?_⟩
  walk_at "z"
  exact z_listOf (.inl (.inl (s _ _ hrow))) fun p H3 f3 s3 h3 => c p H3 f3 s3 h3
end
/-! ### the picture -/
/-- a picture at p with the weights f -/
def Pic (C : Addr) (H : Hp) (p : Addr) (f : Nat → Nat → Int) : Prop := ∃ (dx R : Addr) (as : List Addr), H p = some (.ins C dx [("_weights", .ref R)]) ∧ RdRows H R as f
theorem Pic.mono {C p : Addr} {H H' : Hp} {f : Nat → Nat → Int} (h : Pic C H p f) (s : Same H H') : Pic C H' p f := by
  obtain ⟨dx, R, as, e, rd⟩ := h
  exact ⟨dx, R, as, s _ _ e, rd.mono s⟩
theorem Pic.congr {C p : Addr} {H : Hp} {f g : Nat → Nat → Int} (h : Pic C H p f) (e : ∀ r c, r < 48 → c < 48 → f r c = g r c) : Pic C H p g := by
  obtain ⟨dx, R, as, h1, rd⟩ := h
  exact ⟨dx, R, as, h1, rd.congr e⟩
theorem Pic.nolst {C p : Addr} {H : Hp} {f : Nat → Nat → Int} (h : Pic C H p f) : ∀ xs, H p ≠ some (.lst xs) := fun xs e => by
  obtain ⟨dx, R, as, h1, rd⟩ := h
  rw [h1] at e
  cases e
theorem Pic.kp {C p q : Addr} {H H' : Hp} {f : Nat → Nat → Int} (h : Pic C H p f) (k : Kp q H H') (ne : p ≠ q) (n : ∀ xs, H q ≠ some (.lst xs)) : Pic C H' p f := by
  obtain ⟨dx, R, as, e, rd⟩ := h
  obtain ⟨o1, o2⟩ := rd.out n
  exact ⟨dx, R, as, k _ _ ne e, rd.kp k o1 o2⟩
/-- a picture whose rows are new ones -/
def PicF (C : Addr) (H H' : Hp) (p : Addr) (f : Nat → Nat → Int) : Prop := ∃ (dx R : Addr) (as : List Addr), H' p = some (.ins C dx [("_weights", .ref R)]) ∧ RdRows H' R as f ∧ H R = none ∧ ∀ a ∈ as, H a = none
def sp_Picture___init__ (C : Addr) : Sp := fun vs H Q _ => ∃ (p dx : Addr), vs = [.ref p] ∧ H p = some (.ins C dx []) ∧ ∀ H', Kp p H H' → Pic C H' p (fun _ _ => 0) → Q .non H'
section
theorem ok_Picture___init__ {P : Program} {w : World} {K : PySem.W.Frag} {mg : Str → Option Value} {base : Heap} {A : Nat → Addr} {D : Nat → FuncData} (T : Txt K mg A D) : FnOk P w K mg base (L2.CX P w) 2 (A 5) (D 5) ["self"] (sp_Picture___init__ (A 3)) := by
  refine T.F_Picture___init__.okX sc_Picture___init__ (fun vs H Q E h => ?_) (fun cdv A' outer s H vs Q E hr h => ?_)
  · obtain ⟨p, dx, rfl, _⟩ := h
    rfl
  obtain ⟨p, dx, rfl, hp, q⟩ := h
  refine ⟨_, (pss_one (ps_fld (pv 0) (pe_call0 (ok_blank_rows T) (hr.mono (by decide)) (by rfl) T.m_blank_rows T.F_blank_rows.kp T.b_blank_rows .nil (passes_call (takes_of rfl rfl rfl rfl) (fun _ _ _ _ h => h))) rfl)), ?_⟩
  walk_at "z"
  refine ⟨rfl, fun R H1 as s1 ow => ?_⟩
  walk_at "z"
  refine Cw.z_sfld (s1 _ _ hp) T.q_Picture T.nf_Picture__weights (by decide) ?_
  walk_at "z"
  have hp1 := s1 _ _ hp
  have no : ∀ xs, H1 p ≠ some (.lst xs) := fun xs e => by rw [hp1] at e; cases e
  have kk : Kp p H1 (upd H1 p (.ins (A 3) dx (putF "_weights" (.ref R) []))) := fun b o hb e => by rw [upd_ne hb]; exact e
  obtain ⟨o1, o2⟩ := ow.1.out no
  exact q _ ((kp_of s1).trans' kk) ⟨dx, R, as, upd_same, ow.1.kp kk o1 o2⟩
end
theorem pic_new {C x dx : Addr} {H : Hp} {R : VK} {E : XK} (nx : H x = none) (ndx : H dx = none) (q : ∀ H', Same H H' → Pic C H' x (fun _ _ => 0) → R .non H') :
    sp_Picture___init__ C (.ref x :: ([] ++ [])) (upd (upd H dx (.own x)) x (.ins C dx [])) R E :=
  ⟨x, dx, rfl, upd_same, fun H' k p => q H' (fun b o e => k b o (ne_of_none e nx) (by rw [upd_ne (ne_of_none e nx), upd_ne (ne_of_none e ndx)]; exact e)) p⟩
def InR (f : Nat → Nat → Int) : Prop := ∀ r c, r < 48 → c < 48 → -9999 ≤ f r c ∧ f r c ≤ 9999
def BdR (f : Nat → Nat → Int) : Prop := ∀ r c, r < 48 → c < 48 → (f r c).natAbs < 2 ^ 200
theorem walkzip {K : PySem.W.Frag} {a b : Addr} {xs ys : List V} (h1 : xs.length = 48) (h2 : ys.length = 48) : Walk (Itz K a b) 48 (fun H => SqL K H a xs ∧ SqL K H b ys) (YPair (fun i => xs[i]?) (fun i => ys[i]?)) :=
  walk_zip (by rw [h1, h2]; rfl)
/-- a table of numbers from -most to most -/
def LeR (m : Int) (f : Nat → Nat → Int) : Prop := ∀ r c, r < 48 → c < 48 → -m ≤ f r c ∧ f r c ≤ m
/-- the same rows where all but p is as it was -/
theorem OwRows.eqo {H H1 H2 : Hp} {p R : Addr} {as : List Addr} {f : Nat → Nat → Int} (h : OwRows H H1 R as f) (e : ∀ b, b ≠ p → H2 b = H1 b) (n : R ≠ p) (na : ∀ a ∈ as, a ≠ p) : OwRows H H2 R as f :=
  ⟨⟨by rw [e _ n]; exact h.1.1, h.1.2.1, fun r a ha => by rw [e _ (na a (List.mem_of_getElem? ha))]; exact h.1.2.2 r a ha⟩, h.2⟩
theorem OwRows.kpo {H H1 H2 : Hp} {p R : Addr} {as : List Addr} {f : Nat → Nat → Int} (h : OwRows H H1 R as f) (k : Kp p H1 H2) (hp : H p ≠ none) : OwRows H H2 R as f :=
  ⟨h.1.kp k (fun z => hp (by rw [← z]; exact h.2.2.2.1)) (fun m => hp (h.2.2.2.2 p m)), h.2⟩
theorem OwRows.base {H H1 H2 : Hp} {p R : Addr} {as : List Addr} {f : Nat → Nat → Int} (h : OwRows H1 H2 R as f) (k : Kp p H H1) (hp : H1 p ≠ none) : OwRows H H2 R as f := by
  have n : ∀ b, H1 b = none → H b = none := fun b e => kp_none k e fun z => hp (by rw [← z]; exact e)
  exact ⟨h.1, h.2.1, h.2.2.1, n _ h.2.2.2.1, fun a ha => n _ (h.2.2.2.2 a ha)⟩
theorem repc (x : Int) (i : Nat) : List.replicate 48 (V.int x) = (mrow (fun _ _ => x) i).map V.int := by
  unfold mrow
  rw [List.map_map]
  refine List.ext_getElem? fun k => ?_
  by_cases hk : k < 48
  · rw [List.getElem?_replicate, if_pos hk, List.getElem?_map, List.getElem?_range hk]
    rfl
  · rw [List.getElem?_eq_none (by simp; omega), List.getElem?_eq_none (by simp; omega)]
/-! ### what leaves the range -/
def FitI (i : Int) : Prop := -9999 ≤ i ∧ i ≤ 9999
def sp_checked (A : Nat → Addr) : Sp := fun vs H Q E => ∃ i : Int, vs = [.int i] ∧ (FitI i → Q (.int i) H) ∧ (¬ FitI i → E (.ref (A 1)) none H)
section
theorem ok_checked {P : Program} {w : World} {K : PySem.W.Frag} {mg : Str → Option Value} {base : Heap} {A : Nat → Addr} {D : Nat → FuncData} (T : Txt K mg A D) : FnOk P w K mg base (L2.CX P w) 1 (A 11) (D 11) ["weight"] (sp_checked A) := by
  refine T.F_checked.okX sc_checked (fun vs H Q E h => ?_) (fun cdv A' outer s H vs Q E hr h => ?_)
  · obtain ⟨i, rfl, _⟩ := h
    rfl
  obtain ⟨i, rfl, q, no⟩ := h
  refine ⟨_, (pss_cons (ps_if (pt_not (pt_chain op_le op_le (pe_un un_neg (Z.pe_globE T.c_GREATEST_WEIGHT)) (pv 0) (Z.pe_globE T.c_GREATEST_WEIGHT)))
  (pss_one (ps_raise rfl (takes_of rfl rfl rfl rfl) (Z.pmk T.x_TooGreat (by rfl))))
  pss_nil)
  (pss_one (ps_ret (pv 0)))), ?_⟩
  walk_at "z"
  refine z_if (fun h1 => ?_) (fun h => ⟨false, rfl, no fun z => h z.1⟩)
  walk_at "z"
  refine z_ifN (fun h => no fun z => h z.2) (fun h2 => ?_)
  walk_at "z"
  exact q ⟨h1, h2⟩
end
def sp_sums (A : Nat → Addr) : Sp := fun vs H Q E => ∃ (R S : Addr) (as bs : List Addr) (f g : Nat → Nat → Int) (k : Int), vs = [.ref R, .ref S, .int k] ∧ RdRows H R as f ∧ RdRows H S bs g ∧ k.natAbs < 2 ^ 200 ∧ BdR g ∧
  (InR (fun r c => f r c + k * g r c) → ∀ R' H' as', Same H H' → OwRows H H' R' as' (fun r c => f r c + k * g r c) → Q (.ref R') H') ∧ (¬ InR (fun r c => f r c + k * g r c) → ∀ H', Same H H' → E (.ref (A 1)) none H')
section
theorem ok_sums {P : Program} {w : World} {K : PySem.W.Frag} {mg : Str → Option Value} {base : Heap} {A : Nat → Addr} {D : Nat → FuncData} (T : Txt K mg A D) : FnOk P w K mg base (L2.CX P w) 2 (A 10) (D 10) ["rows", "others", "factor"] (sp_sums A) := by
  refine T.F_sums.okX sc_sums (fun vs H Q E h => ?_) (fun cdv A' outer s H vs Q E hr h => ?_)
  · obtain ⟨R, S, as, bs, f, g, k, rfl, _⟩ := h
    rfl
  obtain ⟨R, S, as, bs, f, g, k, rfl, rd, rd2, hk, bg, q, no⟩ := h
  refine ⟨_, (pss_one (ps_ret (Xc.pe_lcX (own := [("row", 5), ("other", 6)]) (g := gTup K 2 (gCons (gName 5) (gCons (gName 6) gNil))) (tt := tYes) (Xc.tk_def rfl rfl (takes_of rfl rfl rfl rfl)) rfl sc_sums.nd (pi_zip (by rfl) T.z_zip (pa_cons (pv 0) (pa_cons (pv 1) pa_nil))) (blkOk_by (N := ["rows", "others", "factor", "item", "addend", "row", "other"]) (sc := defScope s_sums) (by decide +kernel)) (fun _ _ _ _ _ _ tk => pg_tup (by rfl) (pgs_cons (pg_name (i := 5) sc_sums.nd rfl (Or.inl rfl)) (pgs_cons (pg_name (i := 6) sc_sums.nd rfl (Or.inl rfl)) pgs_nil))) (fun _ _ _ _ _ _ tk => pts_nil) (fun _ _ _ _ _ _ tk => (Xc.pe_lcX (own := [("item", 3), ("addend", 4)]) (g := gTup K 2 (gCons (gName 3) (gCons (gName 4) gNil))) (tt := tYes) tk rfl sc_sums.nd (show PI _ _ _ (iZip K _) from (pi_zip (by rfl) T.z_zip (pa_cons (pv 5) (pa_cons (pv 6) pa_nil)))) (blkOk_by (N := ["rows", "others", "factor", "item", "addend", "row", "other"]) (by rfl)) (fun _ _ _ _ _ _ tk => pg_tup (by rfl) (pgs_cons (pg_name (i := 3) sc_sums.nd rfl (Or.inl rfl)) (pgs_cons (pg_name (i := 4) sc_sums.nd rfl (Or.inl rfl)) pgs_nil))) (fun _ _ _ _ _ _ tk => pts_nil) (fun _ _ _ _ _ _ tk => (pe_call (ok_checked T) (hr.mono (by decide)) (by rfl) T.m_checked T.F_checked.kp T.b_checked .nil (Xc.pass tk) (pa_cons (pe_op op_add (pv 3) (pe_op op_mulW (pv 2) (pv 4))) pa_nil)))))))), ?_⟩
  walk_at "z"
  have l1 : (as.map V.ref).length = 48 := by rw [List.length_map, rd.2.1]
  have l2 : (bs.map V.ref).length = 48 := by rw [List.length_map, rd2.2.1]
  by_cases ir : InR (fun r c => f r c + k * g r c)
  · replace q := q ir
    clear no
    refine z_rowsW _ (walkzip (K := K) (a := R) (b := S) l1 l2) (fun S' h => Cw.z_iZip (fun S h => by walk_at "z"; exact h) (.inl (.inl rd.1)) (.inl (.inl rd2.1)) h) (fun H' s => ⟨.inl (.inl (s _ _ rd.1)), .inl (.inl (s _ _ rd2.1))⟩) (fun i x H' H2 S' hi s y c => ?_) q
    obtain ⟨t, u, v, rfl, ft, rfl, hu, hv⟩ := y
    obtain ⟨a, ha, hma, hra⟩ := row_at rd hi
    obtain ⟨b, hb, hmb, hrb⟩ := row_at rd2 hi
    have hu : (as.map V.ref)[i]? = some u := hu
    have hv : (bs.map V.ref)[i]? = some v := hv
    rw [hma] at hu
    rw [hmb] at hv
    cases hu
    cases hv
    have s2 : Same H' (upd H' t (.tup [.ref a, .ref b])) := same_upd ft
    have ht : upd H' t (HO.tup [.ref a, .ref b]) t = some (.tup [.ref a, .ref b]) := upd_same
    generalize upd H' t (HO.tup [.ref a, .ref b]) = H2 at *
    refine z_gT (.inl (.inl ht)) rfl ?_
    walk_at "z"
    refine ⟨rfl, ?_⟩
    walk_at "z"
    have hra2 := s2 _ _ (s _ _ hra)
    have hrb2 := s2 _ _ (s _ _ hrb)
    refine z_rowW (fun r c => f r c + k * g r c) i (walkzip (K := K) (a := a) (b := b) (by rw [List.length_map, mrow_len]) (by rw [List.length_map, mrow_len])) (fun S' h => Cw.z_iZip (fun S h => by walk_at "z"; exact h) (.inl (.inl hra2)) (.inl (.inl hrb2)) h) (fun H' s => ⟨.inl (.inl (s _ _ hra2)), .inl (.inl (s _ _ hrb2))⟩) (fun j x H3 H4 S3 hj s3 y c3 => ?_) (fun D H3 fD s3 hD => c D H3 (fresh_of s2 fD) (s2.trans s3) hD)
    obtain ⟨t2, u, v, rfl, ft2, rfl, hu, hv⟩ := y
    obtain ⟨rfl, _⟩ := mrow_i hu
    obtain ⟨rfl, _⟩ := mrow_i hv
    have s4 : Same H3 (upd H3 t2 (.tup [.int (f i j), .int (g i j)])) := same_upd ft2
    have ht2 : upd H3 t2 (HO.tup [.int (f i j), .int (g i j)]) t2 = some (.tup [.int (f i j), .int (g i j)]) := upd_same
    generalize upd H3 t2 (HO.tup [.int (f i j), .int (g i j)]) = H4 at *
    refine z_gT (.inl (.inl ht2)) rfl ?_
    walk_at "z"
    refine ⟨rfl, ?_⟩
    walk_at "z"
    refine z_I (wide_mul hk (bg i j hi hj) (by decide) (by decide) (by decide)) ?_
    walk_at "z"
    exact ⟨_, rfl, fun _ => c3 H4 s4, fun z => absurd (ir i j hi hj) z⟩
  · replace no := no ir
    refine Xc.z_failW (fun i => ∀ j, j < 48 → FitI (f i j + k * g i j)) (walkzip (K := K) (a := R) (b := S) l1 l2) (by decide) (fun S' h => Cw.z_iZip (fun S h => by walk_at "z"; exact h) (.inl (.inl rd.1)) (.inl (.inl rd2.1)) h) (fun H' s => ⟨.inl (.inl (s _ _ rd.1)), .inl (.inl (s _ _ rd2.1))⟩) (fun z => ir fun r c hr hc => z r hr c hc) (fun i x H' H2 S' hi s y c => ?_)
    obtain ⟨t, u, v, rfl, ft, rfl, hu, hv⟩ := y
    obtain ⟨a, ha, hma, hra⟩ := row_at rd hi
    obtain ⟨b, hb, hmb, hrb⟩ := row_at rd2 hi
    have hu : (as.map V.ref)[i]? = some u := hu
    have hv : (bs.map V.ref)[i]? = some v := hv
    rw [hma] at hu
    rw [hmb] at hv
    cases hu
    cases hv
    have s2 : Same H' (upd H' t (.tup [.ref a, .ref b])) := same_upd ft
    have ht : upd H' t (HO.tup [.ref a, .ref b]) t = some (.tup [.ref a, .ref b]) := upd_same
    generalize upd H' t (HO.tup [.ref a, .ref b]) = H2 at *
    refine z_gT (.inl (.inl ht)) rfl ?_
    walk_at "z"
    refine ⟨rfl, ?_⟩
    walk_at "z"
    have hra2 := s2 _ _ (s _ _ hra)
    have hrb2 := s2 _ _ (s _ _ hrb)
    by_cases ok : ∀ j, j < 48 → FitI (f i j + k * g i j)
    · refine z_rowW (fun r c => f r c + k * g r c) i (walkzip (K := K) (a := a) (b := b) (by rw [List.length_map, mrow_len]) (by rw [List.length_map, mrow_len])) (fun S' h => Cw.z_iZip (fun S h => by walk_at "z"; exact h) (.inl (.inl hra2)) (.inl (.inl hrb2)) h) (fun H' s => ⟨.inl (.inl (s _ _ hra2)), .inl (.inl (s _ _ hrb2))⟩) (fun j x H3 H4 S3 hj s3 y c3 => ?_) (fun D H3 fD s3 hD => c ok _ H3 (s2.trans s3))
      obtain ⟨t2, u, v, rfl, ft2, rfl, hu, hv⟩ := y
      obtain ⟨rfl, _⟩ := mrow_i hu
      obtain ⟨rfl, _⟩ := mrow_i hv
      have s4 : Same H3 (upd H3 t2 (.tup [.int (f i j), .int (g i j)])) := same_upd ft2
      have ht2 : upd H3 t2 (HO.tup [.int (f i j), .int (g i j)]) t2 = some (.tup [.int (f i j), .int (g i j)]) := upd_same
      generalize upd H3 t2 (HO.tup [.int (f i j), .int (g i j)]) = H4 at *
      refine z_gT (.inl (.inl ht2)) rfl ?_
      walk_at "z"
      refine ⟨rfl, ?_⟩
      walk_at "z"
      refine z_I (wide_mul hk (bg i j hi hj) (by decide) (by decide) (by decide)) ?_
      walk_at "z"
      exact ⟨_, rfl, fun _ => c3 H4 s4, fun z => absurd (ok j hj) z⟩
    · refine Xc.z_failW (fun j => FitI (f i j + k * g i j)) (walkzip (K := K) (a := a) (b := b) (by rw [List.length_map, mrow_len]) (by rw [List.length_map, mrow_len])) (by decide) (fun S' h => Cw.z_iZip (fun S h => by walk_at "z"; exact h) (.inl (.inl hra2)) (.inl (.inl hrb2)) h) (fun H' s => ⟨.inl (.inl (s _ _ hra2)), .inl (.inl (s _ _ hrb2))⟩) ok (fun j x H3 H4 S3 hj s3 y c3 => ?_)
      obtain ⟨t2, u, v, rfl, ft2, rfl, hu, hv⟩ := y
      obtain ⟨rfl, _⟩ := mrow_i hu
      obtain ⟨rfl, _⟩ := mrow_i hv
      have s4 : Same H3 (upd H3 t2 (.tup [.int (f i j), .int (g i j)])) := same_upd ft2
      have ht2 : upd H3 t2 (HO.tup [.int (f i j), .int (g i j)]) t2 = some (.tup [.int (f i j), .int (g i j)]) := upd_same
      generalize upd H3 t2 (HO.tup [.int (f i j), .int (g i j)]) = H4 at *
      refine z_gT (.inl (.inl ht2)) rfl ?_
      walk_at "z"
      refine ⟨rfl, ?_⟩
      walk_at "z"
      refine z_I (wide_mul hk (bg i j hi hj) (by decide) (by decide) (by decide)) ?_
      walk_at "z"
      exact ⟨_, rfl, fun z => c3 z _ H4 s4, fun _ => no H4 (((s.trans s2).trans s3).trans s4)⟩
end
def sp_Picture_add_rows (C : Addr) (A : Nat → Addr) : Sp := fun vs H Q E => ∃ (p S : Addr) (bs : List Addr) (f g : Nat → Nat → Int) (k : Int), vs = [.ref p, .ref S, .int k] ∧ Pic C H p f ∧ RdRows H S bs g ∧ k.natAbs < 2 ^ 200 ∧ BdR g ∧
  (InR (fun r c => f r c + k * g r c) → ∀ H', Kp p H H' → PicF C H H' p (fun r c => f r c + k * g r c) → Q .non H') ∧ (¬ InR (fun r c => f r c + k * g r c) → ∀ H', Same H H' → E (.ref (A 1)) none H')
section
theorem ok_Picture_add_rows {P : Program} {w : World} {K : PySem.W.Frag} {mg : Str → Option Value} {base : Heap} {A : Nat → Addr} {D : Nat → FuncData} (T : Txt K mg A D) : FnOk P w K mg base (L2.CX P w) 3 (A 7) (D 7) ["self", "rows", "factor"] (sp_Picture_add_rows (A 3) A) := by
  refine T.F_Picture_add_rows.okX sc_Picture_add_rows (fun vs H Q E h => ?_) (fun cdv A' outer s H vs Q E hr h => ?_)
  · obtain ⟨p, S, bs, f, g, k, rfl, _⟩ := h
    rfl
  obtain ⟨p, S, bs, f, g, k, rfl, hp, rd2, hk, bg, q, no⟩ := h
  refine ⟨_, (pss_one (ps_fld (pv 0) (pe_call (ok_sums T) (hr.mono (by decide)) (by rfl) T.m_sums T.F_sums.kp T.b_sums .nil (passes_call (takes_of rfl rfl rfl rfl) (fun _ _ _ _ h => h)) (pa_cons (pe_fld (pv 0) rfl) (pa_cons (pv 1) (pa_cons (pv 2) pa_nil)))) rfl)), ?_⟩
  have no' := hp.nolst
  obtain ⟨dx, R, as, e, rd⟩ := hp
  walk_at "z"
  refine Cw.z_fld e T.q_Picture T.nf_Picture__weights Cw.look1 ?_
  walk_at "z"
  refine ⟨R, S, as, bs, f, g, k, rfl, rd, rd2, hk, bg, fun ir R' H1 as' s1 ow => ?_, fun ir H' s => no ir H' s⟩
  walk_at "z"
  have e1 := s1 _ _ e
  refine Cw.z_sfld e1 T.q_Picture T.nf_Picture__weights (by simp) ?_
  rw [Cw.put1]
  walk_at "z"
  have kk : Kp p H1 (upd H1 p (.ins (A 3) dx [("_weights", .ref R')])) := fun b o hb e => by rw [upd_ne hb]; exact e
  obtain ⟨o1, o2⟩ := ow.1.out (fun xs h => by rw [e1] at h; cases h)
  exact q ir _ ((kp_of s1).trans' kk) ⟨dx, R', as', upd_same, ow.1.kp kk o1 o2, ow.2.2.2.1, ow.2.2.2.2⟩
end
/-! ### sums, differences and negations of pictures -/
theorem PicF.pic {C p : Addr} {H H' : Hp} {f : Nat → Nat → Int} (h : PicF C H H' p f) : Pic C H' p f := by
  obtain ⟨dx, R, as, e, rd, _⟩ := h
  exact ⟨dx, R, as, e, rd⟩
def sp_own (C : Addr) (A : Nat → Addr) (k : Int) : Sp := fun vs H Q E => ∃ (p q : Addr) (f g : Nat → Nat → Int), vs = [.ref p, .ref q] ∧ Pic C H p f ∧ Pic C H q g ∧ BdR g ∧ (InR (fun r c => f r c + k * g r c) → ∀ x H', H x = none → Same H H' → PicF C H H' x (fun r c => f r c + k * g r c) → Q (.ref x) H') ∧ (¬ InR (fun r c => f r c + k * g r c) → ∀ H', Same H H' → E (.ref (A 1)) none H')
section
theorem ok_Picture___add__ {P : Program} {w : World} {K : PySem.W.Frag} {mg : Str → Option Value} {base : Heap} {A : Nat → Addr} {D : Nat → FuncData} (T : Txt K mg A D) : FnOk P w K mg base (L2.CX P w) 4 (A 8) (D 8) ["self", "other"] (sp_own (A 3) A 1) := by
  refine T.F_Picture___add__.okX sc_Picture___add__ (fun vs H Q E h => ?_) (fun cdv A' outer s H vs Q E hr h => ?_)
  · obtain ⟨p, q', f, g, rfl, _⟩ := h
    rfl
  obtain ⟨p, q', f, g, rfl, P, P2, bg, q, no⟩ := h
  refine ⟨_, (pss_cons (ps_set (i := 2) sc_Picture___add__.nd rfl (.inl rfl) (pe_make0 T.M_Picture (ok_Picture___init__ T) (hr.mono (by decide)) (by rfl) T.g_Picture T.b_Picture___init__ .nil (passes_call (takes_of rfl rfl rfl rfl) (fun _ _ _ _ h => h))))
  (pss_cons (ps_fld (pv 2) (pe_call (ok_sums T) (hr.mono (by decide)) (by rfl) T.m_sums T.F_sums.kp T.b_sums .nil (passes_call (takes_of rfl rfl rfl rfl) (fun _ _ _ _ h => h)) (pa_cons (pe_fld (pv 0) rfl) (pa_cons (pe_fld (pv 1) rfl) (pa_cons pe_int pa_nil)))) rfl)
  (pss_one (ps_ret (pv 2))))), ?_⟩
  obtain ⟨dx0, R, as, e, rd⟩ := id P
  obtain ⟨dx1, R1, as1, e1, rd1⟩ := id P2
  walk_at "z"
  intro x dx fx fdx nex
  refine pic_new fx fdx fun H2 s2 P3 => ⟨rfl, ?_⟩
  walk_at "z"
  refine Cw.z_fld (s2 _ _ e) T.q_Picture T.nf_Picture__weights Cw.look1 ?_
  walk_at "z"
  refine Cw.z_fld (s2 _ _ e1) T.q_Picture T.nf_Picture__weights Cw.look1 ?_
  walk_at "z"
  refine ⟨R, R1, as, as1, f, g, 1, rfl, rd.mono s2, rd1.mono s2, by decide, bg, fun ir R' H3 as' s3 ow => ?_, fun ir H' s => no ir H' (s2.trans s)⟩
  walk_at "z"
  obtain ⟨dx3, R3, as3, e3, rd3⟩ := P3
  have e4 := s3 _ _ e3
  refine Cw.z_sfld e4 T.q_Picture T.nf_Picture__weights (by simp) ?_
  rw [Cw.put1]
  walk_at "z"
  have kk : Kp x H3 (upd H3 x (.ins (A 3) dx3 [("_weights", .ref R')])) := fun b o hb e => by rw [upd_ne hb]; exact e
  obtain ⟨o1, o2⟩ := ow.1.out (fun xs h => by rw [e4] at h; cases h)
  exact q ir x _ fx (fun b o h => kk b o (ne_of_none h fx) (s3 _ _ (s2 _ _ h))) ⟨dx3, R', as', upd_same, ow.1.kp kk o1 o2, fresh_of s2 ow.2.2.2.1, fun a ha => fresh_of s2 (ow.2.2.2.2 a ha)⟩
theorem ok_Picture___sub__ {P : Program} {w : World} {K : PySem.W.Frag} {mg : Str → Option Value} {base : Heap} {A : Nat → Addr} {D : Nat → FuncData} (T : Txt K mg A D) : FnOk P w K mg base (L2.CX P w) 4 (A 9) (D 9) ["self", "other"] (sp_own (A 3) A (-1)) := by
  refine T.F_Picture___sub__.okX sc_Picture___sub__ (fun vs H Q E h => ?_) (fun cdv A' outer s H vs Q E hr h => ?_)
  · obtain ⟨p, q', f, g, rfl, _⟩ := h
    rfl
  obtain ⟨p, q', f, g, rfl, P, P2, bg, q, no⟩ := h
  refine ⟨_, (pss_cons (ps_set (i := 2) sc_Picture___sub__.nd rfl (.inl rfl) (pe_make0 T.M_Picture (ok_Picture___init__ T) (hr.mono (by decide)) (by rfl) T.g_Picture T.b_Picture___init__ .nil (passes_call (takes_of rfl rfl rfl rfl) (fun _ _ _ _ h => h))))
  (pss_cons (ps_fld (pv 2) (pe_call (ok_sums T) (hr.mono (by decide)) (by rfl) T.m_sums T.F_sums.kp T.b_sums .nil (passes_call (takes_of rfl rfl rfl rfl) (fun _ _ _ _ h => h)) (pa_cons (pe_fld (pv 0) rfl) (pa_cons (pe_fld (pv 1) rfl) (pa_cons (pe_un un_neg pe_int) pa_nil)))) rfl)
  (pss_one (ps_ret (pv 2))))), ?_⟩
  obtain ⟨dx0, R, as, e, rd⟩ := id P
  obtain ⟨dx1, R1, as1, e1, rd1⟩ := id P2
  walk_at "z"
  intro x dx fx fdx nex
  refine pic_new fx fdx fun H2 s2 P3 => ⟨rfl, ?_⟩
  walk_at "z"
  refine Cw.z_fld (s2 _ _ e) T.q_Picture T.nf_Picture__weights Cw.look1 ?_
  walk_at "z"
  refine Cw.z_fld (s2 _ _ e1) T.q_Picture T.nf_Picture__weights Cw.look1 ?_
  walk_at "z"
  refine ⟨R, R1, as, as1, f, g, -1, rfl, rd.mono s2, rd1.mono s2, by decide, bg, fun ir R' H3 as' s3 ow => ?_, fun ir H' s => no ir H' (s2.trans s)⟩
  walk_at "z"
  obtain ⟨dx3, R3, as3, e3, rd3⟩ := P3
  have e4 := s3 _ _ e3
  refine Cw.z_sfld e4 T.q_Picture T.nf_Picture__weights (by simp) ?_
  rw [Cw.put1]
  walk_at "z"
  have kk : Kp x H3 (upd H3 x (.ins (A 3) dx3 [("_weights", .ref R')])) := fun b o hb e => by rw [upd_ne hb]; exact e
  obtain ⟨o1, o2⟩ := ow.1.out (fun xs h => by rw [e4] at h; cases h)
  exact q ir x _ fx (fun b o h => kk b o (ne_of_none h fx) (s3 _ _ (s2 _ _ h))) ⟨dx3, R', as', upd_same, ow.1.kp kk o1 o2, fresh_of s2 ow.2.2.2.1, fun a ha => fresh_of s2 (ow.2.2.2.2 a ha)⟩
end
def sp__law_sum : Sp := fun vs H Q _ => ∃ (R S : Addr) (as bs : List Addr) (f g : Nat → Nat → Int) (k : Int), vs = [.ref R, .ref S, .int k] ∧ RdRows H R as f ∧ RdRows H S bs g ∧ k.natAbs < 2 ^ 200 ∧ BdR g ∧
  ∀ R' H' as', Same H H' → OwRows H H' R' as' (fun r c => f r c + k * g r c) → Q (.ref R') H'
section
theorem ok__law_sum {P : Program} {w : World} {K : PySem.W.Frag} {mg : Str → Option Value} {base : Heap} {A : Nat → Addr} {D : Nat → FuncData} (T : Txt K mg A D) : FnOk P w K mg base (L2.CX P w) 1 (A 19) (D 19) ["rows", "other", "times"] (sp__law_sum) := by
  refine T.F__law_sum.okX sc__law_sum (fun vs H Q E h => ?_) (fun cdv A' outer s H vs Q E hr h => ?_)
  · obtain ⟨R, S, as, bs, f, g, k, rfl, _⟩ := h
    rfl
  obtain ⟨R, S, as, bs, f, g, k, rfl, rd, rd2, hk, bg, q⟩ := h
  refine ⟨_, (pss_one (ps_ret (pe_lc (own := [("row", 4)]) (g := gName 4) (tt := tYes) rfl sc__law_sum.nd (pi_range1 (by rfl) T.z_range (pa_cons pe_int pa_nil)) (blkOk_by (N := ["rows", "other", "times", "column", "row"]) (sc := defScope s__law_sum) (by decide +kernel)) (fun _ _ _ _ _ => pg_name (i := 4) sc__law_sum.nd rfl (Or.inr rfl)) (fun _ _ _ _ _ => pts_nil) (fun _ _ _ _ _ => (pe_lc (own := [("column", 3)]) (g := gName 3) (tt := tYes) rfl sc__law_sum.nd (pi_range1 (by rfl) T.z_range (pa_cons pe_int pa_nil)) (blkOk_by (N := ["rows", "other", "times", "column", "row"]) (by rfl)) (fun _ _ _ _ _ => pg_name (i := 3) sc__law_sum.nd rfl (Or.inl rfl)) (fun _ _ _ _ _ => pts_nil) (fun _ _ _ _ _ => (pe_op op_add (pe_ix (show IxR _ (rIxL K) from ix_list) (pe_ix (show IxR _ (rIxL K) from ix_list) (pv 0) (pv 4) (fun _ _ => rfl)) (pv 3) (fun _ _ => rfl)) (pe_op op_mulW (pv 2) (pe_ix (show IxR _ (rIxL K) from ix_list) (pe_ix (show IxR _ (rIxL K) from ix_list) (pv 1) (pv 4) (fun _ _ => rfl)) (pv 3) (fun _ _ => rfl)))))))))), ?_⟩
  walk_at "z"
  refine z_rowsW (fun r c => f r c + k * g r c) walk0 (fun R h => Cw.z_iRng (k := 48) (fun S h => by walk_at "z"; exact h) (by decide) h) (fun _ _ => trivial) (fun i x H' H2 S' hi s y c => ?_) q
  obtain ⟨rfl, rfl⟩ := y
  refine ⟨rfl, ?_⟩
  refine z_rowW (fun r c => f r c + k * g r c) i walk0 (fun R h => Cw.z_iRng (k := 48) (fun S h => by walk_at "z"; exact h) (by decide) h) (fun _ _ => trivial) (fun j x H3 H4 S3 hj s3 y c3 => ?_) (fun D H3 fD s3 hD => c D H3 fD s3 hD)
  obtain ⟨rfl, rfl⟩ := y
  have s4 := s.trans s3
  obtain ⟨a, ha, hma, hra⟩ := row_at (rd.mono s4) hi
  obtain ⟨b, hb, hmb, hrb⟩ := row_at (rd2.mono s4) hi
  refine ⟨rfl, ?_⟩
  walk_at "z"
  refine z_ixL (.inl (.inl (s4 _ _ rd.1))) (atI_nat hma) ?_
  walk_at "z"
  refine z_ixL (.inl (.inl hra)) (cell_at f i hj) ?_
  walk_at "z"
  refine z_ixL (.inl (.inl (s4 _ _ rd2.1))) (atI_nat hmb) ?_
  walk_at "z"
  refine z_ixL (.inl (.inl hrb)) (cell_at g i hj) ?_
  refine z_I (wide_mul hk (bg i j hi hj) (by decide) (by decide) (by decide)) ?_
  walk_at "z"
  exact c3 _ (Same.refl _)
end
theorem ty_pic {K : PySem.W.Frag} {C p : Addr} {H : Hp} {f : Nat → Nat → Int} {Q : VK} (P : Pic C H p f) (c : Cls K C) (ha : PySem.W.findIn K (.ref C) "__class__" = some (some (.builtin "object.__class__")))
    (hn : PySem.W.specialIn K (.builtin "object.__class__") "__get__" = some (some (.builtin "getset_descriptor.__get__"))) (ht : PySem.W.takesIn K (.builtin "object.__class__") = some true) (hm : PySem.W.mroIn K C (.type "object") = some true) (q : Q (.bl true) H) : rIsi K [.ref p, .ref C] H Q := by
  obtain ⟨dx, R, as, e, rd⟩ := P
  refine ⟨_, _, _, _, true, rfl, .own C, .base (.ins e c ha hn ht hm), ?_, q⟩
  unfold PySem.W.kitOne
  rw [if_pos (by simp)]
def sp_Picture_rows (C : Addr) : Sp := fun vs H Q _ => ∃ (p : Addr) (f : Nat → Nat → Int), vs = [.ref p] ∧ Pic C H p f ∧ ∀ R' H' as', Same H H' → OwRows H H' R' as' f → Q (.ref R') H'
section
theorem ok_Picture_rows {P : Program} {w : World} {K : PySem.W.Frag} {mg : Str → Option Value} {base : Heap} {A : Nat → Addr} {D : Nat → FuncData} (T : Txt K mg A D) : FnOk P w K mg base (L2.CX P w) 1 (A 6) (D 6) ["self"] (sp_Picture_rows (A 3)) := by
  refine T.F_Picture_rows.okX sc_Picture_rows (fun vs H Q E h => ?_) (fun cdv A' outer s H vs Q E hr h => ?_)
  · obtain ⟨p, f, rfl, _⟩ := h
    rfl
  obtain ⟨p, f, rfl, hp, q⟩ := h
  refine ⟨_, (pss_one (ps_ret (pe_lc (own := [("row", 1)]) (g := gName 1) (tt := tYes) rfl sc_Picture_rows.nd (pi_list (pe_fld (pv 0) rfl)) (blkOk_by (N := ["self", "row"]) (sc := defScope s_Picture_rows) (by decide +kernel)) (fun _ _ _ _ _ => pg_name (i := 1) sc_Picture_rows.nd rfl (Or.inl rfl)) (fun _ _ _ _ _ => pts_nil) (fun _ _ _ _ _ => (pe_callTy (show CallR _ (.type "list") (Z.rListOf K) from Z.c_listOf) (by rfl) T.z_list (by decide +kernel) (pa_cons (pv 1) pa_nil)))))), ?_⟩
  obtain ⟨dx, R, as, e, rd⟩ := hp
  walk_at "z"
  refine z_rowsW f (walk48 (K := K) (R := R) rd.2.1) (fun S h => Cw.z_iList (fun S h => by walk_at "z"; refine Cw.z_fld e T.q_Picture T.nf_Picture__weights Cw.look1 ?_; exact h) (.inl (.inl rd.1)) h) (fun H' s => .inl (.inl (s _ _ rd.1))) (fun i x H' H2 S hi s y c => ?_) q
  obtain ⟨rfl, hx⟩ := y
  obtain ⟨a, ha, hm, hrow⟩ := row_at rd hi
  rw [hm] at hx
  cases hx
  walk_at "z"
  refine ⟨rfl, ?_⟩
  walk_at "z"
  exact z_listOf (.inl (.inl (s _ _ hrow))) fun p H3 f3 s3 h3 => c p H3 f3 s3 h3
end
def sp__law_same_rows (K : PySem.W.Frag) : Sp := fun vs H Q _ => ∃ (R S : Addr) (as bs : List Addr) (f g : Nat → Nat → Int), vs = [.ref R, .ref S] ∧ RdRows H R as f ∧ RdRows H S bs g ∧ (∀ r c, r < 48 → c < 48 → f r c = g r c) ∧ Q (.bl true) H
section
theorem ok__law_same_rows {P : Program} {w : World} {K : PySem.W.Frag} {mg : Str → Option Value} {base : Heap} {A : Nat → Addr} {D : Nat → FuncData} (T : Txt K mg A D) : FnOk P w K mg base (L2.CX P w) 1 (A 21) (D 21) ["actual", "expected"] (sp__law_same_rows K) := by
  refine T.F__law_same_rows.okX sc__law_same_rows (fun vs H Q E h => ?_) (fun cdv A' outer s H vs Q E hr h => ?_)
  · obtain ⟨R, S, as, bs, f, g, rfl, _⟩ := h
    rfl
  obtain ⟨R, S, as, bs, f, g, rfl, hR, hS, e, q⟩ := h
  refine ⟨_, (pss_cons (ps_if (PW.pt (pw_or (pt_not (pt_val (pe_callB call_isi (by rfl) T.z_isinstance (by decide +kernel) (pa_cons (pv 0) (pa_cons (pe_bltn (v := .ty "list") (by rfl) T.z_list (by decide +kernel) rfl) pa_nil))))) (pw_or1 (pt_cmpR op_ne (pe_callB Z.c_len (by rfl) T.z_len (by decide +kernel) (pa_cons (pv 0) pa_nil)) pe_int (nomark _)))))
  (pss_one (ps_ret pe_bl))
  pss_nil)
  (pss_cons (ps_for (passes_of rfl) rfl (pi_range1 (by rfl) T.z_range (pa_cons pe_int pa_nil)) (pg_name (i := 2) sc__law_same_rows.nd rfl (.inl rfl))
  (pss_cons (ps_if (PW.pt (pw_or (pt_not (pt_val (pe_callB call_isi (by rfl) T.z_isinstance (by decide +kernel) (pa_cons (pe_ix ix_list (pv 0) (pv 2) (fun _ _ => rfl)) (pa_cons (pe_bltn (v := .ty "list") (by rfl) T.z_list (by decide +kernel) rfl) pa_nil))))) (pw_or1 (pt_cmpR (op_neD hr.units) (pe_ix ix_list (pv 0) (pv 2) (fun _ _ => rfl)) (pe_ix ix_list (pv 1) (pv 2) (fun _ _ => rfl)) (nomark _)))))
  (pss_one (ps_ret pe_bl))
  pss_nil)
  (pss_one (ps_for (passes_of rfl) rfl (pi_list (pe_ix ix_list (pv 0) (pv 2) (fun _ _ => rfl))) (pg_name (i := 3) sc__law_same_rows.nd rfl (.inl rfl))
  (pss_one (ps_if (PW.pt (pw_or (pt_not (pt_val (pe_callB call_isi (by rfl) T.z_isinstance (by decide +kernel) (pa_cons (pv 3) (pa_cons (pe_bltn (v := .ty "int") (by rfl) T.z_int (by decide +kernel) rfl) pa_nil))))) (pw_or1 (pt_val (pe_callB call_isi (by rfl) T.z_isinstance (by decide +kernel) (pa_cons (pv 3) (pa_cons (pe_bltn (v := .ty "bool") (by rfl) T.z_bool (by decide +kernel) rfl) pa_nil)))))))
  (pss_one (ps_ret pe_bl))
  pss_nil))))))
  (pss_one (ps_ret pe_bl)))), ?_⟩
  have hR1 := hR.1
  have hS1 := hS.1
  have la := hR.2.1
  have lb := hS.2.1
  walk_at "z"
  rw [List.length_map, la]
  walk_at "z"
  refine z_forR1 48 (by decide) (fun R q => by walk_at "z"; exact q) (fun i σ' H' => H' = H ∧ ∃ (u2 u3 : Option V), σ' = [some (.ref R), some (.ref S), u2, u3]) ⟨rfl, _, _, rfl⟩ ?_ ?_
  · rintro r σ' H6 hr ⟨rfl, u2, u3, rfl⟩
    obtain ⟨a, ha⟩ : ∃ a, as[r]? = some a := ⟨_, List.getElem?_eq_getElem (by omega)⟩
    obtain ⟨b, hb⟩ : ∃ a, bs[r]? = some a := ⟨_, List.getElem?_eq_getElem (by omega)⟩
    have hrow := hR.2.2 r a ha
    have hrow2 := hS.2.2 r b hb
    have hat : atI (as.map V.ref) (r : Int) = some (.ref a) := atI_nat (by rw [List.getElem?_map, ha]; rfl)
    have hbt : atI (bs.map V.ref) (r : Int) = some (.ref b) := atI_nat (by rw [List.getElem?_map, hb]; rfl)
    walk_at "z"
    refine z_ixL (.inl (.inl hR1)) hat ?_
    walk_at "z"
    refine z_ixL (.inl (.inl hR1)) hat ?_
    walk_at "z"
    refine z_ixL (.inl (.inl hS1)) hbt ?_
    walk_at "z"
    refine z_neInts hrow hrow2 ?_
    walk_at "z"
    refine z_if (fun z => absurd (mrow_congr fun c hc => e r c hr hc) z) (fun _ => ?_)
    walk_at "z"
    refine z_forE ?_
    walk_at "z"
    refine z_ixL (.inl (.inl hR1)) hat ?_
    unfold ForL
    refine z_forL (xs := (mrow f r).map V.int) (fun R q => q) (.inl (.inl hrow)) (fun i σ' H' => H' = H6 ∧ ∃ (u3 : Option V), σ' = [some (.ref R), some (.ref S), some (.int (r : Int)), u3]) ⟨rfl, _, rfl⟩ (fun i σ' H' _ h => by rw [h.1]; exact .inl (.inl hrow)) ?_ ?_
    · rintro j x σ' H7 hx ⟨rfl, u3, rfl⟩
      have hm := List.mem_of_getElem? hx
      obtain ⟨n, _, rfl⟩ := List.mem_map.mp hm
      walk_at "z"
      exact ⟨rfl, _, rfl⟩
    · rintro σ' H7 ⟨rfl, u3, rfl⟩
      exact ⟨rfl, _, _, rfl⟩
  · rintro σ' H6 ⟨rfl, u2, u3, rfl⟩
    walk_at "z"
    exact q
end
theorem not48 {x y z : V} {l : List V} (h : l.length = 48) (e : some (HO.lst [x, y, z]) = some (HO.lst l)) : False := by
  cases e
  exact absurd h (by decide : ¬ 3 = 48)
theorem rd_st {p R : Addr} {H : Hp} {as : List Addr} {f : Nat → Nat → Int} (rd : RdRows H R as f) (st : IsStm H p) : R ≠ p ∧ p ∉ as := by
  obtain ⟨_, _, _, st⟩ := st
  exact ⟨fun z => by
    have := rd.1
    rw [z, st] at this
    exact not48 (by rw [List.length_map, rd.2.1]) this, fun m => by
    obtain ⟨k, hk⟩ := List.mem_iff_getElem?.mp m
    have := rd.2.2 k p hk
    rw [st] at this
    exact not48 (by rw [List.length_map, mrow_len]) this⟩
theorem rd_kpst {p R : Addr} {H H' : Hp} {as : List Addr} {f : Nat → Nat → Int} (rd : RdRows H R as f) (st : IsStm H p) (k : Kp p H H') : RdRows H' R as f := rd.kp k (rd_st rd st).1 (rd_st rd st).2
theorem pic_kpst {C p x : Addr} {H H' : Hp} {f : Nat → Nat → Int} (P : Pic C H x f) (st : IsStm H p) (k : Kp p H H') (n : x ≠ p) : Pic C H' x f := by
  obtain ⟨dx', R', as', e', rd'⟩ := P
  exact ⟨dx', R', as', k _ _ n e', rd_kpst rd' st k⟩
theorem same_kp {x : Addr} {H H1 H2 : Hp} (s : Same H H1) (k : Kp x H1 H2) (h : H x = none) : Same H H2 := fun b o e => k b o (ne_of_none e h) (s b o e)
theorem le_bd {f : Nat → Nat → Int} {m : Int} (h : LeR m f) (m1 : m ≤ 100000) : BdR f := fun r c hr hc => by
  have := h r c hr hc
  exact Nat.lt_of_le_of_lt (show (f r c).natAbs ≤ 100000 by omega) (by decide)
def QBM (K : PySem.W.Frag) (r : V → List V → Hp → VK → Prop) (t : TA) (σ : L2.St) (Q : VK) : VK := fun x H1 => tyV K "list" x H1 ∧ t σ H1 fun xs H2 => r x xs H2 Q
theorem z_bmE {K : PySem.W.Frag} {r : V → List V → Hp → VK → Prop} {t : TA} {σ : L2.St} {H : Hp} {Q : VK} {to : TE} (h : to σ H (QBM K r t σ Q)) : tBM K "list" r to t σ H Q := h
theorem z_bmR {K : PySem.W.Frag} {r : V → List V → Hp → VK → Prop} {t : TA} {σ : L2.St} {H : Hp} {Q : VK} {p : Addr} {xs : List V} (hp : H p = some (.lst xs)) (h : t σ H fun vs H2 => r (.ref p) vs H2 Q) : QBM K r t σ Q (.ref p) H := ⟨.inl ⟨rfl, _, .inl (.inl hp)⟩, h⟩
theorem sd_kp {H0 H H' : Hp} {p x : Addr} (S : Sd H0 H p) (k : Kp x H H') (h : H0 x = none) (n : x ≠ p) : Sd H0 H' p := by
  obtain ⟨a, b, c, e⟩ := S.stm
  exact ⟨same_kp S.same k h, S.fresh, a, b, c, k _ _ n.symm e⟩
/-! ### drawn rows -/
def sp__law_at : Sp := fun vs H Q _ => ∃ (p : Addr) (H0 : Hp), vs = [.ref p] ∧ Sd H0 H p ∧ ∀ (n : Nat) H', n < 48 → Sd H0 H' p → Kp p H H' → Q (.int (n : Int)) H'
section
theorem ok__law_at {P : Program} {w : World} {K : PySem.W.Frag} {mg : Str → Option Value} {base : Heap} {A : Nat → Addr} {D : Nat → FuncData} (T : Txt K mg A D) : FnOk P w K mg base (L2.CX P w) 2 (A 16) (D 16) ["stream"] (sp__law_at) := by
  refine T.F__law_at.okX sc__law_at (fun vs H Q E h => ?_) (fun cdv A' outer s H vs Q E hr h => ?_)
  · obtain ⟨p, H0, rfl, _⟩ := h
    rfl
  obtain ⟨p, H0, rfl, S, q⟩ := h
  refine ⟨_, (pss_cons (ps_if (pt_cmpR op_eq (pe_call (ok__law_draw T) (hr.mono (by decide)) (by rfl) T.m__law_draw T.F__law_draw.kp T.b__law_draw .nil (passes_call (takes_of rfl rfl rfl rfl) (fun _ _ _ _ h => h)) (pa_cons (pv 0) (pa_cons pe_int pa_nil))) pe_int (nomark _))
  (pss_one (ps_ret (pe_ix ix_list (pe_lst (pa_cons pe_int (pa_cons pe_int (pa_cons pe_int (pa_cons pe_int pa_nil))))) (pe_call (ok__law_draw T) (hr.mono (by decide)) (by rfl) T.m__law_draw T.F__law_draw.kp T.b__law_draw .nil (passes_call (takes_of rfl rfl rfl rfl) (fun _ _ _ _ h => h)) (pa_cons (pv 0) (pa_cons pe_int pa_nil))) (fun _ _ => rfl))))
  pss_nil)
  (pss_one (ps_ret (pe_call (ok__law_draw T) (hr.mono (by decide)) (by rfl) T.m__law_draw T.F__law_draw.kp T.b__law_draw .nil (passes_call (takes_of rfl rfl rfl rfl) (fun _ _ _ _ h => h)) (pa_cons (pv 0) (pa_cons pe_int pa_nil)))))), ?_⟩
  walk_at "z"
  refine nx S (by decide) (lt1000 (by decide)) fun v H1 v0 v1 S1 e1 => ?_
  walk_at "z"
  refine z_if (fun _ => ?_) (fun _ => ?_)
  · walk_at "z"
    intro t H2 f2 s2 h2
    walk_at "z"
    have nt := S1.ne0 f2
    refine nx (S1.mono s2) (by decide) (lt1000 (by decide)) fun w H3 w0 w1 S3 e3 => ?_
    have h3 : H3 t = some (.lst [.int 0, .int 47, .int 8, .int 16]) := by rw [e3 _ nt]; exact h2
    have kk : Kp p H H3 := ((kp_eq e1).trans' (kp_of s2)).trans' (kp_eq e3)
    have : w = 0 ∨ w = 1 ∨ w = 2 ∨ w = 3 := by omega
    rcases this with rfl | rfl | rfl | rfl
    · exact z_ixL (.inl (.inl h3)) rfl (q 0 H3 (by decide) S3 kk)
    · exact z_ixL (.inl (.inl h3)) rfl (q 47 H3 (by decide) S3 kk)
    · exact z_ixL (.inl (.inl h3)) rfl (q 8 H3 (by decide) S3 kk)
    · exact z_ixL (.inl (.inl h3)) rfl (q 16 H3 (by decide) S3 kk)
  · walk_at "z"
    refine nx S1 (by decide) (lt1000 (by decide)) fun w H3 w0 w1 S3 e3 => ?_
    walk_at "z"
    obtain ⟨n, rfl⟩ : ∃ n : Nat, w = (n : Int) := ⟨w.toNat, by omega⟩
    exact q n H3 (by omega) S3 ((kp_eq e1).trans' (kp_eq e3))
end
theorem at_ints {ns : List Int} {w : Int} (h0 : 0 ≤ w) (h1 : w < ns.length) : ∃ x, atI (ns.map V.int) w = some (.int x) ∧ x ∈ ns := by
  obtain ⟨n, rfl⟩ := Int.eq_ofNat_of_zero_le h0
  have h : n < ns.length := by omega
  exact ⟨ns[n], atI_nat (by rw [List.getElem?_map, List.getElem?_eq_getElem h]; rfl), List.getElem_mem h⟩
def sp__law_weights : Sp := fun vs H Q _ => ∃ (p : Addr) (H0 : Hp), vs = [.ref p] ∧ Sd H0 H p ∧ ∀ R H' as f, Sd H0 H' p → Kp p H H' → OwRows H H' R as f → LeR 9999 f → Q (.ref R) H'
section
theorem ok__law_weights {P : Program} {w : World} {K : PySem.W.Frag} {mg : Str → Option Value} {base : Heap} {A : Nat → Addr} {D : Nat → FuncData} (T : Txt K mg A D) : FnOk P w K mg base (L2.CX P w) 3 (A 17) (D 17) ["stream"] (sp__law_weights) := by
  refine T.F__law_weights.okX sc__law_weights (fun vs H Q E h => ?_) (fun cdv A' outer s H vs Q E hr h => ?_)
  · obtain ⟨p, H0, rfl, _⟩ := h
    rfl
  obtain ⟨p, H0, rfl, S, q⟩ := h
  refine ⟨_, (pss_cons (ps_set (i := 1) sc__law_weights.nd rfl (.inl rfl) (pe_lst (pa_cons pe_int (pa_cons pe_int (pa_cons (pe_un un_neg pe_int) (pa_cons (pe_un un_neg pe_int) (pa_cons pe_int (pa_cons pe_int pa_nil))))))))
  (pss_cons (ps_set (i := 2) sc__law_weights.nd rfl (.inr rfl) (pe_ix ix_list (pv 1) (pe_call (ok__law_draw T) (hr.mono (by decide)) (by rfl) T.m__law_draw T.F__law_draw.kp T.b__law_draw .nil (passes_call (takes_of rfl rfl rfl rfl) (fun _ _ _ _ h => h)) (pa_cons (pv 0) (pa_cons pe_int pa_nil))) (fun _ _ => rfl)))
  (pss_cons (ps_setLc (i := 3) (own := [("row", 4)]) (g := gName 4) (tt := tYes) rfl sc__law_weights.nd rfl rfl (sw_true rfl rfl rfl (by decide +kernel)) (pi_range1 (by rfl) T.z_range (pa_cons pe_int pa_nil)) (blkOk_by (N := ["stream", "values", "value", "rows", "row", "k", "column"]) (sc := defScope s__law_weights) (by decide +kernel)) (fun _ _ _ _ _ => pg_name (i := 4) sc__law_weights.nd rfl (Or.inl rfl)) (fun _ _ _ _ _ => pts_nil) (fun _ _ _ _ _ => (pe_op op_rep (pe_lst (pa_cons (pv 2) pa_nil)) pe_int)))
  (pss_cons (ps_for (passes_of rfl) rfl (pi_range1 (by rfl) T.z_range (pa_cons (pe_call (ok__law_draw T) (hr.mono (by decide)) (by rfl) T.m__law_draw T.F__law_draw.kp T.b__law_draw .nil (passes_call (takes_of rfl rfl rfl rfl) (fun _ _ _ _ h => h)) (pa_cons (pv 0) (pa_cons pe_int pa_nil))) pa_nil)) (pg_name (i := 5) sc__law_weights.nd rfl (.inl rfl))
  (pss_cons (ps_set (i := 4) sc__law_weights.nd rfl (.inl rfl) (pe_call (ok__law_at T) (hr.mono (by decide)) (by rfl) T.m__law_at T.F__law_at.kp T.b__law_at .nil (passes_call (takes_of rfl rfl rfl rfl) (fun _ _ _ _ h => h)) (pa_cons (pv 0) pa_nil)))
  (pss_cons (ps_set (i := 6) sc__law_weights.nd rfl (.inl rfl) (pe_call (ok__law_at T) (hr.mono (by decide)) (by rfl) T.m__law_at T.F__law_at.kp T.b__law_at .nil (passes_call (takes_of rfl rfl rfl rfl) (fun _ _ _ _ h => h)) (pa_cons (pv 0) pa_nil)))
  (pss_one (ps_asg (pe_ix ix_list (pv 1) (pe_call (ok__law_draw T) (hr.mono (by decide)) (by rfl) T.m__law_draw T.F__law_draw.kp T.b__law_draw .nil (passes_call (takes_of rfl rfl rfl rfl) (fun _ _ _ _ h => h)) (pa_cons (pv 0) (pa_cons pe_int pa_nil))) (fun _ _ => rfl)) (pg_sub (pe_ix ix_list (pv 3) (pv 4) (fun _ _ => rfl)) (pv 6) set_list))))))
  (pss_one (ps_ret (pv 3))))))), ?_⟩
  walk_at "z"
  intro v H1 fv s1 hv
  have hv : H1 v = some (.lst (([9999, 9998, -9999, -9998, 5000, 0] : List Int).map V.int)) := hv
  have hb : ∀ x ∈ ([9999, 9998, -9999, -9998, 5000, 0] : List Int), -9999 ≤ x ∧ x ≤ 9999 := by decide
  have hlen : (([9999, 9998, -9999, -9998, 5000, 0] : List Int)).length = 6 := rfl
  generalize ([9999, 9998, -9999, -9998, 5000, 0] : List Int) = ns at hv hb hlen
  have nv := S.ne0 fv
  have S1 := S.mono s1
  have p1 : H1 p ≠ none := by
    obtain ⟨_, _, _, st⟩ := S1.stm
    rw [st]
    simp
  walk_at "z"
  refine nx S1 (by decide) (lt1000 (by decide)) fun w H2 w0 w1 S2 e2 => ?_
  have hv2 : H2 v = _ := (e2 v nv).trans hv
  obtain ⟨x, hx, mx⟩ := at_ints (ns := ns) w0 (by rw [hlen]; exact w1)
  refine z_ixL (.inl (.inl hv2)) hx ?_
  walk_at "z"
  refine z_rowsW (fun _ _ => x) walk0 (fun R h => Cw.z_iRng (k := 48) (fun S h => by walk_at "z"; exact h) (by decide) h) (fun _ _ => trivial) (fun i y H' H2 R hi s y' c' => ?_) fun R H3 as s3 ow => ?_
  · obtain ⟨rfl, rfl⟩ := y'
    refine ⟨rfl, ?_⟩
    walk_at "z"
    intro a1 H7 f7 s7 h7
    walk_at "z"
    refine z_rep 48 h7 rfl (by decide) fun a2 H8 f8 s8 h8 => c' a2 H8 (fresh_of s7 f8) (s7.trans s8) ?_
    rw [h8, repc]
  have S3 := S2.mono s3
  have p2 : H2 p ≠ none := by
    obtain ⟨_, _, _, st⟩ := S2.stm
    rw [st]
    simp
  have k3 : Kp p H1 H3 := (kp_eq e2).trans' (kp_of s3)
  replace ow := ow.base (kp_eq e2) p2
  have le : LeR 9999 (fun _ _ => x) := fun r c _ _ => hb x mx
  clear hx mx
  walk_at "z"
  refine Z.z_forRE ?_
  walk_at "z"
  refine nx S3 (by decide) (lt1000 (by decide)) fun n H5 n0 n1 S5 e5 => ?_
  walk_at "z"
  obtain ⟨n, rfl⟩ : ∃ n' : Nat, n = (n' : Int) := ⟨n.toNat, by omega⟩
  refine Z.z_forRr n (by omega) (fun i σ' H' => Sd H0 H' p ∧ Kp p H1 H' ∧ ∃ (f : Nat → Nat → Int) (u4 u5 u6 : Option V), σ' = [some (.ref p), some (.ref v), some (.int x), some (.ref R), u4, u5, u6] ∧ OwRows H1 H' R as f ∧ LeR 9999 f) ⟨S5, k3.trans' (kp_eq e5), _, _, _, _, rfl, ow.kpo (kp_eq e5) p1, le⟩ ?_ ?_
  · clear ow le S5 S3 k3 e5
    rintro i σ' H6 hi ⟨S6, k6, f, u4, u5, u6, rfl, ow, le⟩
    walk_at "z"
    refine ⟨p, H0, rfl, S6, fun r H7 hr S7 k7 => ?_⟩
    walk_at "z"
    refine ⟨p, H0, rfl, S7, fun c H8 hc S8 k8 => ?_⟩
    walk_at "z"
    have k8' := (k6.trans' k7).trans' k8
    refine nx S8 (by decide) (lt1000 (by decide)) fun y H9 y0 y1 S9 e9 => ?_
    have k9 := k8'.trans' (kp_eq e9)
    obtain ⟨z, hz, mz⟩ := at_ints (ns := ns) y0 (by rw [hlen]; exact y1)
    refine z_ixL (.inl (.inl (k9 v _ nv hv))) hz ?_
    have ow9 := (((ow.kpo k7 p1).kpo k8 p1).kpo (kp_eq e9) p1)
    obtain ⟨a, ha, hma, hra⟩ := row_at ow9.1 hr
    have fa := ow9.2.2.2.2 a (List.mem_of_getElem? ha)
    have nap : a ≠ p := fun z => p1 (by rw [← z]; exact fa)
    walk_at "z"
    refine z_ixL (.inl (.inl ow9.1.1)) (atI_nat hma) ?_
    walk_at "z"
    refine z_setL hra (k := c) (ixN_nat (by rw [List.length_map, mrow_len]; exact hc)) ?_
    refine ⟨S9.put (S.none0 (fresh_of s1 fa)) nap, kp_put k9 fa, _, _, _, _, rfl, ow9.put ha hc, fun i j hi hj => ?_⟩
    show -9999 ≤ (if i = r ∧ j = c then z else f i j) ∧ (if i = r ∧ j = c then z else f i j) ≤ 9999
    split
    · exact hb z mz
    · exact le i j hi hj
  · rintro σ' H6 ⟨S6, k6, f, u4, u5, u6, rfl, ow, le⟩
    walk_at "z"
    exact q R H6 as f S6 ((kp_of s1).trans' k6) (ow.base (kp_of s1) p1) le
end
def sp__law_fits : Sp := fun vs H Q _ => ∃ (R : Addr) (as : List Addr) (f : Nat → Nat → Int), vs = [.ref R] ∧ RdRows H R as f ∧ (InR f → Q (.bl true) H) ∧ (¬ InR f → Q (.bl false) H)
section
theorem ok__law_fits {P : Program} {w : World} {K : PySem.W.Frag} {mg : Str → Option Value} {base : Heap} {A : Nat → Addr} {D : Nat → FuncData} (T : Txt K mg A D) : FnOk P w K mg base (L2.CX P w) 1 (A 20) (D 20) ["rows"] (sp__law_fits) := by
  refine T.F__law_fits.okX sc__law_fits (fun vs H Q E h => ?_) (fun cdv A' outer s H vs Q E hr h => ?_)
  · obtain ⟨R, as, f, rfl, _⟩ := h
    rfl
  obtain ⟨R, as, f, rfl, rd, q, no⟩ := h
  refine ⟨_, (pss_cons (ps_for (passes_of rfl) rfl (pi_list (pv 0)) (pg_name (i := 1) sc__law_fits.nd rfl (.inl rfl))
  (pss_one (ps_for (passes_of rfl) rfl (pi_list (pv 1)) (pg_name (i := 2) sc__law_fits.nd rfl (.inl rfl))
  (pss_one (ps_if (PW.pt (pw_or (pt_cmpR op_lt (pv 2) (pe_un un_neg pe_int) (nomark _)) (pw_or1 (pt_cmpR op_gt (pv 2) pe_int (nomark _)))))
  (pss_one (ps_ret pe_bl))
  pss_nil)))))
  (pss_one (ps_ret pe_bl))), ?_⟩
  walk_at "z"
  refine Cw.z_forW (walk48 (K := K) (R := R) rd.2.1) (fun S h => Cw.z_iList (fun S h => by walk_at "z"; exact h) (.inl (.inl rd.1)) h) (fun i σ' H' => H' = H ∧ (∀ r, r < i → ∀ c, c < 48 → FitI (f r c)) ∧ ∃ (u1 u2 : Option V), σ' = [some (.ref R), u1, u2]) ⟨rfl, fun r h => absurd h (Nat.not_lt_zero _), _, _, rfl⟩ (fun i σ H' _ h => by rw [h.1]; exact .inl (.inl rd.1)) ?_ ?_
  · rintro r x σ' H6 H7 hr ⟨rfl, ok, u1, u2, rfl⟩ ⟨rfl, hx⟩
    obtain ⟨a, ha, hma, hra⟩ := row_at rd hr
    rw [hma] at hx
    cases hx
    walk_at "z"
    refine Cw.z_forW (walkrow (K := K) (a := a) (f := f) (r := r)) (fun S h => Cw.z_iList (fun S h => by walk_at "z"; exact h) (.inl (.inl hra)) h) (fun i σ' H' => H' = H7 ∧ (∀ c, c < i → FitI (f r c)) ∧ ∃ (u2 : Option V), σ' = [some (.ref R), some (.ref a), u2]) ⟨rfl, fun r h => absurd h (Nat.not_lt_zero _), _, rfl⟩ (fun i σ H' _ h => by rw [h.1]; exact .inl (.inl hra)) ?_ ?_
    · rintro c x σ' H8 H9 hc ⟨rfl, okr, u2, rfl⟩ ⟨rfl, hx⟩
      obtain ⟨rfl, _⟩ := mrow_i hx
      walk_at "z"
      refine z_if (fun h => ?_) (fun h1 => ?_)
      · walk_at "z"
        exact no fun z => absurd (z r c hr hc).1 (by omega)
      · walk_at "z"
        refine z_if (fun h => ?_) (fun h2 => ?_)
        · walk_at "z"
          exact no fun z => absurd (z r c hr hc).2 (by omega)
        · walk_at "z"
          refine ⟨rfl, fun c' h => ?_, _, rfl⟩
          rcases Nat.lt_succ_iff_lt_or_eq.mp h with h | h
          · exact okr c' h
          · exact h ▸ ⟨by omega, by omega⟩
    · rintro σ' H8 ⟨rfl, okr, u2, rfl⟩
      walk_at "z"
      refine ⟨rfl, fun r' h => ?_, _, _, rfl⟩
      rcases Nat.lt_succ_iff_lt_or_eq.mp h with h | h
      · exact ok r' h
      · exact h ▸ okr
  · rintro σ' H6 ⟨rfl, ok, u1, u2, rfl⟩
    walk_at "z"
    exact q fun r c hr hc => ok r hr c hc
end
def mb (b : Bool) : Int := if b then 9999 else 10 ^ 20
theorem bd_le {m : Int} {f : Nat → Nat → Int} (h : LeR m f) (m1 : m ≤ 10 ^ 20) : BdR f := fun r c hr hc => by
  have := h r c hr hc
  exact Nat.lt_of_le_of_lt (show (f r c).natAbs ≤ 10 ^ 20 by omega) (by decide)
def sp__law_change : Sp := fun vs H Q _ => ∃ (p : Addr) (b : Bool) (H0 : Hp), vs = [.ref p, .bl b] ∧ Sd H0 H p ∧ ∀ R H' as f, Sd H0 H' p → Kp p H H' → OwRows H H' R as f → LeR (mb b) f → Q (.ref R) H'
section
theorem ok__law_change {P : Program} {w : World} {K : PySem.W.Frag} {mg : Str → Option Value} {base : Heap} {A : Nat → Addr} {D : Nat → FuncData} (T : Txt K mg A D) : FnOk P w K mg base (L2.CX P w) 3 (A 18) (D 18) ["stream", "is_picture"] (sp__law_change) := by
  refine T.F__law_change.okX sc__law_change (fun vs H Q E h => ?_) (fun cdv A' outer s H vs Q E hr h => ?_)
  · obtain ⟨p, b, H0, rfl, _⟩ := h
    rfl
  obtain ⟨p, b, H0, rfl, S, q⟩ := h
  refine ⟨_, (pss_cons (ps_set (i := 2) sc__law_change.nd rfl (.inl rfl) (pe_lst (pa_cons pe_int (pa_cons (pe_un un_neg pe_int) (pa_cons pe_int (pa_cons (pe_un un_neg pe_int) (pa_cons pe_int (pa_cons (pe_un un_neg pe_int) (pa_cons pe_int (pa_cons (pe_op op_sub (pe_call (ok__law_draw T) (hr.mono (by decide)) (by rfl) T.m__law_draw T.F__law_draw.kp T.b__law_draw .nil (passes_call (takes_of rfl rfl rfl rfl) (fun _ _ _ _ h => h)) (pa_cons (pv 0) (pa_cons pe_int pa_nil))) pe_int) pa_nil))))))))))
  (Evl.pss_cut (ps_if (pt_not (pt_val (pv 1)))
  (pss_one (ps_set (i := 2) sc__law_change.nd rfl (.inl rfl) (pe_op op_cat (pv 2) (pe_lst (pa_cons pe_int (pa_cons (pe_un un_neg pe_int) (pa_cons pe_int (pa_cons (Z.pe_powc (v := 100000000000000000000) ⟨by decide, by decide, by decide⟩ (by decide)) pa_nil))))))))
  pss_nil)
  (pss_cons (ps_set (i := 3) sc__law_change.nd rfl (.inr rfl) (pe_ix ix_list (pe_lst (pa_cons pe_int (pa_cons pe_int (pa_cons pe_int (pa_cons pe_int (pa_cons (pe_un un_neg pe_int) pa_nil)))))) (pe_call (ok__law_draw T) (hr.mono (by decide)) (by rfl) T.m__law_draw T.F__law_draw.kp T.b__law_draw .nil (passes_call (takes_of rfl rfl rfl rfl) (fun _ _ _ _ h => h)) (pa_cons (pv 0) (pa_cons pe_int pa_nil))) (fun _ _ => rfl)))
  (pss_cons (ps_setLc (i := 4) (own := [("row", 5)]) (g := gName 5) (tt := tYes) rfl sc__law_change.nd rfl rfl (sw_true rfl rfl rfl (by decide +kernel)) (pi_range1 (by rfl) T.z_range (pa_cons pe_int pa_nil)) (blkOk_by (N := ["stream", "is_picture", "values", "value", "rows", "row", "k", "column"]) (sc := defScope s__law_change) (by decide +kernel)) (fun _ _ _ _ _ => pg_name (i := 5) sc__law_change.nd rfl (Or.inl rfl)) (fun _ _ _ _ _ => pts_nil) (fun _ _ _ _ _ => (pe_op op_rep (pe_lst (pa_cons (pv 3) pa_nil)) pe_int)))
  (pss_cons (ps_for (passes_of rfl) rfl (pi_range1 (by rfl) T.z_range (pa_cons (pe_call (ok__law_draw T) (hr.mono (by decide)) (by rfl) T.m__law_draw T.F__law_draw.kp T.b__law_draw .nil (passes_call (takes_of rfl rfl rfl rfl) (fun _ _ _ _ h => h)) (pa_cons (pv 0) (pa_cons pe_int pa_nil))) pa_nil)) (pg_name (i := 6) sc__law_change.nd rfl (.inl rfl))
  (pss_cons (ps_set (i := 5) sc__law_change.nd rfl (.inl rfl) (pe_call (ok__law_at T) (hr.mono (by decide)) (by rfl) T.m__law_at T.F__law_at.kp T.b__law_at .nil (passes_call (takes_of rfl rfl rfl rfl) (fun _ _ _ _ h => h)) (pa_cons (pv 0) pa_nil)))
  (pss_cons (ps_set (i := 7) sc__law_change.nd rfl (.inl rfl) (pe_call (ok__law_at T) (hr.mono (by decide)) (by rfl) T.m__law_at T.F__law_at.kp T.b__law_at .nil (passes_call (takes_of rfl rfl rfl rfl) (fun _ _ _ _ h => h)) (pa_cons (pv 0) pa_nil)))
  (pss_one (ps_asg (pe_ix ix_list (pv 2) (pe_call (ok__law_draw T) (hr.mono (by decide)) (by rfl) T.m__law_draw T.F__law_draw.kp T.b__law_draw .nil (passes_call (takes_of rfl rfl rfl rfl) (fun _ _ _ _ h => h)) (pa_cons (pv 0) (pa_cons (pe_callB Z.c_len (by rfl) T.z_len (by decide +kernel) (pa_cons (pv 2) pa_nil)) pa_nil))) (fun _ _ => rfl)) (pg_sub (pe_ix ix_list (pv 4) (pv 5) (fun _ _ => rfl)) (pv 7) set_list))))))
  (pss_one (ps_ret (pv 4)))))))), ?_⟩
  walk_at "z"
  refine nx S (by decide) (lt1000 (by decide)) fun w0 H0' w00 w01 S0 e0 => ?_
  walk_at "z"
  intro v H1 fv s1 hv
  have S1 := S0.mono s1
  have kA : Kp p H H1 := (kp_eq e0).trans' (kp_of s1)
  have nv := S0.ne0 fv
  walk_at "z"
  refine z_cut (fun σ' H' => ∃ (v : Addr) (ns : List Int), σ' = [some (.ref p), some (.bl b), some (.ref v), none, none, none, none, none] ∧ Sd H0 H' p ∧ Kp p H H' ∧ H' v = some (.lst (ns.map V.int)) ∧ v ≠ p ∧ (∀ x ∈ ns, -(mb b) ≤ x ∧ x ≤ mb b) ∧ 0 < ns.length ∧ ns.length ≤ 12) ?_ ?_
  · walk_at "z"
    cases b with
    | false =>
      rw [if_pos (show (!false) = true from rfl)]
      walk_at "z"
      intro u Hu fu su hu
      walk_at "z"
      refine z_cat (su _ _ hv) hu (Nat.le_of_ble_eq_true rfl) fun t Ht ft st ht => ?_
      walk_at "z"
      refine ⟨t, [1, -1, 2, -2, 9999, -9999, 0, w0 - 9999, 19998, -19998, 20000, 100000000000000000000], rfl, (S1.mono su).mono st, (kA.trans' (kp_of su)).trans' (kp_of st), ht, (S1.mono su).ne0 ft, fun x hx => ?_, Nat.le_of_ble_eq_true rfl, Nat.le_of_ble_eq_true rfl⟩
      show -(10 ^ 20) ≤ x ∧ x ≤ 10 ^ 20
      simp only [List.mem_cons, List.not_mem_nil, or_false] at hx
      omega
    | true =>
      rw [if_neg (show ¬ (!true) = true by decide)]
      walk_at "z"
      refine ⟨v, [1, -1, 2, -2, 9999, -9999, 0, w0 - 9999], rfl, S1, kA, hv, nv, fun x hx => ?_, Nat.le_of_ble_eq_true rfl, Nat.le_of_ble_eq_true rfl⟩
      show -9999 ≤ x ∧ x ≤ 9999
      simp only [List.mem_cons, List.not_mem_nil, or_false] at hx
      omega
  clear kA S1 hv s1 fv nv S0 e0
  clear v
  rintro σ' H1 ⟨v, ns, rfl, S1, kA, hv, nv, hb, l0, l1⟩
  have p1 : H1 p ≠ none := by
    obtain ⟨_, _, _, st⟩ := S1.stm
    rw [st]
    simp
  walk_at "z"
  intro t Ht ft st ht
  walk_at "z"
  refine nx (S1.mono st) (by decide) (lt1000 (by decide)) fun w H2 w0 w1 S2 e2 => ?_
  have ht2 : H2 t = some (.lst (([0, 0, 0, 1, -1] : List Int).map V.int)) := (e2 t (S1.ne0 ft)).trans ht
  obtain ⟨x, hx, mx⟩ := at_ints (ns := [0, 0, 0, 1, -1]) w0 w1
  refine z_ixL (.inl (.inl ht2)) hx ?_
  walk_at "z"
  refine z_rowsW (fun _ _ => x) walk0 (fun R h => Cw.z_iRng (k := 48) (fun S h => by walk_at "z"; exact h) (by decide) h) (fun _ _ => trivial) (fun i y H' H2 R hi s y' c' => ?_) fun R H3 as s3 ow => ?_
  · obtain ⟨rfl, rfl⟩ := y'
    refine ⟨rfl, ?_⟩
    walk_at "z"
    intro a1 H7 f7 s7 h7
    walk_at "z"
    refine z_rep 48 h7 rfl (by decide) fun a2 H8 f8 s8 h8 => c' a2 H8 (fresh_of s7 f8) (s7.trans s8) ?_
    rw [h8, repc]
  have S3 := S2.mono s3
  have p2 : H2 p ≠ none := by
    obtain ⟨_, _, _, st⟩ := S2.stm
    rw [st]
    simp
  have k2 : Kp p H1 H2 := (kp_of st).trans' (kp_eq e2)
  have k3 : Kp p H1 H3 := k2.trans' (kp_of s3)
  replace ow := ow.base k2 p2
  have le : LeR (mb b) (fun _ _ => x) := fun r c _ _ => by
    have hx : -1 ≤ x ∧ x ≤ 1 := (by decide : ∀ x ∈ ([0, 0, 0, 1, -1] : List Int), -1 ≤ x ∧ x ≤ 1) x mx
    show -(mb b) ≤ x ∧ x ≤ mb b
    unfold mb
    split <;> omega
  clear hx mx
  walk_at "z"
  refine Z.z_forRE ?_
  walk_at "z"
  refine nx S3 (by decide) (lt1000 (by decide)) fun n H5 n0 n1 S5 e5 => ?_
  walk_at "z"
  obtain ⟨n, rfl⟩ : ∃ n' : Nat, n = (n' : Int) := ⟨n.toNat, by omega⟩
  refine Z.z_forRr n (by omega) (fun i σ' H' => Sd H0 H' p ∧ Kp p H1 H' ∧ ∃ (f : Nat → Nat → Int) (u4 u5 u6 : Option V), σ' = [some (.ref p), some (.bl b), some (.ref v), some (.int x), some (.ref R), u4, u5, u6] ∧ OwRows H1 H' R as f ∧ LeR (mb b) f) ⟨S5, k3.trans' (kp_eq e5), _, _, _, _, rfl, ow.kpo (kp_eq e5) p1, le⟩ ?_ ?_
  · clear ow le S5 S3 k3 e5
    rintro i σ' H6 hi ⟨S6, k6, f, u4, u5, u6, rfl, ow, le⟩
    walk_at "z"
    refine ⟨p, H0, rfl, S6, fun r H7 hr S7 k7 => ?_⟩
    walk_at "z"
    refine ⟨p, H0, rfl, S7, fun c H8 hc S8 k8 => ?_⟩
    walk_at "z"
    have k8' := (k6.trans' k7).trans' k8
    refine z_lenL (.inl (.inl (k8' v _ nv hv))) ?_
    walk_at "z"
    rw [List.length_map]
    refine nx S8 (by omega) (lt1000 (Nat.lt_of_le_of_lt (show ((ns.length : Int)).natAbs ≤ 100000 by omega) (by decide))) fun y H9 y0 y1 S9 e9 => ?_
    have k9 := k8'.trans' (kp_eq e9)
    obtain ⟨z, hz, mz⟩ := at_ints (ns := ns) y0 y1
    refine z_ixL (.inl (.inl (k9 v _ nv hv))) hz ?_
    have ow9 := (((ow.kpo k7 p1).kpo k8 p1).kpo (kp_eq e9) p1)
    obtain ⟨a, ha, hma, hra⟩ := row_at ow9.1 hr
    have fa := ow9.2.2.2.2 a (List.mem_of_getElem? ha)
    have nap : a ≠ p := fun z => p1 (by rw [← z]; exact fa)
    walk_at "z"
    refine z_ixL (.inl (.inl ow9.1.1)) (atI_nat hma) ?_
    walk_at "z"
    refine z_setL hra (k := c) (ixN_nat (by rw [List.length_map, mrow_len]; exact hc)) ?_
    refine ⟨S9.put (S1.none0 fa) nap, kp_put k9 fa, _, _, _, _, rfl, ow9.put ha hc, fun i j hi hj => ?_⟩
    show -(mb b) ≤ (if i = r ∧ j = c then z else f i j) ∧ (if i = r ∧ j = c then z else f i j) ≤ mb b
    split
    · exact hb z mz
    · exact le i j hi hj
  · rintro σ' H6 ⟨S6, k6, f, u4, u5, u6, rfl, ow, le⟩
    walk_at "z"
    exact q R H6 as f S6 (kA.trans' k6) (ow.base kA p1) le
end
def sp__law_added (C : Addr) : Sp := fun vs H Q _ => ∃ (p S : Addr) (bs : List Addr) (f g : Nat → Nat → Int) (k : Int), vs = [.ref p, .ref S, .int k] ∧ Pic C H p f ∧ RdRows H S bs g ∧ k.natAbs < 2 ^ 200 ∧ BdR g ∧
  (InR (fun r c => f r c + k * g r c) → ∀ H', Kp p H H' → PicF C H H' p (fun r c => f r c + k * g r c) → Q (.str "done") H') ∧ (¬ InR (fun r c => f r c + k * g r c) → ∀ H', Same H H' → Q (.str "refused") H')
section
theorem ok__law_added {P : Program} {w : World} {K : PySem.W.Frag} {mg : Str → Option Value} {base : Heap} {A : Nat → Addr} {D : Nat → FuncData} (T : Txt K mg A D) : FnOk P w K mg base (L2.CX P w) 4 (A 22) (D 22) ["picture", "rows", "times"] (sp__law_added (A 3)) := by
  refine T.F__law_added.okX sc__law_added (fun vs H Q E h => ?_) (fun cdv A' outer s H vs Q E hr h => ?_)
  · obtain ⟨p, S, bs, f, g, k, rfl, _⟩ := h
    rfl
  obtain ⟨p, S, bs, f, g, k, rfl, P, rd, hk, bg, q, no⟩ := h
  refine ⟨_, (pss_cons (ps_try_as (i := 3) (Wout := fun _ _ _ _ => False) rfl rfl sc__law_added.nd rfl rfl ⟨rfl, by decide, .inl T.x_FontError.g⟩ takes0 (fun W pn xe tk PO => (pss_one (ps_expr (Cw.pe_methNS (pv 0) T.q_Picture T.m_Picture_add_rows (ok_Picture_add_rows T) (hr.mono (by decide)) T.k_Picture_add_rows_factor (fun σ => passAt tk σ) (pa_cons (pv 1) pa_nil) (pk_cons (pv 2) pk_nil)))))
  (fun a oe cls d pn hz hf => (pss_cons (ps_if (PW.pt (pw_and (pt_val (pe_callB (Z.call_isE hz hf) (by rfl) T.z_isinstance (by decide +kernel) (pa_cons (pv 3) (pa_cons (Z.pe_globR T.x_TooGreat.g) pa_nil)))) (pw_and (pt_val (pe_callB (Z.call_isE hz hf) (by rfl) T.z_isinstance (by decide +kernel) (pa_cons (pv 3) (pa_cons (pe_bltn (v := .ty "ValueError") (by rfl) T.z_ValueError (by decide +kernel) rfl) pa_nil)))) (pw_and1 (pt_not (pt_val (pe_callB (Z.call_isE hz hf) (by rfl) T.z_isinstance (by decide +kernel) (pa_cons (pv 3) (pa_cons (Z.pe_globR T.x_OutOfRange.g) pa_nil)))))))))
  (pss_one (ps_ret pe_str))
  pss_nil)
  (pss_one (ps_ret pe_str)))))
  (pss_one (ps_ret pe_str))), ?_⟩
  obtain ⟨dx0, R, as, e, rd0⟩ := id P
  walk_at "z"
  refine Cw.z_methN e (Cw.look1n (by decide +kernel)) ?_
  walk_at "z"
  refine ⟨rfl, rfl, ?_⟩
  refine ⟨p, S, bs, f, g, k, rfl, P, rd, hk, bg, fun ir H' kk pf => ?_, fun ir H' s' => ?_⟩
  · walk_at "z"
    exact q ir H' kk pf
  · refine z_exc (exm T.x_FontError T.e_TooGreat_FontError) fun a ha => ?_
    walk_at "z"
    refine z_isEr T.x_TooGreat.c (kit_own T.x_TooGreat T.e_TooGreat_TooGreat T.e_TooGreat_TooGreat) ?_
    walk_at "z"
    refine z_isEt T.x_TooGreat.c (kit_ve T.x_TooGreat) ?_
    walk_at "z"
    refine z_isEr T.x_TooGreat.c (kit_own T.x_OutOfRange T.e_TooGreat_OutOfRange T.e_OutOfRange_OutOfRange) ?_
    walk_at "z"
    exact no ir H' s'
end
theorem PicF.mono {C p : Addr} {H H1 H2 : Hp} {f : Nat → Nat → Int} (h : PicF C H H1 p f) (s : Same H1 H2) : PicF C H H2 p f := by
  obtain ⟨dx, R, as, e, rd, r⟩ := h
  exact ⟨dx, R, as, s _ _ e, rd.mono s, r⟩
def sp__law_operated (C : Addr) : Sp := fun vs H Q _ => ∃ (p q : Addr) (f g : Nat → Nat → Int) (k : Int), vs = [.ref p, .ref q, .int k] ∧ (k = 1 ∨ k = -1) ∧ Pic C H p f ∧ Pic C H q g ∧ BdR g ∧
  (InR (fun r c => f r c + k * g r c) → ∀ t x H', Same H H' → H' t = some (.tup [.str "done", .ref x]) → PicF C H H' x (fun r c => f r c + k * g r c) → Q (.ref t) H') ∧ (¬ InR (fun r c => f r c + k * g r c) → ∀ t H', Same H H' → H' t = some (.tup [.str "refused", .non]) → Q (.ref t) H')
section
theorem ok__law_operated {P : Program} {w : World} {K : PySem.W.Frag} {mg : Str → Option Value} {base : Heap} {A : Nat → Addr} {D : Nat → FuncData} (T : Txt K mg A D) : FnOk P w K mg base (L2.CX P w) 5 (A 23) (D 23) ["first", "second", "times"] (sp__law_operated (A 3)) := by
  refine T.F__law_operated.okX sc__law_operated (fun vs H Q E h => ?_) (fun cdv A' outer s H vs Q E hr h => ?_)
  · obtain ⟨p, q', f, g, k, rfl, _⟩ := h
    rfl
  obtain ⟨p, q', f, g, k, rfl, hk, P, P2, bg, q, no⟩ := h
  refine ⟨_, (pss_cons (ps_try_as (i := 3) (Wout := fun _ _ _ _ => False) rfl rfl sc__law_operated.nd rfl rfl ⟨rfl, by decide, .inl T.x_FontError.g⟩ takes0 (fun W pn xe tk PO => (pss_cons (ps_if (pt_cmpR op_eq (pv 2) pe_int (nomark _))
  (pss_one (ps_ret (pe_tup (pa_cons pe_str (pa_cons (Co.pe_own T.sf_Picture T.m_Picture___add__.at_ T.m_Picture___add__.fn (ok_Picture___add__ T) (hr.mono (by decide)) T.b_Picture___add__ (fun σ => passAt tk σ) (pv 0) (pv 1)) pa_nil)))))
  pss_nil)
  (pss_one (ps_ret (pe_tup (pa_cons pe_str (pa_cons (Co.pe_own T.sf_Picture T.m_Picture___sub__.at_ T.m_Picture___sub__.fn (ok_Picture___sub__ T) (hr.mono (by decide)) T.b_Picture___sub__ (fun σ => passAt tk σ) (pv 0) (pv 1)) pa_nil)))))))
  (fun a oe cls d pn hz hf => (pss_one (ps_if (PW.pt (pw_and (pt_val (pe_callB (Z.call_isE hz hf) (by rfl) T.z_isinstance (by decide +kernel) (pa_cons (pv 3) (pa_cons (Z.pe_globR T.x_TooGreat.g) pa_nil)))) (pw_and (pt_val (pe_callB (Z.call_isE hz hf) (by rfl) T.z_isinstance (by decide +kernel) (pa_cons (pv 3) (pa_cons (pe_bltn (v := .ty "ValueError") (by rfl) T.z_ValueError (by decide +kernel) rfl) pa_nil)))) (pw_and1 (pt_not (pt_val (pe_callB (Z.call_isE hz hf) (by rfl) T.z_isinstance (by decide +kernel) (pa_cons (pv 3) (pa_cons (Z.pe_globR T.x_OutOfRange.g) pa_nil)))))))))
  (pss_one (ps_ret (pe_tup (pa_cons pe_str (pa_cons pe_non pa_nil)))))
  pss_nil))))
  (pss_one (ps_ret (pe_tup (pa_cons pe_str (pa_cons pe_non pa_nil)))))), ?_⟩
  walk_at "z"
  obtain ⟨dx0, R0, as0, e0, rd0⟩ := id P
  obtain ⟨dx1, R1, as1, e1, rd1⟩ := id P2
  rcases hk with rfl | rfl
  · refine z_if (fun _ => ?_) (fun h => absurd rfl h)
    walk_at "z"
    refine Co.z_own e0 e1 ?_
    refine ⟨p, q', f, g, rfl, P, P2, bg, fun ir x H' fx s' pf => ?_, fun ir H' s' => ?_⟩
    · walk_at "z"
      intro t Ht ft st ht
      walk_at "z"
      exact q ir t x Ht (s'.trans st) ht (pf.mono st)
    · refine z_exc (exm T.x_FontError T.e_TooGreat_FontError) fun a ha => ?_
      walk_at "z"
      refine z_isEr T.x_TooGreat.c (kit_own T.x_TooGreat T.e_TooGreat_TooGreat T.e_TooGreat_TooGreat) ?_
      walk_at "z"
      refine z_isEt T.x_TooGreat.c (kit_ve T.x_TooGreat) ?_
      walk_at "z"
      refine z_isEr T.x_TooGreat.c (kit_own T.x_OutOfRange T.e_TooGreat_OutOfRange T.e_OutOfRange_OutOfRange) ?_
      walk_at "z"
      intro t Ht ft st ht
      walk_at "z"
      exact no ir t Ht (s'.trans st) ht
  · refine z_if (fun h => absurd h (by decide)) (fun _ => ?_)
    walk_at "z"
    refine Co.z_own e0 e1 ?_
    refine ⟨p, q', f, g, rfl, P, P2, bg, fun ir x H' fx s' pf => ?_, fun ir H' s' => ?_⟩
    · walk_at "z"
      intro t Ht ft st ht
      walk_at "z"
      exact q ir t x Ht (s'.trans st) ht (pf.mono st)
    · refine z_exc (exm T.x_FontError T.e_TooGreat_FontError) fun a ha => ?_
      walk_at "z"
      refine z_isEr T.x_TooGreat.c (kit_own T.x_TooGreat T.e_TooGreat_TooGreat T.e_TooGreat_TooGreat) ?_
      walk_at "z"
      refine z_isEt T.x_TooGreat.c (kit_ve T.x_TooGreat) ?_
      walk_at "z"
      refine z_isEr T.x_TooGreat.c (kit_own T.x_OutOfRange T.e_TooGreat_OutOfRange T.e_OutOfRange_OutOfRange) ?_
      walk_at "z"
      intro t Ht ft st ht
      walk_at "z"
      exact no ir t Ht (s'.trans st) ht
end
theorem z_neS {x : Str} {H : Hp} {Q : VK} (q : Q (.bl false) H) : rNe (.str x) (.str x) H Q := ⟨rfl, by rw [decide_eq_true (rfl : V.str x = V.str x)]; exact q⟩
def sp__law_operator_is_right (C : Addr) : Sp := fun vs H Q _ => ∃ (p q R S : Addr) (as bs : List Addr) (f g : Nat → Nat → Int) (k : Int), vs = [.ref p, .ref q, .ref R, .ref S, .int k] ∧ (k = 1 ∨ k = -1) ∧ Pic C H p f ∧ Pic C H q g ∧ RdRows H R as f ∧ RdRows H S bs g ∧ BdR g ∧ ∀ H', Same H H' → Q (.bl true) H'
section
theorem ok__law_operator_is_right {P : Program} {w : World} {K : PySem.W.Frag} {mg : Str → Option Value} {base : Heap} {A : Nat → Addr} {D : Nat → FuncData} (T : Txt K mg A D) : FnOk P w K mg base (L2.CX P w) 6 (A 24) (D 24) ["first", "second", "rows", "change", "times"] (sp__law_operator_is_right (A 3)) := by
  refine T.F__law_operator_is_right.okX sc__law_operator_is_right (fun vs H Q E h => ?_) (fun cdv A' outer s H vs Q E hr h => ?_)
  · obtain ⟨p, q', R, S, as, bs, f, g, k, rfl, _⟩ := h
    rfl
  obtain ⟨p, q', R, S, as, bs, f, g, k, rfl, hk, P, P2, rd, rd2, bg, q⟩ := h
  refine ⟨_, (pss_cons (ps_asg (pe_call (ok__law_operated T) (hr.mono (by decide)) (by rfl) T.m__law_operated T.F__law_operated.kp T.b__law_operated .nil (passes_call (takes_of rfl rfl rfl rfl) (fun _ _ _ _ h => h)) (pa_cons (pv 0) (pa_cons (pv 1) (pa_cons (pv 4) pa_nil)))) (pg_tup (by rfl) (pgs_cons (pg_name (i := 5) sc__law_operator_is_right.nd rfl (.inl rfl)) (pgs_cons (pg_name (i := 6) sc__law_operator_is_right.nd rfl (.inl rfl)) pgs_nil))))
  (pss_cons (ps_set (i := 7) sc__law_operator_is_right.nd rfl (.inl rfl) (pe_call (ok__law_sum T) (hr.mono (by decide)) (by rfl) T.m__law_sum T.F__law_sum.kp T.b__law_sum .nil (passes_call (takes_of rfl rfl rfl rfl) (fun _ _ _ _ h => h)) (pa_cons (pv 2) (pa_cons (pv 3) (pa_cons (pv 4) pa_nil)))))
  (pss_cons (ps_if (pt_val (pe_call (ok__law_fits T) (hr.mono (by decide)) (by rfl) T.m__law_fits T.F__law_fits.kp T.b__law_fits .nil (passes_call (takes_of rfl rfl rfl rfl) (fun _ _ _ _ h => h)) (pa_cons (pv 7) pa_nil)))
  (pss_one (ps_if (PW.pt (pw_or (pt_cmpR op_ne (pv 5) pe_str (nomark _)) (pw_or (pt_not (pt_val (pe_callB call_isi (by rfl) T.z_isinstance (by decide +kernel) (pa_cons (pv 6) (pa_cons (Z.pe_globR T.g_Picture) pa_nil))))) (pw_or1 (pt_not (pt_val (pe_call (ok__law_same_rows T) (hr.mono (by decide)) (by rfl) T.m__law_same_rows T.F__law_same_rows.kp T.b__law_same_rows .nil (passes_call (takes_of rfl rfl rfl rfl) (fun _ _ _ _ h => h)) (pa_cons (pe_meth0 (pv 6) T.q_Picture T.m_Picture_rows (ok_Picture_rows T) (hr.mono (by decide)) T.b_Picture_rows .nil (passes_call (takes_of rfl rfl rfl rfl) (fun _ _ _ _ h => h))) (pa_cons (pv 7) pa_nil)))))))))
  (pss_one (ps_ret pe_bl))
  pss_nil))
  (pss_one (ps_if (pt_cmpR op_ne (pv 5) pe_str (nomark _))
  (pss_one (ps_ret pe_bl))
  pss_nil)))
  (pss_one (ps_ret (pe_and (pe_call (ok__law_same_rows T) (hr.mono (by decide)) (by rfl) T.m__law_same_rows T.F__law_same_rows.kp T.b__law_same_rows .nil (passes_call (takes_of rfl rfl rfl rfl) (fun _ _ _ _ h => h)) (pa_cons (pe_meth0 (pv 0) T.q_Picture T.m_Picture_rows (ok_Picture_rows T) (hr.mono (by decide)) T.b_Picture_rows .nil (passes_call (takes_of rfl rfl rfl rfl) (fun _ _ _ _ h => h))) (pa_cons (pv 2) pa_nil))) (pe_one (pe_call (ok__law_same_rows T) (hr.mono (by decide)) (by rfl) T.m__law_same_rows T.F__law_same_rows.kp T.b__law_same_rows .nil (passes_call (takes_of rfl rfl rfl rfl) (fun _ _ _ _ h => h)) (pa_cons (pe_meth0 (pv 1) T.q_Picture T.m_Picture_rows (ok_Picture_rows T) (hr.mono (by decide)) T.b_Picture_rows .nil (passes_call (takes_of rfl rfl rfl rfl) (fun _ _ _ _ h => h))) (pa_cons (pv 3) pa_nil)))))))))), ?_⟩
  have hkb : k.natAbs < 2 ^ 200 := by rcases hk with rfl | rfl <;> decide
  walk_at "z"
  refine ⟨p, q', f, g, k, rfl, hk, P, P2, bg, fun ir t x H1 s1 ht pf => ?_, fun ir t H1 s1 ht => ?_⟩
  · refine z_gT (.inl (.inl ht)) rfl ?_
    walk_at "z"
    refine ⟨R, S, as, bs, f, g, k, rfl, rd.mono s1, rd2.mono s1, hkb, bg, fun R' H2 as' s2 ow => ?_⟩
    walk_at "z"
    refine ⟨R', as', _, rfl, ow.1, fun _ => ?_, fun h => absurd ir h⟩
    walk_at "z"
    refine z_neS ?_
    walk_at "z"
    refine ty_pic (pf.mono s2).pic T.q_Picture T.ic_Picture T.oc_g T.oc_t T.im_Picture ?_
    walk_at "z"
    obtain ⟨_, _, _, ex, _⟩ := (pf.mono s2).pic
    refine Cw.z_meth ex (Cw.look1n (by decide +kernel)) ?_
    walk_at "z"
    refine ⟨x, _, rfl, (pf.mono s2).pic, fun Ra H3 as3 s3 ow3 => ?_⟩
    walk_at "z"
    refine ⟨Ra, R', as3, as', _, _, rfl, ow3.1, ow.1.mono s3, fun _ _ _ _ => rfl, ?_⟩
    walk_at "z"
    have t3 := (s1.trans s2).trans s3
    have P3 := P.mono t3
    obtain ⟨_, _, _, e3, _⟩ := id P3
    refine Cw.z_meth e3 (Cw.look1n (by decide +kernel)) ?_
    walk_at "z"
    refine ⟨p, f, rfl, P3, fun Rb H4 as4 s4 ow4 => ?_⟩
    walk_at "z"
    refine ⟨Rb, R, as4, as, f, f, rfl, ow4.1, (rd.mono t3).mono s4, fun _ _ _ _ => rfl, ?_⟩
    walk_at "z"
    have Q4 := (P2.mono t3).mono s4
    obtain ⟨_, _, _, e4, _⟩ := id Q4
    refine Cw.z_meth e4 (Cw.look1n (by decide +kernel)) ?_
    walk_at "z"
    refine ⟨q', g, rfl, Q4, fun Rc H5 as5 s5 ow5 => ?_⟩
    walk_at "z"
    refine ⟨Rc, S, as5, bs, g, g, rfl, ow5.1, ((rd2.mono t3).mono s4).mono s5, fun _ _ _ _ => rfl, ?_⟩
    exact q H5 ((t3.trans s4).trans s5)
  · refine z_gT (.inl (.inl ht)) rfl ?_
    walk_at "z"
    refine ⟨R, S, as, bs, f, g, k, rfl, rd.mono s1, rd2.mono s1, hkb, bg, fun R' H2 as' s2 ow => ?_⟩
    walk_at "z"
    refine ⟨R', as', _, rfl, ow.1, fun h => absurd h ir, fun _ => ?_⟩
    walk_at "z"
    refine z_neS ?_
    walk_at "z"
    have t3 := s1.trans s2
    have P3 := P.mono t3
    obtain ⟨_, _, _, e3, _⟩ := id P3
    refine Cw.z_meth e3 (Cw.look1n (by decide +kernel)) ?_
    walk_at "z"
    refine ⟨p, f, rfl, P3, fun Rb H4 as4 s4 ow4 => ?_⟩
    walk_at "z"
    refine ⟨Rb, R, as4, as, f, f, rfl, ow4.1, (rd.mono t3).mono s4, fun _ _ _ _ => rfl, ?_⟩
    walk_at "z"
    have Q4 := (P2.mono t3).mono s4
    obtain ⟨_, _, _, e4, _⟩ := id Q4
    refine Cw.z_meth e4 (Cw.look1n (by decide +kernel)) ?_
    walk_at "z"
    refine ⟨q', g, rfl, Q4, fun Rc H5 as5 s5 ow5 => ?_⟩
    walk_at "z"
    refine ⟨Rc, S, as5, bs, g, g, rfl, ow5.1, ((rd2.mono t3).mono s4).mono s5, fun _ _ _ _ => rfl, ?_⟩
    exact q H5 ((t3.trans s4).trans s5)
end
def sp_law (K : PySem.W.Frag) : Sp := fun vs H Q _ => ∃ (a : Addr) (ns : List Int), vs = [.ref a] ∧ SqL K H a (ns.map V.int) ∧ ns.length ≤ 63 ∧ ∀ H', Q (.bl true) H'
section
theorem ok_law {P : Program} {w : World} {K : PySem.W.Frag} {mg : Str → Option Value} {base : Heap} {A : Nat → Addr} {D : Nat → FuncData} (T : Txt K mg A D) : FnOk P w K mg base CX0 7 (A 25) (D 25) ["script"] (sp_law K) := by
  obtain ⟨ds_Picture_add_rows, vd_Picture_add_rows, bd_Picture_add_rows⟩ := T.b_Picture_add_rows
  refine T.F_law.ok sc_law (fun vs H Q E h => ?_) (fun cdv A' outer s H vs Q E hr h => ?_)
  · obtain ⟨l, ns, rfl, _⟩ := h
    rfl
  obtain ⟨l, ns, rfl, hS, _, q⟩ := h
  refine ⟨_, (pss_cons (ps_set (i := 1) sc_law.nd rfl (.inl rfl) (pe_call (ok__law_stream T) (hr.mono (by decide)) (by rfl) T.m__law_stream T.F__law_stream.kp T.b__law_stream .nil passL (pa_cons (pe_call (ok__law_cell T) (hr.mono (by decide)) (by rfl) T.m__law_cell T.F__law_cell.kp T.b__law_cell .nil passL (pa_cons (pv 0) (pa_cons pe_int pa_nil))) pa_nil)))
  (pss_cons (ps_set (i := 2) sc_law.nd rfl (.inl rfl) (pe_call (ok__law_weights T) (hr.mono (by decide)) (by rfl) T.m__law_weights T.F__law_weights.kp T.b__law_weights .nil passL (pa_cons (pv 1) pa_nil)))
  (pss_cons (ps_set (i := 3) sc_law.nd rfl (.inl rfl) (pe_make0 T.M_Picture (ok_Picture___init__ T) (hr.mono (by decide)) (by rfl) T.g_Picture T.b_Picture___init__ .nil passL))
  (pss_cons (ps_expr (pe_meth (pv 3) T.q_Picture T.m_Picture_add_rows (ok_Picture_add_rows T) (hr.mono (by decide)) bd_Picture_add_rows vd_Picture_add_rows passL (pa_cons (pe_call (ok__law_copy T) (hr.mono (by decide)) (by rfl) T.m__law_copy T.F__law_copy.kp T.b__law_copy .nil passL (pa_cons (pv 2) pa_nil)) pa_nil)))
  (pss_cons (ps_for PassesOwn.never rfl (pi_range1 (by rfl) T.z_range (pa_cons (pe_op op_add (pe_call (ok__law_draw T) (hr.mono (by decide)) (by rfl) T.m__law_draw T.F__law_draw.kp T.b__law_draw .nil passL (pa_cons (pv 1) (pa_cons pe_int pa_nil))) pe_int) pa_nil)) (pg_name (i := 4) sc_law.nd rfl (.inl rfl))
  (pss_cons (ps_set (i := 5) sc_law.nd rfl (.inl rfl) (pe_call (ok__law_stream T) (hr.mono (by decide)) (by rfl) T.m__law_stream T.F__law_stream.kp T.b__law_stream .nil passL (pa_cons (pe_call (ok__law_cell T) (hr.mono (by decide)) (by rfl) T.m__law_cell T.F__law_cell.kp T.b__law_cell .nil passL (pa_cons (pv 0) (pa_cons (pe_op op_add (pv 4) pe_int) pa_nil))) pa_nil)))
  (pss_cons (ps_set (i := 6) sc_law.nd rfl (.inl rfl) (pe_call (ok__law_draw T) (hr.mono (by decide)) (by rfl) T.m__law_draw T.F__law_draw.kp T.b__law_draw .nil passL (pa_cons (pv 5) (pa_cons pe_int pa_nil))))
  (pss_cons (ps_set (i := 7) sc_law.nd rfl (.inl rfl) (pe_call (ok__law_change T) (hr.mono (by decide)) (by rfl) T.m__law_change T.F__law_change.kp T.b__law_change .nil passL (pa_cons (pv 5) (pa_cons (pe_cmpR op_eq (pv 6) pe_int (nomark _)) pa_nil))))
  (pss_one (ps_if (pt_cmpR op_eq (pv 6) pe_int (nomark _))
  (pss_cons (ps_set (i := 8) sc_law.nd rfl (.inl rfl) (pe_make0 T.M_Picture (ok_Picture___init__ T) (hr.mono (by decide)) (by rfl) T.g_Picture T.b_Picture___init__ .nil passL))
  (pss_cons (ps_expr (pe_meth (pv 8) T.q_Picture T.m_Picture_add_rows (ok_Picture_add_rows T) (hr.mono (by decide)) bd_Picture_add_rows vd_Picture_add_rows passL (pa_cons (pe_call (ok__law_copy T) (hr.mono (by decide)) (by rfl) T.m__law_copy T.F__law_copy.kp T.b__law_copy .nil passL (pa_cons (pv 7) pa_nil)) pa_nil)))
  (pss_cons (ps_set (i := 9) sc_law.nd rfl (.inl rfl) (pe_op op_sub pe_int (pe_op op_mul pe_int (pe_call (ok__law_draw T) (hr.mono (by decide)) (by rfl) T.m__law_draw T.F__law_draw.kp T.b__law_draw .nil passL (pa_cons (pv 5) (pa_cons pe_int pa_nil))))))
  (pss_one (ps_if (pt_not (pt_val (pe_call (ok__law_operator_is_right T) (hr.mono (by decide)) (by rfl) T.m__law_operator_is_right T.F__law_operator_is_right.kp T.b__law_operator_is_right .nil passL (pa_cons (pv 3) (pa_cons (pv 8) (pa_cons (pv 2) (pa_cons (pv 7) (pa_cons (pv 9) pa_nil))))))))
  (pss_one (ps_ret pe_bl))
  pss_nil)))))
  (pss_cons (ps_set (i := 9) sc_law.nd rfl (.inl rfl) (pe_ix ix_list (pe_lst (pa_cons pe_int (pa_cons (pe_un un_neg pe_int) (pa_cons pe_int (pa_cons pe_int (pa_cons pe_int (pa_cons (pe_un un_neg pe_int) (pa_cons pe_int (pa_cons (Z.pe_powc (v := 100000000000000000000) ⟨by decide, by decide, by decide⟩ (by decide)) pa_nil))))))))) (pe_call (ok__law_draw T) (hr.mono (by decide)) (by rfl) T.m__law_draw T.F__law_draw.kp T.b__law_draw .nil passL (pa_cons (pv 5) (pa_cons pe_int pa_nil))) (fun _ _ => rfl)))
  (pss_cons (ps_set (i := 10) sc_law.nd rfl (.inl rfl) (pe_call (ok__law_sum T) (hr.mono (by decide)) (by rfl) T.m__law_sum T.F__law_sum.kp T.b__law_sum .nil passL (pa_cons (pv 2) (pa_cons (pv 7) (pa_cons (pv 9) pa_nil)))))
  (pss_cons (ps_set (i := 11) sc_law.nd rfl (.inl rfl) (pe_call (ok__law_added T) (hr.mono (by decide)) (by rfl) T.m__law_added T.F__law_added.kp T.b__law_added .nil passL (pa_cons (pv 3) (pa_cons (pe_call (ok__law_copy T) (hr.mono (by decide)) (by rfl) T.m__law_copy T.F__law_copy.kp T.b__law_copy .nil passL (pa_cons (pv 7) pa_nil)) (pa_cons (pv 9) pa_nil)))))
  (pss_cons (ps_if (pt_val (pe_call (ok__law_fits T) (hr.mono (by decide)) (by rfl) T.m__law_fits T.F__law_fits.kp T.b__law_fits .nil passL (pa_cons (pv 10) pa_nil)))
  (pss_cons (ps_set (i := 2) sc_law.nd rfl (.inl rfl) (pv 10))
  (pss_one (ps_if (pt_cmpR op_ne (pv 11) pe_str (nomark _))
  (pss_one (ps_ret pe_bl))
  pss_nil)))
  (pss_one (ps_if (pt_cmpR op_ne (pv 11) pe_str (nomark _))
  (pss_one (ps_ret pe_bl))
  pss_nil)))
  (pss_one (ps_if (pt_not (pt_val (pe_call (ok__law_same_rows T) (hr.mono (by decide)) (by rfl) T.m__law_same_rows T.F__law_same_rows.kp T.b__law_same_rows .nil passL (pa_cons (pe_meth0 (pv 3) T.q_Picture T.m_Picture_rows (ok_Picture_rows T) (hr.mono (by decide)) T.b_Picture_rows .nil passL) (pa_cons (pv 2) pa_nil)))))
  (pss_one (ps_ret pe_bl))
  pss_nil))))))))))))
  (pss_one (ps_ret pe_bl))))))), ?_⟩
  walk_at "z"
  refine ⟨l, ns, 0, rfl, hS, fun v => ?_⟩
  walk_at "z"
  refine ⟨v, rfl, fun p H1 i1 j1 m hp s1 h1 => ?_⟩
  have S1 := Sd.mk0 hp s1 h1
  walk_at "z"
  refine ⟨p, H, rfl, S1, fun R0 H2 as0 f S2 k2 ow0 le => ?_⟩
  have rd2 := ow0.1
  clear ow0 k2 S1 h1 s1 hp
  walk_at "z"
  intro x dx fx fdx nex
  refine pic_new fx fdx fun H3 s3 P3 => ⟨rfl, ?_⟩
  walk_at "z"
  obtain ⟨dx3, R3, as3, e3, rd3⟩ := id P3
  refine Cw.z_meth e3 (Cw.look1n (by decide +kernel)) ?_
  walk_at "z"
  refine ⟨R0, as0, f, rfl, rd2.mono s3, fun Rc H4 asc s4 owc => ?_⟩
  walk_at "z"
  have ir0 : InR (fun r c => 0 + 1 * f r c) := fun r c hr hc => by
    have := le r c hr hc
    show -9999 ≤ 0 + 1 * f r c ∧ 0 + 1 * f r c ≤ 9999
    omega
  refine ⟨x, Rc, asc, _, f, 1, rfl, P3.mono s4, owc.1, by decide, le_bd le (by decide), fun _ H5 k5 P5 => ?_, fun no => absurd ir0 no⟩
  have P5 : Pic (A 3) H5 x f := P5.pic.congr fun r c _ _ => by omega
  have s25 : Same H2 H5 := same_kp (s3.trans s4) k5 fx
  have rd5 := rd2.mono s25
  have S5 := S2.mono s25
  have hx0 : H x = none := S2.none0 fx
  clear k5 owc e3 rd3 P3 s3 s4 s25 rd2 S2 fdx nex fx le
  walk_at "z"
  refine Z.z_forRE ?_
  walk_at "z"
  refine nx S5 (by decide) (lt1000 (by decide)) fun n H6 n0 n1 S6 e6 => ?_
  walk_at "z"
  have nxp : x ≠ p := fun z => by
    obtain ⟨_, _, _, e, _⟩ := id P5
    obtain ⟨_, _, _, st⟩ := S5.stm
    rw [z, st] at e
    cases e
  have P6 := pic_kpst P5 S5.stm (kp_eq e6) nxp
  have rd6 := rd_kpst rd5 S5.stm (kp_eq e6)
  have s6 := S6.same
  clear P5 rd5 S5 S6 e6
  obtain ⟨m, hm⟩ : ∃ m : Nat, n + 2 = (m : Int) := ⟨(n + 2).toNat, by omega⟩
  rw [hm]
  refine Z.z_forRr m (by omega) (fun i σ' H' => Same H H' ∧ ∃ (R : Addr) (as : List Addr) (f : Nat → Nat → Int) (u4 u5 u6 u7 u8 u9 u10 u11 : Option V), σ' = [some (.ref l), some (.ref p), some (.ref R), some (.ref x), u4, u5, u6, u7, u8, u9, u10, u11] ∧ Pic (A 3) H' x f ∧ RdRows H' R as f) ⟨s6, _, _, _, _, _, _, _, _, _, _, _, rfl, P6, rd6⟩ ?_ ?_
  · clear P6 rd6 s6 nxp
    rintro i σ' H7 hi ⟨s7, R, as, f, u4, u5, u6, u7, u8, u9, u10, u11, rfl, P, rd⟩
    walk_at "z"
    refine ⟨l, ns, i + 1, rfl, s7.seq hS, fun v => ?_⟩
    walk_at "z"
    refine ⟨v, rfl, fun pc H8 i8 j8 m8 hp8 s8 h8 => ?_⟩
    have S8 := Sd.mk0 hp8 s8 h8
    clear s8 h8
    walk_at "z"
    refine nx S8 (by decide) (lt1000 (by decide)) fun kd H9 _ _ S9 e9 => ?_
    walk_at "z"
    refine ⟨pc, decide (kd = 0), H7, rfl, S9, fun Rg HA asg g SA kA owA leg => ?_⟩
    have rg := owA.1
    have bg : BdR g := bd_le leg (by unfold mb; split <;> decide)
    clear kA owA S9 e9 S8
    walk_at "z"
    refine z_if (fun hk => ?_) (fun hk => ?_)
    · walk_at "z"
      intro y dy fy fdy ney
      refine pic_new fy fdy fun HB sB PB => ⟨rfl, ?_⟩
      walk_at "z"
      obtain ⟨dxB, RB, asB, eB, rdB⟩ := id PB
      refine Cw.z_meth eB (Cw.look1n (by decide +kernel)) ?_
      walk_at "z"
      refine ⟨Rg, asg, g, rfl, rg.mono sB, fun Rc HC asc sC owc => ?_⟩
      walk_at "z"
      have ir1 : InR (fun r c => 0 + 1 * g r c) := fun r c hr hc => by
        have := leg r c hr hc
        rw [decide_eq_true hk] at this
        have : -9999 ≤ g r c ∧ g r c ≤ 9999 := this
        show -9999 ≤ 0 + 1 * g r c ∧ 0 + 1 * g r c ≤ 9999
        omega
      refine ⟨y, Rc, asc, _, g, 1, rfl, PB.mono sC, owc.1, by decide, bg, fun _ HD kD PD => ?_, fun no => absurd ir1 no⟩
      have PD : Pic (A 3) HD y g := PD.pic.congr fun r c _ _ => by omega
      have sAD : Same HA HD := same_kp (sB.trans sC) kD fy
      have SD := SA.mono sAD
      have rgD := rg.mono sAD
      have nyp := SA.ne0 fy
      clear kD owc eB rdB PB sB sC sAD fy fdy ney SA rg ir1
      walk_at "z"
      refine nx SD (by decide) (lt1000 (by decide)) fun d HE d0 d1 SE eE => ?_
      walk_at "z"
      have PE := pic_kpst PD SD.stm (kp_eq eE) nyp
      have rgE := rd_kpst rgD SD.stm (kp_eq eE)
      have s7E := SE.same
      refine ⟨x, y, R, Rg, as, asg, f, g, 1 - 2 * d, rfl, by omega, P.mono s7E, PE, rd.mono s7E, rgE, bg, fun HF sF => ?_⟩
      walk_at "z"
      exact ⟨(s7.trans s7E).trans sF, R, as, f, _, _, _, _, _, _, _, _, rfl, (P.mono s7E).mono sF, (rd.mono s7E).mono sF⟩
    · walk_at "z"
      intro t Ht ft st ht
      walk_at "z"
      refine nx (SA.mono st) (by decide) (lt1000 (by decide)) fun w HB w0 w1 SB eB => ?_
      have htB : HB t = some (.lst (([1, -1, 2, 0, 1, -1, 19998, 100000000000000000000] : List Int).map V.int)) := (eB t (SA.ne0 ft)).trans ht
      obtain ⟨k, hk', mk⟩ := at_ints (ns := [1, -1, 2, 0, 1, -1, 19998, 100000000000000000000]) w0 w1
      have kb : k.natAbs < 2 ^ 200 := by
        simp only [List.mem_cons, List.not_mem_nil, or_false] at mk
        rcases mk with rfl | rfl | rfl | rfl | rfl | rfl | rfl | rfl <;> decide
      refine z_ixL (.inl (.inl htB)) hk' ?_
      have rgB := rd_kpst (rg.mono st) (SA.mono st).stm (kp_eq eB)
      have s7B := SB.same
      have PB := P.mono s7B
      have rdB := rd.mono s7B
      clear htB hk' mk w0 w1 eB st ht ft SA rg
      walk_at "z"
      refine ⟨R, Rg, as, asg, f, g, k, rfl, rdB, rgB, kb, bg, fun Re HC ase sC owC => ?_⟩
      walk_at "z"
      refine ⟨Rg, asg, g, rfl, rgB.mono sC, fun Rc HD asc sD owc => ?_⟩
      walk_at "z"
      have sBD := sC.trans sD
      have PD := PB.mono sBD
      have reD := owC.1.mono sD
      have rdD := rdB.mono sBD
      have s7D := s7B.trans sBD
      refine ⟨x, Rc, asc, f, g, k, rfl, PD, owc.1, kb, bg, fun ir HE kE pE => ?_, fun ir HE sE => ?_⟩
      · walk_at "z"
        have no := PD.nolst
        have reE := reD.kp kE (reD.out no).1 (reD.out no).2
        have sHE : Same H HE := same_kp (s7.trans s7D) kE hx0
        refine ⟨Re, ase, _, rfl, reE, fun _ => ?_, fun h => absurd ir h⟩
        walk_at "z"
        refine z_neS ?_
        walk_at "z"
        obtain ⟨_, _, _, ex, _⟩ := pE.pic
        refine Cw.z_meth ex (Cw.look1n (by decide +kernel)) ?_
        walk_at "z"
        refine ⟨x, _, rfl, pE.pic, fun Ra HF as3 sF owF => ?_⟩
        walk_at "z"
        refine ⟨Ra, Re, as3, ase, _, _, rfl, owF.1, reE.mono sF, fun _ _ _ _ => rfl, ?_⟩
        walk_at "z"
        exact ⟨sHE.trans sF, Re, ase, _, _, _, _, _, _, _, _, _, rfl, pE.pic.mono sF, reE.mono sF⟩
      · walk_at "z"
        refine ⟨Re, ase, _, rfl, reD.mono sE, fun h => absurd h ir, fun _ => ?_⟩
        walk_at "z"
        refine z_neS ?_
        walk_at "z"
        have PE := PD.mono sE
        obtain ⟨_, _, _, ex, _⟩ := id PE
        refine Cw.z_meth ex (Cw.look1n (by decide +kernel)) ?_
        walk_at "z"
        refine ⟨x, f, rfl, PE, fun Ra HF as3 sF owF => ?_⟩
        walk_at "z"
        have rdF := (rdD.mono sE).mono sF
        refine ⟨Ra, R, as3, as, f, f, rfl, owF.1, rdF, fun _ _ _ _ => rfl, ?_⟩
        walk_at "z"
        exact ⟨((s7.trans s7D).trans sE).trans sF, R, as, f, _, _, _, _, _, _, _, _, rfl, PE.mono sF, rdF⟩
  · rintro σ' H7 ⟨s7, R, as, f, u4, u5, u6, u7, u8, u9, u10, u11, rfl, P, rd⟩
    walk_at "z"
    exact q _
end

theorem all_mk {l : PySem.W.OpenLaw} {w : World} {K : PySem.W.Frag} {h : Heap} {mg : Str → Option Value} {fa : Addr} (X : K.In h) (G : h.Ns mainGlobals mg) (hfa : mg "law" = some (.ref fa))
    {a4 : Addr} {od4 an4 : Option Addr} {sl4 : Array (Option Value)} {oc4 kV4 dc4 pm4 cd4 ct4 : Value} {a5 : Addr} {od5 an5 : Option Addr} {sl5 : Array (Option Value)} {oc5 kV5 dc5 pm5 cd5 ct5 : Value} {a6 : Addr} {od6 an6 : Option Addr} {sl6 : Array (Option Value)} {oc6 kV6 dc6 pm6 cd6 ct6 : Value} {a7 : Addr} {od7 an7 : Option Addr} {sl7 : Array (Option Value)} {oc7 dc7 pm7 cd7 ct7 : Value} {kd7 : Addr} {kt7_factor : Tok} {a8 : Addr} {od8 an8 : Option Addr} {sl8 : Array (Option Value)} {oc8 kV8 dc8 pm8 cd8 ct8 : Value} {a9 : Addr} {od9 an9 : Option Addr} {sl9 : Array (Option Value)} {oc9 kV9 dc9 pm9 cd9 ct9 : Value} {a10 : Addr} {od10 an10 : Option Addr} {sl10 : Array (Option Value)} {oc10 kV10 dc10 pm10 cd10 ct10 : Value} {a11 : Addr} {od11 an11 : Option Addr} {sl11 : Array (Option Value)} {oc11 kV11 dc11 pm11 cd11 ct11 : Value} {a12 : Addr} {od12 an12 : Option Addr} {sl12 : Array (Option Value)} {oc12 kV12 dc12 pm12 cd12 ct12 : Value} {a13 : Addr} {od13 an13 : Option Addr} {sl13 : Array (Option Value)} {oc13 kV13 dc13 pm13 cd13 ct13 : Value} {a14 : Addr} {od14 an14 : Option Addr} {sl14 : Array (Option Value)} {oc14 kV14 dc14 pm14 cd14 ct14 : Value} {a15 : Addr} {od15 an15 : Option Addr} {sl15 : Array (Option Value)} {oc15 kV15 dc15 pm15 cd15 ct15 : Value} {a16 : Addr} {od16 an16 : Option Addr} {sl16 : Array (Option Value)} {oc16 kV16 dc16 pm16 cd16 ct16 : Value} {a17 : Addr} {od17 an17 : Option Addr} {sl17 : Array (Option Value)} {oc17 kV17 dc17 pm17 cd17 ct17 : Value} {a18 : Addr} {od18 an18 : Option Addr} {sl18 : Array (Option Value)} {oc18 kV18 dc18 pm18 cd18 ct18 : Value} {a19 : Addr} {od19 an19 : Option Addr} {sl19 : Array (Option Value)} {oc19 kV19 dc19 pm19 cd19 ct19 : Value} {a20 : Addr} {od20 an20 : Option Addr} {sl20 : Array (Option Value)} {oc20 kV20 dc20 pm20 cd20 ct20 : Value} {a21 : Addr} {od21 an21 : Option Addr} {sl21 : Array (Option Value)} {oc21 kV21 dc21 pm21 cd21 ct21 : Value} {a22 : Addr} {od22 an22 : Option Addr} {sl22 : Array (Option Value)} {oc22 kV22 dc22 pm22 cd22 ct22 : Value} {a23 : Addr} {od23 an23 : Option Addr} {sl23 : Array (Option Value)} {oc23 kV23 dc23 pm23 cd23 ct23 : Value} {a24 : Addr} {od24 an24 : Option Addr} {sl24 : Array (Option Value)} {oc24 kV24 dc24 pm24 cd24 ct24 : Value} {a25 : Addr} {od25 an25 : Option Addr} {sl25 : Array (Option Value)} {oc25 kV25 dc25 pm25 cd25 ct25 : Value} {a3 : Addr} {a0 : Addr} {a1 : Addr} {a2 : Addr} {t_SIZE : Tok} {t_GREATEST_WEIGHT : Tok}
    (n4 : PySem.W.nsIn K mainGlobals "blank_rows" = some (some (.ref a4)))
    (l4 : K.lookup a4 = some ⟨oc4, od4, .func (PySem.W.fnOf "blank_rows" "blank_rows" (defArgs s_blank_rows) (defBody s_blank_rows) (defScope s_blank_rows) .none kV4 dc4 pm4 an4 cd4 ct4), sl4⟩)
    (c4 : PySem.W.codeIn K cd4 "blank_rows" = true) (k4 : PySem.W.keepIn K (.ref a4) = true)
    (n5 : PySem.W.findIn K (.ref a3) "__init__" = some (some (.ref a5))) (fn5 : PySem.W.isFn K (.ref a5) = true)
    (l5 : K.lookup a5 = some ⟨oc5, od5, .func (PySem.W.fnOf "__init__" "Picture.__init__" (defArgs s_Picture___init__) (defBody s_Picture___init__) (defScope s_Picture___init__) .none kV5 dc5 pm5 an5 cd5 ct5), sl5⟩)
    (c5 : PySem.W.codeIn K cd5 "Picture.__init__" = true) (k5 : PySem.W.keepIn K (.ref a5) = true)
    (n6 : PySem.W.findIn K (.ref a3) "rows" = some (some (.ref a6))) (fn6 : PySem.W.isFn K (.ref a6) = true)
    (l6 : K.lookup a6 = some ⟨oc6, od6, .func (PySem.W.fnOf "rows" "Picture.rows" (defArgs s_Picture_rows) (defBody s_Picture_rows) (defScope s_Picture_rows) .none kV6 dc6 pm6 an6 cd6 ct6), sl6⟩)
    (c6 : PySem.W.codeIn K cd6 "Picture.rows" = true) (k6 : PySem.W.keepIn K (.ref a6) = true)
    (n7 : PySem.W.findIn K (.ref a3) "add_rows" = some (some (.ref a7))) (fn7 : PySem.W.isFn K (.ref a7) = true)
    (l7 : K.lookup a7 = some ⟨oc7, od7, .func (PySem.W.fnOf "add_rows" "Picture.add_rows" (defArgs s_Picture_add_rows) (defBody s_Picture_add_rows) (defScope s_Picture_add_rows) .none (.ref kd7) dc7 pm7 an7 cd7 ct7), sl7⟩)
    (c7 : PySem.W.codeIn K cd7 "Picture.add_rows" = true) (k7 : PySem.W.keepIn K (.ref a7) = true)
    (kw7_factor : PySem.W.nsIn K kd7 "factor" = some (some (.int 1 kt7_factor)))
    (n8 : PySem.W.findIn K (.ref a3) "__add__" = some (some (.ref a8))) (fn8 : PySem.W.isFn K (.ref a8) = true)
    (l8 : K.lookup a8 = some ⟨oc8, od8, .func (PySem.W.fnOf "__add__" "Picture.__add__" (defArgs s_Picture___add__) (defBody s_Picture___add__) (defScope s_Picture___add__) .none kV8 dc8 pm8 an8 cd8 ct8), sl8⟩)
    (c8 : PySem.W.codeIn K cd8 "Picture.__add__" = true) (k8 : PySem.W.keepIn K (.ref a8) = true)
    (n9 : PySem.W.findIn K (.ref a3) "__sub__" = some (some (.ref a9))) (fn9 : PySem.W.isFn K (.ref a9) = true)
    (l9 : K.lookup a9 = some ⟨oc9, od9, .func (PySem.W.fnOf "__sub__" "Picture.__sub__" (defArgs s_Picture___sub__) (defBody s_Picture___sub__) (defScope s_Picture___sub__) .none kV9 dc9 pm9 an9 cd9 ct9), sl9⟩)
    (c9 : PySem.W.codeIn K cd9 "Picture.__sub__" = true) (k9 : PySem.W.keepIn K (.ref a9) = true)
    (n10 : PySem.W.nsIn K mainGlobals "sums" = some (some (.ref a10)))
    (l10 : K.lookup a10 = some ⟨oc10, od10, .func (PySem.W.fnOf "sums" "sums" (defArgs s_sums) (defBody s_sums) (defScope s_sums) .none kV10 dc10 pm10 an10 cd10 ct10), sl10⟩)
    (c10 : PySem.W.codeIn K cd10 "sums" = true) (k10 : PySem.W.keepIn K (.ref a10) = true)
    (n11 : PySem.W.nsIn K mainGlobals "checked" = some (some (.ref a11)))
    (l11 : K.lookup a11 = some ⟨oc11, od11, .func (PySem.W.fnOf "checked" "checked" (defArgs s_checked) (defBody s_checked) (defScope s_checked) .none kV11 dc11 pm11 an11 cd11 ct11), sl11⟩)
    (c11 : PySem.W.codeIn K cd11 "checked" = true) (k11 : PySem.W.keepIn K (.ref a11) = true)
    (n12 : PySem.W.nsIn K mainGlobals "_law_cell" = some (some (.ref a12)))
    (l12 : K.lookup a12 = some ⟨oc12, od12, .func (PySem.W.fnOf "_law_cell" "_law_cell" (defArgs s__law_cell) (defBody s__law_cell) (defScope s__law_cell) .none kV12 dc12 pm12 an12 cd12 ct12), sl12⟩)
    (c12 : PySem.W.codeIn K cd12 "_law_cell" = true) (k12 : PySem.W.keepIn K (.ref a12) = true)
    (n13 : PySem.W.nsIn K mainGlobals "_law_stream" = some (some (.ref a13)))
    (l13 : K.lookup a13 = some ⟨oc13, od13, .func (PySem.W.fnOf "_law_stream" "_law_stream" (defArgs s__law_stream) (defBody s__law_stream) (defScope s__law_stream) .none kV13 dc13 pm13 an13 cd13 ct13), sl13⟩)
    (c13 : PySem.W.codeIn K cd13 "_law_stream" = true) (k13 : PySem.W.keepIn K (.ref a13) = true)
    (n14 : PySem.W.nsIn K mainGlobals "_law_draw" = some (some (.ref a14)))
    (l14 : K.lookup a14 = some ⟨oc14, od14, .func (PySem.W.fnOf "_law_draw" "_law_draw" (defArgs s__law_draw) (defBody s__law_draw) (defScope s__law_draw) .none kV14 dc14 pm14 an14 cd14 ct14), sl14⟩)
    (c14 : PySem.W.codeIn K cd14 "_law_draw" = true) (k14 : PySem.W.keepIn K (.ref a14) = true)
    (n15 : PySem.W.nsIn K mainGlobals "_law_copy" = some (some (.ref a15)))
    (l15 : K.lookup a15 = some ⟨oc15, od15, .func (PySem.W.fnOf "_law_copy" "_law_copy" (defArgs s__law_copy) (defBody s__law_copy) (defScope s__law_copy) .none kV15 dc15 pm15 an15 cd15 ct15), sl15⟩)
    (c15 : PySem.W.codeIn K cd15 "_law_copy" = true) (k15 : PySem.W.keepIn K (.ref a15) = true)
    (n16 : PySem.W.nsIn K mainGlobals "_law_at" = some (some (.ref a16)))
    (l16 : K.lookup a16 = some ⟨oc16, od16, .func (PySem.W.fnOf "_law_at" "_law_at" (defArgs s__law_at) (defBody s__law_at) (defScope s__law_at) .none kV16 dc16 pm16 an16 cd16 ct16), sl16⟩)
    (c16 : PySem.W.codeIn K cd16 "_law_at" = true) (k16 : PySem.W.keepIn K (.ref a16) = true)
    (n17 : PySem.W.nsIn K mainGlobals "_law_weights" = some (some (.ref a17)))
    (l17 : K.lookup a17 = some ⟨oc17, od17, .func (PySem.W.fnOf "_law_weights" "_law_weights" (defArgs s__law_weights) (defBody s__law_weights) (defScope s__law_weights) .none kV17 dc17 pm17 an17 cd17 ct17), sl17⟩)
    (c17 : PySem.W.codeIn K cd17 "_law_weights" = true) (k17 : PySem.W.keepIn K (.ref a17) = true)
    (n18 : PySem.W.nsIn K mainGlobals "_law_change" = some (some (.ref a18)))
    (l18 : K.lookup a18 = some ⟨oc18, od18, .func (PySem.W.fnOf "_law_change" "_law_change" (defArgs s__law_change) (defBody s__law_change) (defScope s__law_change) .none kV18 dc18 pm18 an18 cd18 ct18), sl18⟩)
    (c18 : PySem.W.codeIn K cd18 "_law_change" = true) (k18 : PySem.W.keepIn K (.ref a18) = true)
    (n19 : PySem.W.nsIn K mainGlobals "_law_sum" = some (some (.ref a19)))
    (l19 : K.lookup a19 = some ⟨oc19, od19, .func (PySem.W.fnOf "_law_sum" "_law_sum" (defArgs s__law_sum) (defBody s__law_sum) (defScope s__law_sum) .none kV19 dc19 pm19 an19 cd19 ct19), sl19⟩)
    (c19 : PySem.W.codeIn K cd19 "_law_sum" = true) (k19 : PySem.W.keepIn K (.ref a19) = true)
    (n20 : PySem.W.nsIn K mainGlobals "_law_fits" = some (some (.ref a20)))
    (l20 : K.lookup a20 = some ⟨oc20, od20, .func (PySem.W.fnOf "_law_fits" "_law_fits" (defArgs s__law_fits) (defBody s__law_fits) (defScope s__law_fits) .none kV20 dc20 pm20 an20 cd20 ct20), sl20⟩)
    (c20 : PySem.W.codeIn K cd20 "_law_fits" = true) (k20 : PySem.W.keepIn K (.ref a20) = true)
    (n21 : PySem.W.nsIn K mainGlobals "_law_same_rows" = some (some (.ref a21)))
    (l21 : K.lookup a21 = some ⟨oc21, od21, .func (PySem.W.fnOf "_law_same_rows" "_law_same_rows" (defArgs s__law_same_rows) (defBody s__law_same_rows) (defScope s__law_same_rows) .none kV21 dc21 pm21 an21 cd21 ct21), sl21⟩)
    (c21 : PySem.W.codeIn K cd21 "_law_same_rows" = true) (k21 : PySem.W.keepIn K (.ref a21) = true)
    (n22 : PySem.W.nsIn K mainGlobals "_law_added" = some (some (.ref a22)))
    (l22 : K.lookup a22 = some ⟨oc22, od22, .func (PySem.W.fnOf "_law_added" "_law_added" (defArgs s__law_added) (defBody s__law_added) (defScope s__law_added) .none kV22 dc22 pm22 an22 cd22 ct22), sl22⟩)
    (c22 : PySem.W.codeIn K cd22 "_law_added" = true) (k22 : PySem.W.keepIn K (.ref a22) = true)
    (n23 : PySem.W.nsIn K mainGlobals "_law_operated" = some (some (.ref a23)))
    (l23 : K.lookup a23 = some ⟨oc23, od23, .func (PySem.W.fnOf "_law_operated" "_law_operated" (defArgs s__law_operated) (defBody s__law_operated) (defScope s__law_operated) .none kV23 dc23 pm23 an23 cd23 ct23), sl23⟩)
    (c23 : PySem.W.codeIn K cd23 "_law_operated" = true) (k23 : PySem.W.keepIn K (.ref a23) = true)
    (n24 : PySem.W.nsIn K mainGlobals "_law_operator_is_right" = some (some (.ref a24)))
    (l24 : K.lookup a24 = some ⟨oc24, od24, .func (PySem.W.fnOf "_law_operator_is_right" "_law_operator_is_right" (defArgs s__law_operator_is_right) (defBody s__law_operator_is_right) (defScope s__law_operator_is_right) .none kV24 dc24 pm24 an24 cd24 ct24), sl24⟩)
    (c24 : PySem.W.codeIn K cd24 "_law_operator_is_right" = true) (k24 : PySem.W.keepIn K (.ref a24) = true)
    (n25 : PySem.W.nsIn K mainGlobals "law" = some (some (.ref a25)))
    (l25 : K.lookup a25 = some ⟨oc25, od25, .func (PySem.W.fnOf "law" "law" (defArgs s_law) (defBody s_law) (defScope s_law) .none kV25 dc25 pm25 an25 cd25 ct25), sl25⟩)
    (c25 : PySem.W.codeIn K cd25 "law" = true) (k25 : PySem.W.keepIn K (.ref a25) = true)
    (ng3 : PySem.W.nsIn K mainGlobals "Picture" = some (some (.ref a3)))
    (pg3 : PySem.W.plainGet K a3 Str.empty = true) (hd3 : PySem.W.hasDictIn K a3 = true) (po3 : PySem.W.plainOver K a3 = true) (sa3 : PySem.W.findIn K (.ref a3) "__setattr__" = some (some (.builtin "object.__setattr__"))) (mk3 : PySem.W.makesIn K a3 = true) (kc3 : PySem.W.keepIn K (.ref a3) = true)
    (na3__weights : PySem.W.findIn K (.ref a3) "_weights" = some none)
    (sf3 : PySem.W.selfFirst K a3 = true)
    (ic3 : PySem.W.findIn K (.ref a3) "__class__" = some (some (.builtin "object.__class__"))) (im3 : PySem.W.mroIn K a3 (.type "object") = some true)
    (ocg : PySem.W.specialIn K (.builtin "object.__class__") "__get__" = some (some (.builtin "getset_descriptor.__get__"))) (oct : PySem.W.takesIn K (.builtin "object.__class__") = some true)
    (xg0 : PySem.W.nsIn K mainGlobals "FontError" = some (some (.ref a0))) (xq0 : PySem.W.excIn K a0 [.type "ValueError", .type "Exception", .type "BaseException", .type "object"] "ValueError.__new__" = true) (xk0 : PySem.W.keepIn K (.ref a0) = true) (xt0 : PySem.W.typeIn K (.ref a0) = some (.type "type"))
    (xa0 : PySem.W.findIn K (.ref a0) "__getattribute__" = some (some (.builtin "BaseException.__getattribute__"))) (xb0 : PySem.W.findIn K (.ref a0) "__getattr__" = some none) (xc0 : PySem.W.subIn K (.ref a0) (.type "BaseException") = some true) (xd0 : PySem.W.hasDictIn K a0 = true)
    (xe0 : PySem.W.findIn K (.ref a0) "__class__" = some (some (.builtin "object.__class__"))) (xf0 : PySem.W.mroIn K a0 (.type "object") = some true) (xv0 : PySem.W.subIn K (.ref a0) (.type "ValueError") = some true)
    (xg1 : PySem.W.nsIn K mainGlobals "TooGreat" = some (some (.ref a1))) (xq1 : PySem.W.excIn K a1 [.type "ValueError", .type "Exception", .type "BaseException", .type "object"] "ValueError.__new__" = true) (xk1 : PySem.W.keepIn K (.ref a1) = true) (xt1 : PySem.W.typeIn K (.ref a1) = some (.type "type"))
    (xa1 : PySem.W.findIn K (.ref a1) "__getattribute__" = some (some (.builtin "BaseException.__getattribute__"))) (xb1 : PySem.W.findIn K (.ref a1) "__getattr__" = some none) (xc1 : PySem.W.subIn K (.ref a1) (.type "BaseException") = some true) (xd1 : PySem.W.hasDictIn K a1 = true)
    (xe1 : PySem.W.findIn K (.ref a1) "__class__" = some (some (.builtin "object.__class__"))) (xf1 : PySem.W.mroIn K a1 (.type "object") = some true) (xv1 : PySem.W.subIn K (.ref a1) (.type "ValueError") = some true)
    (xg2 : PySem.W.nsIn K mainGlobals "OutOfRange" = some (some (.ref a2))) (xq2 : PySem.W.excIn K a2 [.type "ValueError", .type "Exception", .type "BaseException", .type "object"] "ValueError.__new__" = true) (xk2 : PySem.W.keepIn K (.ref a2) = true) (xt2 : PySem.W.typeIn K (.ref a2) = some (.type "type"))
    (xa2 : PySem.W.findIn K (.ref a2) "__getattribute__" = some (some (.builtin "BaseException.__getattribute__"))) (xb2 : PySem.W.findIn K (.ref a2) "__getattr__" = some none) (xc2 : PySem.W.subIn K (.ref a2) (.type "BaseException") = some true) (xd2 : PySem.W.hasDictIn K a2 = true)
    (xe2 : PySem.W.findIn K (.ref a2) "__class__" = some (some (.builtin "object.__class__"))) (xf2 : PySem.W.mroIn K a2 (.type "object") = some true) (xv2 : PySem.W.subIn K (.ref a2) (.type "ValueError") = some true)
    (xm : PySem.W.specialIn K (.builtin "object.__class__") "__get__" = some (some (.builtin "getset_descriptor.__get__"))) (xn : PySem.W.takesIn K (.builtin "object.__class__") = some true)
    (e0_0 : PySem.W.subIn K (.ref a0) (.ref a0) = some true)
    (e0_1 : PySem.W.subIn K (.ref a0) (.ref a1) = some false)
    (e0_2 : PySem.W.subIn K (.ref a0) (.ref a2) = some false)
    (e1_0 : PySem.W.subIn K (.ref a1) (.ref a0) = some true)
    (e1_1 : PySem.W.subIn K (.ref a1) (.ref a1) = some true)
    (e1_2 : PySem.W.subIn K (.ref a1) (.ref a2) = some false)
    (e2_0 : PySem.W.subIn K (.ref a2) (.ref a0) = some true)
    (e2_1 : PySem.W.subIn K (.ref a2) (.ref a1) = some false)
    (e2_2 : PySem.W.subIn K (.ref a2) (.ref a2) = some true)
    (z_ValueError : PySem.W.nsIn K mainGlobals "ValueError" = some none)
    (z_bool : PySem.W.nsIn K mainGlobals "bool" = some none)
    (z_int : PySem.W.nsIn K mainGlobals "int" = some none)
    (z_isinstance : PySem.W.nsIn K mainGlobals "isinstance" = some none)
    (z_len : PySem.W.nsIn K mainGlobals "len" = some none)
    (z_list : PySem.W.nsIn K mainGlobals "list" = some none)
    (z_range : PySem.W.nsIn K mainGlobals "range" = some none)
    (z_zip : PySem.W.nsIn K mainGlobals "zip" = some none)
    (c_SIZE : PySem.W.nsIn K mainGlobals "SIZE" = some (some (.int (48) t_SIZE)))
    (c_GREATEST_WEIGHT : PySem.W.nsIn K mainGlobals "GREATEST_WEIGHT" = some (some (.int (9999) t_GREATEST_WEIGHT)))
    : ∃ fd : FuncData, (∀ (s : Shared) (v : Value), BindsTo s fd ⟨[v], []⟩ [("script", v)]) ∧ ∀ base : Heap, K.In base → base.Ns mainGlobals mg → FnOk l.prog w K mg base CX0 7 fa fd ["script"] (sp_law K) := by
  have e := hfa.symm.trans (PySem.W.mg_of X G n25)
  cases e
  have F4 := fun_mk (st := s_blank_rows) l4 c4 k4
  have b4 := F4.binds (ps := []) fun _ _ _ _ _ _ us hl => match us, hl with | [], _ => rfl
  have F5 := fun_mk (st := s_Picture___init__) l5 c5 k5
  have b5 := F5.binds (ps := ["self"]) fun _ _ _ _ _ _ us hl => match us, hl with | [_], _ => rfl
  have F6 := fun_mk (st := s_Picture_rows) l6 c6 k6
  have b6 := F6.binds (ps := ["self"]) fun _ _ _ _ _ _ us hl => match us, hl with | [_], _ => rfl
  have F7 := fun_mk (st := s_Picture_add_rows) l7 c7 k7
  have FD7 : FunD K "add_rows" "Picture.add_rows" (defArgs s_Picture_add_rows) (defBody s_Picture_add_rows) (defScope s_Picture_add_rows) [] [("factor", .int 1)] a7 _ := ⟨⟨_, _, _, _, _, _, _, _, _, _, rfl, l7, c7, .inl ⟨rfl, rfl⟩, .inr ⟨kd7, rfl, fun q hq => by
    simp only [List.mem_cons, List.not_mem_nil, or_false] at hq
    rcases hq with rfl
    · exact ⟨_, kw7_factor, _, rfl⟩⟩⟩, k7⟩
  have b7 := FD7.binds0 (ps := ["self", "rows", "factor"]) 2 (by simp) rfl fun D doc pm an cdv ct us ks l1 l2 => match us, ks, l1, l2 with | [_, _], [_], _, _ => ⟨_, _, _, _, _, _, rfl, rfl, rfl⟩
  have kb7_factor : KBn K (PySem.W.fnOf "add_rows" "Picture.add_rows" (defArgs s_Picture_add_rows) (defBody s_Picture_add_rows) (defScope s_Picture_add_rows) .none (.ref kd7) dc7 pm7 an7 cd7 ct7) ["self", "rows", "factor"] 2 ["factor"] (fun us ws => us ++ ws) (fun vs zs => vs ++ zs) := ⟨fun s us ws _ l1 l2 => match us, ws, l1, l2 with | [_, _], [_], _, _ => .of_eq rfl, fun r1 r2 => r1.append r2⟩
  have F8 := fun_mk (st := s_Picture___add__) l8 c8 k8
  have b8 := F8.binds (ps := ["self", "other"]) fun _ _ _ _ _ _ us hl => match us, hl with | [_, _], _ => rfl
  have F9 := fun_mk (st := s_Picture___sub__) l9 c9 k9
  have b9 := F9.binds (ps := ["self", "other"]) fun _ _ _ _ _ _ us hl => match us, hl with | [_, _], _ => rfl
  have F10 := fun_mk (st := s_sums) l10 c10 k10
  have b10 := F10.binds (ps := ["rows", "others", "factor"]) fun _ _ _ _ _ _ us hl => match us, hl with | [_, _, _], _ => rfl
  have F11 := fun_mk (st := s_checked) l11 c11 k11
  have b11 := F11.binds (ps := ["weight"]) fun _ _ _ _ _ _ us hl => match us, hl with | [_], _ => rfl
  have F12 := fun_mk (st := s__law_cell) l12 c12 k12
  have b12 := F12.binds (ps := ["script", "k"]) fun _ _ _ _ _ _ us hl => match us, hl with | [_, _], _ => rfl
  have F13 := fun_mk (st := s__law_stream) l13 c13 k13
  have b13 := F13.binds (ps := ["cell"]) fun _ _ _ _ _ _ us hl => match us, hl with | [_], _ => rfl
  have F14 := fun_mk (st := s__law_draw) l14 c14 k14
  have b14 := F14.binds (ps := ["stream", "size"]) fun _ _ _ _ _ _ us hl => match us, hl with | [_, _], _ => rfl
  have F15 := fun_mk (st := s__law_copy) l15 c15 k15
  have b15 := F15.binds (ps := ["rows"]) fun _ _ _ _ _ _ us hl => match us, hl with | [_], _ => rfl
  have F16 := fun_mk (st := s__law_at) l16 c16 k16
  have b16 := F16.binds (ps := ["stream"]) fun _ _ _ _ _ _ us hl => match us, hl with | [_], _ => rfl
  have F17 := fun_mk (st := s__law_weights) l17 c17 k17
  have b17 := F17.binds (ps := ["stream"]) fun _ _ _ _ _ _ us hl => match us, hl with | [_], _ => rfl
  have F18 := fun_mk (st := s__law_change) l18 c18 k18
  have b18 := F18.binds (ps := ["stream", "is_picture"]) fun _ _ _ _ _ _ us hl => match us, hl with | [_, _], _ => rfl
  have F19 := fun_mk (st := s__law_sum) l19 c19 k19
  have b19 := F19.binds (ps := ["rows", "other", "times"]) fun _ _ _ _ _ _ us hl => match us, hl with | [_, _, _], _ => rfl
  have F20 := fun_mk (st := s__law_fits) l20 c20 k20
  have b20 := F20.binds (ps := ["rows"]) fun _ _ _ _ _ _ us hl => match us, hl with | [_], _ => rfl
  have F21 := fun_mk (st := s__law_same_rows) l21 c21 k21
  have b21 := F21.binds (ps := ["actual", "expected"]) fun _ _ _ _ _ _ us hl => match us, hl with | [_, _], _ => rfl
  have F22 := fun_mk (st := s__law_added) l22 c22 k22
  have b22 := F22.binds (ps := ["picture", "rows", "times"]) fun _ _ _ _ _ _ us hl => match us, hl with | [_, _, _], _ => rfl
  have F23 := fun_mk (st := s__law_operated) l23 c23 k23
  have b23 := F23.binds (ps := ["first", "second", "times"]) fun _ _ _ _ _ _ us hl => match us, hl with | [_, _, _], _ => rfl
  have F24 := fun_mk (st := s__law_operator_is_right) l24 c24 k24
  have b24 := F24.binds (ps := ["first", "second", "rows", "change", "times"]) fun _ _ _ _ _ _ us hl => match us, hl with | [_, _, _, _, _], _ => rfl
  have F25 := fun_mk (st := s_law) l25 c25 k25
  have b25 := F25.binds (ps := ["script"]) fun _ _ _ _ _ _ us hl => match us, hl with | [_], _ => rfl
  let A : Nat → Addr := fun | 0 => a0 | 1 => a1 | 2 => a2 | 3 => a3 | 4 => a4 | 5 => a5 | 6 => a6 | 7 => a7 | 8 => a8 | 9 => a9 | 10 => a10 | 11 => a11 | 12 => a12 | 13 => a13 | 14 => a14 | 15 => a15 | 16 => a16 | 17 => a17 | 18 => a18 | 19 => a19 | 20 => a20 | 21 => a21 | 22 => a22 | 23 => a23 | 24 => a24 | 25 => fa | _ => 0
  let D : Nat → FuncData := fun | 4 => PySem.W.fnOf "blank_rows" "blank_rows" (defArgs s_blank_rows) (defBody s_blank_rows) (defScope s_blank_rows) .none kV4 dc4 pm4 an4 cd4 ct4 | 5 => PySem.W.fnOf "__init__" "Picture.__init__" (defArgs s_Picture___init__) (defBody s_Picture___init__) (defScope s_Picture___init__) .none kV5 dc5 pm5 an5 cd5 ct5 | 6 => PySem.W.fnOf "rows" "Picture.rows" (defArgs s_Picture_rows) (defBody s_Picture_rows) (defScope s_Picture_rows) .none kV6 dc6 pm6 an6 cd6 ct6 | 7 => PySem.W.fnOf "add_rows" "Picture.add_rows" (defArgs s_Picture_add_rows) (defBody s_Picture_add_rows) (defScope s_Picture_add_rows) .none (.ref kd7) dc7 pm7 an7 cd7 ct7 | 8 => PySem.W.fnOf "__add__" "Picture.__add__" (defArgs s_Picture___add__) (defBody s_Picture___add__) (defScope s_Picture___add__) .none kV8 dc8 pm8 an8 cd8 ct8 | 9 => PySem.W.fnOf "__sub__" "Picture.__sub__" (defArgs s_Picture___sub__) (defBody s_Picture___sub__) (defScope s_Picture___sub__) .none kV9 dc9 pm9 an9 cd9 ct9 | 10 => PySem.W.fnOf "sums" "sums" (defArgs s_sums) (defBody s_sums) (defScope s_sums) .none kV10 dc10 pm10 an10 cd10 ct10 | 11 => PySem.W.fnOf "checked" "checked" (defArgs s_checked) (defBody s_checked) (defScope s_checked) .none kV11 dc11 pm11 an11 cd11 ct11 | 12 => PySem.W.fnOf "_law_cell" "_law_cell" (defArgs s__law_cell) (defBody s__law_cell) (defScope s__law_cell) .none kV12 dc12 pm12 an12 cd12 ct12 | 13 => PySem.W.fnOf "_law_stream" "_law_stream" (defArgs s__law_stream) (defBody s__law_stream) (defScope s__law_stream) .none kV13 dc13 pm13 an13 cd13 ct13 | 14 => PySem.W.fnOf "_law_draw" "_law_draw" (defArgs s__law_draw) (defBody s__law_draw) (defScope s__law_draw) .none kV14 dc14 pm14 an14 cd14 ct14 | 15 => PySem.W.fnOf "_law_copy" "_law_copy" (defArgs s__law_copy) (defBody s__law_copy) (defScope s__law_copy) .none kV15 dc15 pm15 an15 cd15 ct15 | 16 => PySem.W.fnOf "_law_at" "_law_at" (defArgs s__law_at) (defBody s__law_at) (defScope s__law_at) .none kV16 dc16 pm16 an16 cd16 ct16 | 17 => PySem.W.fnOf "_law_weights" "_law_weights" (defArgs s__law_weights) (defBody s__law_weights) (defScope s__law_weights) .none kV17 dc17 pm17 an17 cd17 ct17 | 18 => PySem.W.fnOf "_law_change" "_law_change" (defArgs s__law_change) (defBody s__law_change) (defScope s__law_change) .none kV18 dc18 pm18 an18 cd18 ct18 | 19 => PySem.W.fnOf "_law_sum" "_law_sum" (defArgs s__law_sum) (defBody s__law_sum) (defScope s__law_sum) .none kV19 dc19 pm19 an19 cd19 ct19 | 20 => PySem.W.fnOf "_law_fits" "_law_fits" (defArgs s__law_fits) (defBody s__law_fits) (defScope s__law_fits) .none kV20 dc20 pm20 an20 cd20 ct20 | 21 => PySem.W.fnOf "_law_same_rows" "_law_same_rows" (defArgs s__law_same_rows) (defBody s__law_same_rows) (defScope s__law_same_rows) .none kV21 dc21 pm21 an21 cd21 ct21 | 22 => PySem.W.fnOf "_law_added" "_law_added" (defArgs s__law_added) (defBody s__law_added) (defScope s__law_added) .none kV22 dc22 pm22 an22 cd22 ct22 | 23 => PySem.W.fnOf "_law_operated" "_law_operated" (defArgs s__law_operated) (defBody s__law_operated) (defScope s__law_operated) .none kV23 dc23 pm23 an23 cd23 ct23 | 24 => PySem.W.fnOf "_law_operator_is_right" "_law_operator_is_right" (defArgs s__law_operator_is_right) (defBody s__law_operator_is_right) (defScope s__law_operator_is_right) .none kV24 dc24 pm24 an24 cd24 ct24 | _ => PySem.W.fnOf "law" "law" (defArgs s_law) (defBody s_law) (defScope s_law) .none kV25 dc25 pm25 an25 cd25 ct25
  have T : Txt K mg A D :=
    {F_blank_rows := F4,
     m_blank_rows := PySem.W.mg_of X G n4,
     b_blank_rows := b4,
     F_Picture___init__ := F5,
     b_Picture___init__ := b5,
     F_Picture_rows := F6,
     m_Picture_rows := ⟨n6, fn6, k6⟩,
     b_Picture_rows := b6,
     F_Picture_add_rows := F7,
     m_Picture_add_rows := ⟨n7, fn7, k7⟩,
     b_Picture_add_rows := b7,
     k_Picture_add_rows_factor := kb7_factor,
     F_Picture___add__ := F8,
     m_Picture___add__ := ⟨n8, fn8, k8⟩,
     b_Picture___add__ := b8,
     F_Picture___sub__ := F9,
     m_Picture___sub__ := ⟨n9, fn9, k9⟩,
     b_Picture___sub__ := b9,
     F_sums := F10,
     m_sums := PySem.W.mg_of X G n10,
     b_sums := b10,
     F_checked := F11,
     m_checked := PySem.W.mg_of X G n11,
     b_checked := b11,
     F__law_cell := F12,
     m__law_cell := PySem.W.mg_of X G n12,
     b__law_cell := b12,
     F__law_stream := F13,
     m__law_stream := PySem.W.mg_of X G n13,
     b__law_stream := b13,
     F__law_draw := F14,
     m__law_draw := PySem.W.mg_of X G n14,
     b__law_draw := b14,
     F__law_copy := F15,
     m__law_copy := PySem.W.mg_of X G n15,
     b__law_copy := b15,
     F__law_at := F16,
     m__law_at := PySem.W.mg_of X G n16,
     b__law_at := b16,
     F__law_weights := F17,
     m__law_weights := PySem.W.mg_of X G n17,
     b__law_weights := b17,
     F__law_change := F18,
     m__law_change := PySem.W.mg_of X G n18,
     b__law_change := b18,
     F__law_sum := F19,
     m__law_sum := PySem.W.mg_of X G n19,
     b__law_sum := b19,
     F__law_fits := F20,
     m__law_fits := PySem.W.mg_of X G n20,
     b__law_fits := b20,
     F__law_same_rows := F21,
     m__law_same_rows := PySem.W.mg_of X G n21,
     b__law_same_rows := b21,
     F__law_added := F22,
     m__law_added := PySem.W.mg_of X G n22,
     b__law_added := b22,
     F__law_operated := F23,
     m__law_operated := PySem.W.mg_of X G n23,
     b__law_operated := b23,
     F__law_operator_is_right := F24,
     m__law_operator_is_right := PySem.W.mg_of X G n24,
     b__law_operator_is_right := b24,
     F_law := F25,
     m_law := PySem.W.mg_of X G n25,
     b_law := b25,
     q_Picture := ⟨pg3, hd3, po3, sa3⟩,
     g_Picture := PySem.W.mg_of X G ng3,
     M_Picture := ⟨mk3, n5, fn5, kc3⟩,
     nf_Picture__weights := na3__weights,
     sf_Picture := sf3,
     ic_Picture := ic3,
     im_Picture := im3,
     oc_g := ocg,
     oc_t := oct,
     x_FontError := ⟨PySem.W.mg_of X G xg0, xq0, xk0, xt0, ⟨xa0, xb0, xc0, xd0, xe0, xm, xn, xf0⟩, xv0⟩,
     x_TooGreat := ⟨PySem.W.mg_of X G xg1, xq1, xk1, xt1, ⟨xa1, xb1, xc1, xd1, xe1, xm, xn, xf1⟩, xv1⟩,
     x_OutOfRange := ⟨PySem.W.mg_of X G xg2, xq2, xk2, xt2, ⟨xa2, xb2, xc2, xd2, xe2, xm, xn, xf2⟩, xv2⟩,
     e_FontError_FontError := e0_0,
     e_FontError_TooGreat := e0_1,
     e_FontError_OutOfRange := e0_2,
     e_TooGreat_FontError := e1_0,
     e_TooGreat_TooGreat := e1_1,
     e_TooGreat_OutOfRange := e1_2,
     e_OutOfRange_FontError := e2_0,
     e_OutOfRange_TooGreat := e2_1,
     e_OutOfRange_OutOfRange := e2_2,
     z_ValueError := PySem.W.mg_none_of X G z_ValueError,
     z_bool := PySem.W.mg_none_of X G z_bool,
     z_int := PySem.W.mg_none_of X G z_int,
     z_isinstance := PySem.W.mg_none_of X G z_isinstance,
     z_len := PySem.W.mg_none_of X G z_len,
     z_list := PySem.W.mg_none_of X G z_list,
     z_range := PySem.W.mg_none_of X G z_range,
     z_zip := PySem.W.mg_none_of X G z_zip,
     c_SIZE := ⟨_, PySem.W.mg_of X G c_SIZE, _, rfl⟩,
     c_GREATEST_WEIGHT := ⟨_, PySem.W.mg_of X G c_GREATEST_WEIGHT, _, rfl⟩}
  exact ⟨_, fun s v => .of_eq rfl, fun base _ _ => ok_law T⟩
end G
open PySem PySem.W PyProof.Rows
set_option maxRecDepth 100000 in
set_option maxHeartbeats 0 in
theorem PySem.Challenge.cw_fontwinding_k38_refused_changes_holds : PySem.Challenge.rw_fontwinding_k38_refused_changes.Holds := by
  w_on; o_law; k_head; (case hw => w_witness2)
  k_fill
  refine L2.walk_of (l := PySem.Challenge.rw_fontwinding_k38_refused_changes) (n := 63) (k := 7) (x := "script") (CX := fun _ => L2.CX0) (sp := fun w => G.sp_law _) rfl (by decide) rfl ⟨rfl, by decide, by decide⟩ (fun w h Y => PySem.W.kIn_of Y) ?F (fun _ _ a ns hl _ hS => ⟨a, ns, rfl, hS, hl, fun _ => rfl⟩) (fun _ _ _ _ _ h => h)
  case F =>
    intro w mg fa h KX G0 hmg
    refine' G.all_mk KX G0 hmg ?n4 ?l4 ?c4 ?k4 ?n5 ?fn5 ?l5 ?c5 ?k5 ?n6 ?fn6 ?l6 ?c6 ?k6 ?n7 ?fn7 ?l7 ?c7 ?k7 ?kw7_factor ?n8 ?fn8 ?l8 ?c8 ?k8 ?n9 ?fn9 ?l9 ?c9 ?k9 ?n10 ?l10 ?c10 ?k10 ?n11 ?l11 ?c11 ?k11 ?n12 ?l12 ?c12 ?k12 ?n13 ?l13 ?c13 ?k13 ?n14 ?l14 ?c14 ?k14 ?n15 ?l15 ?c15 ?k15 ?n16 ?l16 ?c16 ?k16 ?n17 ?l17 ?c17 ?k17 ?n18 ?l18 ?c18 ?k18 ?n19 ?l19 ?c19 ?k19 ?n20 ?l20 ?c20 ?k20 ?n21 ?l21 ?c21 ?k21 ?n22 ?l22 ?c22 ?k22 ?n23 ?l23 ?c23 ?k23 ?n24 ?l24 ?c24 ?k24 ?n25 ?l25 ?c25 ?k25 ?ng3 ?pg3 ?hd3 ?po3 ?sa3 ?mk3 ?kc3 ?na3__weights ?sf3 ?ic3 ?im3 ?ocg ?oct ?xg0 ?xq0 ?xk0 ?xt0 ?xa0 ?xb0 ?xc0 ?xd0 ?xe0 ?xf0 ?xv0 ?xg1 ?xq1 ?xk1 ?xt1 ?xa1 ?xb1 ?xc1 ?xd1 ?xe1 ?xf1 ?xv1 ?xg2 ?xq2 ?xk2 ?xt2 ?xa2 ?xb2 ?xc2 ?xd2 ?xe2 ?xf2 ?xv2 ?xm ?xn ?e0_0 ?e0_1 ?e0_2 ?e1_0 ?e1_1 ?e1_2 ?e2_0 ?e2_1 ?e2_2 ?z_ValueError ?z_bool ?z_int ?z_isinstance ?z_len ?z_list ?z_range ?z_zip ?c_SIZE ?c_GREATEST_WEIGHT
    (case ng3 => k_is)
    (case n4 => k_is)
    (case l4 => k_is)
    (case c4 => k_is)
    (case k4 => k_is)
    (case n5 => k_is)
    (case fn5 => k_is)
    (case l5 => k_is)
    (case c5 => k_is)
    (case k5 => k_is)
    (case n6 => k_is)
    (case fn6 => k_is)
    (case l6 => k_is)
    (case c6 => k_is)
    (case k6 => k_is)
    (case n7 => k_is)
    (case fn7 => k_is)
    (case l7 => k_is)
    (case c7 => k_is)
    (case k7 => k_is)
    (case kw7_factor => k_is)
    (case n8 => k_is)
    (case fn8 => k_is)
    (case l8 => k_is)
    (case c8 => k_is)
    (case k8 => k_is)
    (case n9 => k_is)
    (case fn9 => k_is)
    (case l9 => k_is)
    (case c9 => k_is)
    (case k9 => k_is)
    (case n10 => k_is)
    (case l10 => k_is)
    (case c10 => k_is)
    (case k10 => k_is)
    (case n11 => k_is)
    (case l11 => k_is)
    (case c11 => k_is)
    (case k11 => k_is)
    (case n12 => k_is)
    (case l12 => k_is)
    (case c12 => k_is)
    (case k12 => k_is)
    (case n13 => k_is)
    (case l13 => k_is)
    (case c13 => k_is)
    (case k13 => k_is)
    (case n14 => k_is)
    (case l14 => k_is)
    (case c14 => k_is)
    (case k14 => k_is)
    (case n15 => k_is)
    (case l15 => k_is)
    (case c15 => k_is)
    (case k15 => k_is)
    (case n16 => k_is)
    (case l16 => k_is)
    (case c16 => k_is)
    (case k16 => k_is)
    (case n17 => k_is)
    (case l17 => k_is)
    (case c17 => k_is)
    (case k17 => k_is)
    (case n18 => k_is)
    (case l18 => k_is)
    (case c18 => k_is)
    (case k18 => k_is)
    (case n19 => k_is)
    (case l19 => k_is)
    (case c19 => k_is)
    (case k19 => k_is)
    (case n20 => k_is)
    (case l20 => k_is)
    (case c20 => k_is)
    (case k20 => k_is)
    (case n21 => k_is)
    (case l21 => k_is)
    (case c21 => k_is)
    (case k21 => k_is)
    (case n22 => k_is)
    (case l22 => k_is)
    (case c22 => k_is)
    (case k22 => k_is)
    (case n23 => k_is)
    (case l23 => k_is)
    (case c23 => k_is)
    (case k23 => k_is)
    (case n24 => k_is)
    (case l24 => k_is)
    (case c24 => k_is)
    (case k24 => k_is)
    (case n25 => k_is)
    (case l25 => k_is)
    (case c25 => k_is)
    (case k25 => k_is)
    (case pg3 => k_is)
    (case hd3 => k_is)
    (case po3 => k_is)
    (case sa3 => k_is)
    (case mk3 => k_is)
    (case kc3 => k_is)
    (case na3__weights => k_is)
    (case sf3 => k_is)
    (case ic3 => k_is)
    (case im3 => k_is)
    (case ocg => k_is)
    (case oct => k_is)
    (case xg0 => k_is)
    (case xq0 => k_exc)
    (case xk0 => k_is)
    (case xt0 => k_is)
    (case xa0 => k_is)
    (case xb0 => k_is)
    (case xc0 => k_is)
    (case xd0 => k_is)
    (case xe0 => k_is)
    (case xf0 => k_is)
    (case xv0 => k_is)
    (case xg1 => k_is)
    (case xq1 => k_exc)
    (case xk1 => k_is)
    (case xt1 => k_is)
    (case xa1 => k_is)
    (case xb1 => k_is)
    (case xc1 => k_is)
    (case xd1 => k_is)
    (case xe1 => k_is)
    (case xf1 => k_is)
    (case xv1 => k_is)
    (case xg2 => k_is)
    (case xq2 => k_exc)
    (case xk2 => k_is)
    (case xt2 => k_is)
    (case xa2 => k_is)
    (case xb2 => k_is)
    (case xc2 => k_is)
    (case xd2 => k_is)
    (case xe2 => k_is)
    (case xf2 => k_is)
    (case xv2 => k_is)
    (case xm => k_is)
    (case xn => k_is)
    (case e0_0 => k_is)
    (case e0_1 => k_is)
    (case e0_2 => k_is)
    (case e1_0 => k_is)
    (case e1_1 => k_is)
    (case e1_2 => k_is)
    (case e2_0 => k_is)
    (case e2_1 => k_is)
    (case e2_2 => k_is)
    (case z_ValueError => k_is)
    (case z_bool => k_is)
    (case z_int => k_is)
    (case z_isinstance => k_is)
    (case z_len => k_is)
    (case z_list => k_is)
    (case z_range => k_is)
    (case z_zip => k_is)
    (case c_SIZE => k_is)
    (case c_GREATEST_WEIGHT => k_is)
