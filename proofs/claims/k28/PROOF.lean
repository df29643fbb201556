import PyProof.Rows.All
import Wide.All
import OpenK.AllK
import Wide.FinOn
import HandS.ForMost
import HandS.ForExc
import HandS.Wide
import HandS.Gcd
import HandS.IsInst
import HandS.ExcIs
import HandS.TryMany
import HandS.Evl
import HandS.Style
import HandS.SetBool
import HandS.Strs
import HandS.SortInts
import PyProof.ListIndex
import PyProof.ListIndexNeg
import HandS.TupSets
import HandS.SortRule
import HandS.TupLe
import HandS.Deep
import HandS.More
import PySem.Challenge.RW_fontwinding_k28_planted_corners
set_option Elab.async false
set_option linter.all false
set_option maxRecDepth 100000
set_option maxHeartbeats 4000000
namespace Z
open PySem PySem.Spec PyProof.Rows L2

/-! ### operators -/
section
variable {X : Cx}
def CFd (_ j : Int) : Prop := j ≠ 0 ∧ j.natAbs.log2 < 9000
theorem op_fdivZ : OpR X (binaryOp .FloorDiv) (rI CFd fun i j => .int (i.fdiv j)) := opI fun i j _ _ _ _ _ hc q => floordiv_int hc.1 q (.inl (PyProof.noPylong_of_log2 hc.2))
theorem pe_globE {x : Str} {pos : Pos} {v : V} (h : ∃ u, X.mg x = some u ∧ RelV v u) (hg : Gl X x := by rfl) (hdb : (x == ("__debug__" : Str)) = false := by decide) : PE X (.Name x pos) (tC v) := by
  obtain ⟨u, h1, h2⟩ := h
  exact pe_glob hg h1 h2 hdb
theorem pe_globR {x : Str} {pos : Pos} {a : Addr} (h : X.mg x = some (.ref a)) (hg : Gl X x := by rfl) (hdb : (x == ("__debug__" : Str)) = false := by decide) : PE X (.Name x pos) (tC (.ref a)) := pe_glob hg h rfl hdb
end
/-- an own error class over ValueError -/
structure ExcX (K : PySem.W.Frag) (mg : Str → Option Value) (x : Str) (C : Addr) : Prop where
  g : mg x = some (.ref C)
  q : PySem.W.excIn K C [.type "ValueError", .type "Exception", .type "BaseException", .type "object"] "ValueError.__new__" = true
  k : PySem.W.keepIn K (.ref C) = true
  t : PySem.W.typeIn K (.ref C) = some (.type "type")
  c : ExcC K C
  v : PySem.W.subIn K (.ref C) (.type "ValueError") = some true
section
variable {X : Cx} {C D : Addr} {K : PySem.W.Frag} {mg : Str → Option Value} {x y : Str} {b : Bool}
theorem pmk {m : Str} {j : Nat} {p p2 pos : Pos} (E : ExcX X.K X.mg x C) (hg : Gl X x) (hdb : (x == ("__debug__" : Str)) = false := by decide) :
    PMk X (.Call (.Name x p) [.Constant (.str m) j p2] [] pos) (fun _ H Q => Q (.ref C) none H) := pmk_own PySem.F.excBase_ValueError E.q E.g E.k (raises_own E.c.hs E.t) hg hdb
theorem exm (E : ExcX K mg x C) (h : PySem.W.subIn K (.ref D) (.ref C) = some b) : PySem.W.exmOne K (.ref D) (.ref C) = some b := PySem.W.exm_ref E.c.hs E.c.hd E.t h
theorem kit_own (E : ExcX K mg x C) (h : PySem.W.subIn K (.ref D) (.ref C) = some b) (hs : PySem.W.subIn K (.ref C) (.ref C) = some true) : PySem.W.kitOne K (.ref D) (.ref C) = some b := by
  unfold PySem.W.kitOne
  by_cases e : D = C
  · subst e
    rw [hs] at h
    cases h
    rw [if_pos (by simp)]
  · rw [if_neg (by simpa using e)]
    unfold PySem.W.kitCls
    obtain ⟨cd, hc, _⟩ := PySem.W.any_some E.c.hd
    have e2 : ((PySem.W.clsIn K C).isSome && PySem.W.typeIn K (.ref C) == some (.type "type")) = true := by rw [hc, E.t] <;> rfl
    show (if _ then _ else _) = _
    rw [if_pos e2, h]
theorem kit_ve (E : ExcX K mg x D) : PySem.W.kitOne K (.ref D) (.type "ValueError") = some true := by
  unfold PySem.W.kitOne
  rw [if_neg (by simp)]
  unfold PySem.W.kitCls
  show (if _ then _ else _) = _
  rw [if_pos (by decide +kernel), E.v]
/-- isinstance of the error that a suite holds -/
def rIsEx (K : PySem.W.Frag) (cls : Value) (d : Option Addr) (a : Addr) : List V → Hp → VK → Prop := fun xs H Q => ∃ D, cls = .ref D ∧ d = none ∧ ExcC K D ∧ rIsE K D a xs H Q
theorem call_isE {a : Addr} {oe : Obj} {cls : Value} {d : Option Addr} {pn : List (Addr × Obj)} (hz : Zc cls d oe) (hf : ∃ vs, oe.data = .fields vs) : CallR (X.suite a ((a, oe) :: pn)) (.builtin "isinstance") (rIsEx X.K cls d a) := by
  intro pins s σ H xs us Q I r h
  obtain ⟨D, e1, e2, c, h⟩ := h
  subst e1
  subst e2
  exact L2.call_isE c hz hf pins s σ H xs us Q I r h
end

/-! ### heaps -/
theorem same_upd {H : Hp} {p : Addr} {o : HO} (h : H p = none) : Same H (upd H p o) := fun b x e => by
  rw [upd_ne (ne_of_none e h)]
  exact e
theorem Same.seqT {K : PySem.W.Frag} {H H' : Hp} {a : Addr} {xs : List V} (e : Same H H') (h : SqT K H a xs) : SqT K H' a xs := by
  rcases h with (h | ⟨o, h⟩) | h
  · exact .inl (.inl (e _ _ h))
  · exact .inl (.inr ⟨o, e _ _ h⟩)
  · exact .inr h
theorem seqT {K : PySem.W.Frag} {H H' : Hp} {a : Addr} {xs : List V} (e : Same H H') (h : SqT K H a xs) : SqT K H' a xs := Same.seqT e h
theorem sz {n : Nat} (h : n ≤ 1000) : n ≤ sizeLine := Nat.le_trans h (by decide)

/-! ### readings, step by step -/
def NewT (Q : VK) : List V → Hp → Prop := fun xs H1 => xs.length ≤ sizeLine ∧ ∀ p, H1 p = none → Q (.ref p) (upd H1 p (.tup xs))
def NewL (Q : VK) : List V → Hp → Prop := fun xs H1 => xs.length ≤ sizeLine ∧ ∀ p, H1 p = none → Q (.ref p) (upd H1 p (.lst xs))
section
variable {σ : L2.St} {H : Hp} {n : L2.St → Hp → Prop} {r : VK} {b c : L2.St → Hp → Prop} {t u : TS} {te ta tb : TE} {tt tu : TT} {Q : VK} {QB : Bool → Hp → Prop} {v w x y : V} {i j : Int} {K : PySem.W.Frag}
theorem z_seq (h : t ⟨u ⟨n, r, b, c⟩, r, b, c⟩ σ H) : tSeq t u ⟨n, r, b, c⟩ σ H := h
theorem z_asg {k : Nat} (h : te σ H fun x H1 => n (σ.set k (some x)) H1) : tAsg te (gName k) ⟨n, r, b, c⟩ σ H := h
theorem z_asgS {to ti : TE} {st : TSet} (h : te σ H fun v H0 => to σ H0 fun o H1 => ti σ H1 fun k H2 => st o k v H2 fun H3 => n σ H3) : tAsg te (gSub to ti st) ⟨n, r, b, c⟩ σ H := h
theorem z_drop (h : te σ H fun _ H1 => n σ H1) : tDrop te ⟨n, r, b, c⟩ σ H := h
theorem z_ret (h : te σ H r) : tRet te ⟨n, r, b, c⟩ σ H := h
theorem z_retN (h : r .non H) : tRetN ⟨n, r, b, c⟩ σ H := h
theorem z_next (h : n σ H) : tNext ⟨n, r, b, c⟩ σ H := h
theorem z_brk (h : b σ H) : tBreak ⟨n, r, b, c⟩ σ H := h
theorem z_cont (h : c σ H) : tCont ⟨n, r, b, c⟩ σ H := h
theorem z_ifs (h : tt σ H fun k H1 => if k = true then t ⟨n, r, b, c⟩ σ H1 else u ⟨n, r, b, c⟩ σ H1) : tIfS tt t u ⟨n, r, b, c⟩ σ H := h
theorem z_par {p q : Nat} {tl : TA} (h : tl σ H fun vs H1 => ∃ v w, vs = [v, w] ∧ n ((σ.set p (some v)).set q (some w)) H1) : tPar p q tl ⟨n, r, b, c⟩ σ H := h
theorem z_two {R : V → V → Prop} (h : R v w) : ∃ v' w', [v, w] = [v', w'] ∧ R v' w' := ⟨v, w, rfl, h⟩
theorem z_aug {k : Nat} {ti : TIp} (h : σ[k]? = some (some x)) (q : te σ H fun y H1 => ti x y H1 fun z H2 => n (σ.set k (some z)) H2) : tAug k te ti ⟨n, r, b, c⟩ σ H := ⟨x, h, q⟩
theorem z_ipI {f : Int → Int → Int} (q : Q (.int (f i j)) H) : ipI f (.int i) (.int j) H Q := ⟨i, j, rfl, rfl, q⟩
theorem z_var {k : Nat} (h : σ[k]? = some (some v)) (q : Q v H) : tVar k σ H Q := ⟨v, h, q⟩
theorem z_c (q : Q v H) : tC v σ H Q := q
theorem z_op {g : R2} (h : ta σ H fun x H1 => tb σ H1 fun y H2 => g x y H2 Q) : tOp g ta tb σ H Q := h
theorem z_un {g : V → Hp → VK → Prop} (h : ta σ H fun x H1 => g x H1 Q) : tUn g ta σ H Q := h
theorem z_I0 {g : Int → Int → V} (q : Q (g i j) H) : rI0 g (.int i) (.int j) H Q := ⟨i, j, rfl, rfl, q⟩
theorem z_I {C : Int → Int → Prop} {g : Int → Int → V} (hc : C i j) (q : Q (g i j) H) : rI C g (.int i) (.int j) H Q := ⟨i, j, rfl, rfl, hc, q⟩
theorem z_U {g : Int → V} (q : Q (g i) H) : rU g (.int i) H Q := ⟨i, rfl, q⟩
theorem z_eqI (q : Q (.bl (decide (i = j))) H) : rEq (.int i) (.int j) H Q := ⟨rfl, by rw [show decide (V.int i = V.int j) = decide (i = j) by simp]; exact q⟩
theorem z_neI (q : Q (.bl (decide (¬ i = j))) H) : rNe (.int i) (.int j) H Q := ⟨rfl, by rw [show (!decide (V.int i = V.int j)) = decide (¬ i = j) by simp]; exact q⟩
theorem z_eq (h : scal x y = true) (q : Q (.bl (decide (x = y))) H) : rEq x y H Q := ⟨h, q⟩
theorem z_test (h : te σ H fun x H1 => ∃ k, x = .bl k ∧ QB k H1) : tTest te σ H QB := h
theorem z_tB (h : te σ H fun x H1 => ∃ k, x = .bl k ∧ QB k H1) : tB te σ H QB := h
theorem z_bl {k : Bool} {R : Bool → Prop} (q : R k) : ∃ k', V.bl k = V.bl k' ∧ R k' := ⟨k, rfl, q⟩
theorem z_notT (h : tt σ H fun k H1 => QB (!k) H1) : tNot tt σ H QB := h
theorem z_andT (h : tt σ H fun k H1 => if k = true then tu σ H1 QB else QB false H1) : tAnd tt tu σ H QB := h
theorem z_orT (h : tt σ H fun k H1 => if k = true then QB true H1 else tu σ H1 QB) : tOr tt tu σ H QB := h
theorem z_andV (h : ta σ H fun x H1 => ∃ k, x = .bl k ∧ if k = true then tb σ H1 Q else Q (.bl false) H1) : tAndV ta tb σ H Q := h
theorem z_orV (h : ta σ H fun x H1 => ∃ k, x = .bl k ∧ if k = true then Q (.bl true) H1 else tb σ H1 Q) : tOrV ta tb σ H Q := h
theorem z_notV (h : ta σ H fun x H1 => ∃ k, x = .bl k ∧ Q (.bl (!k)) H1) : tNotV ta σ H Q := h
theorem z_ifE (h : tt σ H fun k H1 => if k = true then ta σ H1 Q else tb σ H1 Q) : tIf tt ta tb σ H Q := h
theorem z_chain {g g' : R2} {tc : TE} (h : ta σ H fun x H1 => tb σ H1 fun y H2 => g x y H2 fun z H3 => ∃ k, z = .bl k ∧ (if k = true then tc σ H3 fun w' H4 => g' y w' H4 Q else Q (.bl false) H3)) : tChain g g' ta tb tc σ H Q := h
theorem z_nil {R : List V → Hp → Prop} (q : R [] H) : tNil σ H R := q
theorem z_cons {tr : TA} {R : List V → Hp → Prop} (h : ta σ H fun x H1 => tr σ H1 fun xs H2 => R (x :: xs) H2) : tCons ta tr σ H R := h
theorem z_tup {tl : TA} (h : tl σ H (NewT Q)) : tTup tl σ H Q := h
theorem z_lst {tl : TA} (h : tl σ H (NewL Q)) : tLst tl σ H Q := h
theorem z_newT {xs : List V} (hl : xs.length ≤ 1000) (q : ∀ p H', H p = none → Same H H' → H' p = some (.tup xs) → Q (.ref p) H') : NewT Q xs H := ⟨sz hl, fun p hp => q p _ hp (same_upd hp) upd_same⟩
theorem z_newL {xs : List V} (hl : xs.length ≤ 1000) (q : ∀ p H', H p = none → Same H H' → H' p = some (.lst xs) → Q (.ref p) H') : NewL Q xs H := ⟨sz hl, fun p hp => q p _ hp (same_upd hp) upd_same⟩
theorem z_cb {g : List V → Hp → VK → Prop} {tl : TA} (h : tl σ H fun vs H1 => g vs H1 Q) : tCB g tl σ H Q := h
theorem z_call {sp : Sp} {E : XK} {tl : TA} (h : tl σ H fun vs H1 => sp vs H1 Q E) : tCall sp [] E tl σ H Q := by
  unfold tCall
  simpa only [List.append_nil] using h
theorem z_callS {sp : Sp} {E : L2.St → XK} {tl : TA} (h : tl σ H fun vs H1 => sp vs H1 Q (E σ)) : tCallS sp E tl σ H Q := h
theorem z_ixL {p : Addr} {xs : List V} (h : SqL K H p xs) (ha : atI xs i = some v) (q : Q v H) : rIxL K (.ref p) (.int i) H Q := ⟨p, xs, i, v, rfl, rfl, h, ha, q⟩
theorem z_ixT {p : Addr} {xs : List V} (h : SqT K H p xs) (ha : atI xs i = some v) (q : Q v H) : rIxT K (.ref p) (.int i) H Q := ⟨p, xs, i, v, rfl, rfl, h, ha, q⟩
theorem z_setL {p : Addr} {xs : List V} {k : Nat} {R : Hp → Prop} (h : H p = some (.lst xs)) (hk : ixN xs.length i = some k) (q : R (upd H p (.lst (xs.set k v)))) : rSetL (.ref p) (.int i) v H R := ⟨p, xs, i, k, rfl, rfl, h, hk, q⟩
theorem z_if {p : Prop} [Decidable p] {A B : Prop} (h1 : p → A) (h2 : ¬ p → B) : if decide p = true then A else B := by
  by_cases h : p
  · rw [if_pos (decide_eq_true h)]
    exact h1 h
  · rw [if_neg (by simpa using h)]
    exact h2 h
theorem z_ifB {k : Bool} {A B : Prop} (h1 : k = true → A) (h2 : k = false → B) : if k = true then A else B := by
  cases k with
  | true => exact h1 rfl
  | false => exact h2 rfl
/-- and, or, not of a test whose answer is known, the heap as it was -/
theorem z_andK {k k' : Bool} (h : k = true → ∀ R : Bool → Hp → Prop, R k' H → tu σ H R) (q : QB (k && k') H) : if k = true then tu σ H QB else QB false H := by
  cases k with
  | true => exact h rfl QB q
  | false => exact q
theorem z_orK {k k' : Bool} (h : k = false → ∀ R : Bool → Hp → Prop, R k' H → tu σ H R) (q : QB (k || k') H) : if k = true then QB true H else tu σ H QB := by
  cases k with
  | true => exact q
  | false => exact h rfl QB q
theorem z_andKV {k k' : Bool} (h : k = true → ∀ R : VK, R (.bl k') H → tb σ H R) (q : Q (.bl (k && k')) H) : if k = true then tb σ H Q else Q (.bl false) H := by
  cases k with
  | true => exact h rfl Q q
  | false => exact q
theorem z_orKV {k k' : Bool} (h : k = false → ∀ R : VK, R (.bl k') H → tb σ H R) (q : Q (.bl (k || k')) H) : if k = true then Q (.bl true) H else tb σ H Q := by
  cases k with
  | true => exact q
  | false => exact h rfl Q q
/-- the second comparison of a chain -/
theorem z_chK {k k' : Bool} {tc : TE} {g' : R2} (h : k = true → ∀ R : VK, R (.bl k') H → tc σ H fun w' H4 => g' y w' H4 R) (q : Q (.bl (k && k')) H) :
    if k = true then tc σ H fun w' H4 => g' y w' H4 Q else Q (.bl false) H := by
  cases k with
  | true => exact h rfl Q q
  | false => exact q
theorem z_ty {x : V} {t : String} {T : String} {k : Bool} {H : Hp} {Q : VK} (h : TyX K H x (.type t)) (e : kitB t T = some k) (q : Q (.bl k) H) : rIsi K [x, .ty T] H Q := ⟨x, .ty T, .type t, .type T, k, rfl, .ty T, h, kit_ty e, q⟩
end
end Z
namespace Z
open PySem PySem.Spec PyProof.Rows L2
theorem pe_powc {X : Cx} {a b v : Int} {j1 j2 : Nat} {p1 p2 pos : Pos} (h0 : CPow a b) (hv : a ^ b.toNat = v) : PE X (.BinOp (.Constant (.int a) j1 p1) .Pow (.Constant (.int b) j2 p2) pos) (tC (.int v)) := by
  subst hv
  exact ⟨fun pins s σ H Q I h => (pe_op op_pow pe_int pe_int).run pins s σ H Q I ⟨a, b, rfl, rfl, h0, h⟩⟩
def rInt1 : List V → Hp → VK → Prop := fun xs H Q => (∃ i, xs = [.int i] ∧ Q (.int i) H) ∨ ∃ k, xs = [.bl k] ∧ Q (.int (if k then 1 else 0)) H
def rAbs : List V → Hp → VK → Prop := fun xs H Q => ∃ i, xs = [.int i] ∧ Q (.int (if i < 0 then -i else i)) H
def rLen (K : PySem.W.Frag) : List V → Hp → VK → Prop := fun xs H Q => ∃ p ys, xs = [.ref p] ∧ (SqL K H p ys ∨ SqT K H p ys) ∧ Q (.int ys.length) H
theorem c_int {X : Cx} : CallR X (.type "int") rInt1 := call_int1
theorem c_abs {X : Cx} : CallR X (.builtin "abs") rAbs := call_abs
theorem c_len {X : Cx} : CallR X (.builtin "len") (rLen X.K) := call_len_seq
section
variable {H : Hp} {Q : VK} {i j : Int} {v : V} {R : Prop}
theorem z_int1 (q : Q (.int i) H) : rInt1 [.int i] H Q := .inl ⟨i, rfl, q⟩
theorem z_int1b {k : Bool} (q : Q (.int (if k then 1 else 0)) H) : rInt1 [.bl k] H Q := .inr ⟨k, rfl, q⟩
theorem z_abs (q : Q (.int (if i < 0 then -i else i)) H) : rAbs [.int i] H Q := ⟨i, rfl, q⟩
theorem z_gcd (q : Q (.int ((Nat.gcd i.natAbs j.natAbs : Nat) : Int)) H) : rGcd [.int i, .int j] H Q := ⟨i, j, rfl, q⟩
theorem z_lenL {K : PySem.W.Frag} {p : Addr} {xs : List V} (h : SqL K H p xs) (q : Q (.int (xs.length : Int)) H) : rLen K [.ref p] H Q := ⟨p, xs, rfl, .inl h, q⟩
theorem z_lenT {K : PySem.W.Frag} {p : Addr} {xs : List V} (h : SqT K H p xs) (q : Q (.int (xs.length : Int)) H) : rLen K [.ref p] H Q := ⟨p, xs, rfl, .inr h, q⟩
theorem z_isII {K : PySem.W.Frag} (q : Q (.bl true) H) : rIsi K [.int i, .ty "int"] H Q := z_ty (.base (.int i)) (by decide +kernel) q
theorem z_isIB {K : PySem.W.Frag} (q : Q (.bl false) H) : rIsi K [.int i, .ty "bool"] H Q := z_ty (.base (.int i)) (by decide +kernel) q
theorem z_isBB {K : PySem.W.Frag} {k : Bool} (q : Q (.bl true) H) : rIsi K [.bl k, .ty "bool"] H Q := z_ty (.base (.bl k)) (by decide +kernel) q
theorem z_isTT {K : PySem.W.Frag} {p : Addr} {xs : List V} (h : H p = some (.tup xs)) (q : Q (.bl true) H) : rIsi K [.ref p, .ty "tuple"] H Q := z_ty (.base (.tup h)) (by decide +kernel) q
theorem z_isLL {K : PySem.W.Frag} {p : Addr} {xs : List V} (h : H p = some (.lst xs)) (q : Q (.bl true) H) : rIsi K [.ref p, .ty "list"] H Q := z_ty (.base (.lst h)) (by decide +kernel) q
theorem z_new {xs : List V} {F : Addr → Prop} (h : xs.length ≤ 1000) (q : ∀ p, H p = none → F p) : xs.length ≤ sizeLine ∧ ∀ p, H p = none → F p := ⟨sz h, q⟩
end
end Z
namespace Z
open PySem PySem.Spec PyProof.Rows L2
section
variable {σ : L2.St} {H : Hp} {n : L2.St → Hp → Prop} {r : VK} {b c : L2.St → Hp → Prop} {tb : TS} {K : PySem.W.Frag}
/-- for k in range(m) -/
theorem z_forR1 {ta : TA} {k : Nat} (m : Nat) (hm : m < 2 ^ 62) (ha : ∀ R : List V → Hp → Prop, R [.int (m : Int)] H → ta σ H R) (Pv : Nat → L2.St → Hp → Prop) (h0 : Pv 0 σ H)
    (hs : ∀ i σ H, i < m → Pv i σ H → tb ⟨Pv (i + 1), r, n, Pv (i + 1)⟩ (σ.set k (some (.int (i : Int)))) H) (hd : ∀ σ H, Pv m σ H → n σ H) : tFor (iRng1 ta) (gName k) tb ⟨n, r, b, c⟩ σ H := by
  refine ha _ ⟨(m : Int), rfl, by omega, by omega, ?_⟩
  refine for_range (lo := 0) (n := (m : Int).toNat) Pv h0 (fun i σ' H' hi p => ?_) (fun σ' H' p => hd σ' H' (by simpa using p))
  have e : (0 : Int) + (i : Int) = (i : Int) := Int.zero_add _
  show tb _ (σ'.set k (some (.int ((0 : Int) + (i : Int))))) H'
  rw [e]
  exact hs i σ' H' (by simpa using hi) p
/-- for k in range(lo, hi) -/
theorem z_forR2 {ta : TA} {k : Nat} (lo : Int) (m : Nat) (hl : -(2 ^ 61) ≤ lo ∧ lo < 2 ^ 61) (hm : m < 2 ^ 61) (ha : ∀ R : List V → Hp → Prop, R [.int lo, .int (lo + (m : Int))] H → ta σ H R) (Pv : Nat → L2.St → Hp → Prop) (h0 : Pv 0 σ H)
    (hs : ∀ i σ H, i < m → Pv i σ H → tb ⟨Pv (i + 1), r, n, Pv (i + 1)⟩ (σ.set k (some (.int (lo + (i : Int))))) H) (hd : ∀ σ H, Pv m σ H → n σ H) : tFor (iRng2 ta) (gName k) tb ⟨n, r, b, c⟩ σ H := by
  refine ha _ ⟨lo, lo + (m : Int), rfl, by omega, ?_⟩
  have en : (lo + (m : Int) - lo).toNat = m := by omega
  rw [en]
  exact for_range (lo := lo) (n := m) Pv h0 hs hd
/-- for x in a list, in a tuple -/
theorem z_forL {tl : TE} {g : TG} {a : Addr} {xs : List V} (ha : ∀ R : VK, R (.ref a) H → tl σ H R) (hx : SqL K H a xs) (Pv : Nat → L2.St → Hp → Prop) (h0 : Pv 0 σ H) (hl : ∀ i σ H, i ≤ xs.length → Pv i σ H → SqL K H a xs)
    (hs : ∀ i x σ H, xs[i]? = some x → Pv i σ H → g x σ H fun σ2 H2 => tb ⟨Pv (i + 1), r, n, Pv (i + 1)⟩ σ2 H2) (hd : ∀ σ H, Pv xs.length σ H → n σ H) : tFor (iList K tl) g tb ⟨n, r, b, c⟩ σ H :=
  ha _ ⟨a, rfl, ⟨xs, hx⟩, for_list Pv h0 hl hs hd⟩
theorem z_forT {tl : TE} {g : TG} {a : Addr} {xs : List V} (ha : ∀ R : VK, R (.ref a) H → tl σ H R) (hx : SqT K H a xs) (Pv : Nat → L2.St → Hp → Prop) (h0 : Pv 0 σ H) (hl : ∀ i σ H, i ≤ xs.length → Pv i σ H → SqT K H a xs)
    (hs : ∀ i x σ H, xs[i]? = some x → Pv i σ H → g x σ H fun σ2 H2 => tb ⟨Pv (i + 1), r, n, Pv (i + 1)⟩ σ2 H2) (hd : ∀ σ H, Pv xs.length σ H → n σ H) : tFor (iTup K tl) g tb ⟨n, r, b, c⟩ σ H :=
  ha _ ⟨a, rfl, ⟨xs, hx⟩, for_tup Pv h0 hl hs hd⟩
theorem z_gName {k : Nat} {v : V} {R : L2.St → Hp → Prop} (q : R (σ.set k (some v)) H) : gName k v σ H R := q
end
end Z
namespace Z
section
variable {A B : Prop}
theorem z_ifT (q : A) : if true = true then A else B := by
  rw [if_pos rfl]
  exact q
theorem z_ifF (q : B) : if false = true then A else B := by
  rw [if_neg Bool.false_ne_true]
  exact q
theorem z_ifNF (q : A) : if (!false) = true then A else B := z_ifT q
theorem z_ifNT (q : B) : if (!true) = true then A else B := z_ifF q
theorem z_ifN {p : Prop} [Decidable p] (h1 : ¬ p → A) (h2 : p → B) : if (!decide p) = true then A else B := by
  by_cases h : p
  · rw [if_neg (by simpa using h)]
    exact h2 h
  · rw [if_pos (by simpa using h)]
    exact h1 h
end
end Z
namespace Z
theorem z_ifYes {A B : Prop} {k : Bool} (h : k = true) (q : A) : if k = true then A else B := by
  rw [if_pos h]
  exact q
theorem z_ifNo {A B : Prop} {k : Bool} (h : k = false) (q : B) : if k = true then A else B := by
  rw [if_neg (by rw [h]; exact Bool.false_ne_true)]
  exact q
end Z
namespace Z
open PySem PySem.Spec PyProof.Rows L2
theorem z_exc {K : PySem.W.Frag} {cv cls : Value} {i : Nat} {ts : Addr → Value → Option Addr → TS} {Wout : WX} {n : L2.St → Hp → Prop} {r : VK} {b c : L2.St → Hp → Prop} {d : Option Addr} {σ : L2.St} {H : Hp} (e : PySem.W.exmOne K cls cv = some true)
    (h : ∀ a, H a = none → ts a cls d ⟨fun σ' H' => n (σ'.set i none) H', r, fun σ' H' => b (σ'.set i none) H', fun σ' H' => c (σ'.set i none) H'⟩ (σ.set i (some (.ref a))) H) : WE (wAs K cv i ts Wout ⟨n, r, b, c⟩) σ cls d H :=
  ⟨true, e, fun _ a ha => h a ha, fun z => Bool.noConfusion z⟩
theorem z_excO {K : PySem.W.Frag} {cv cls : Value} {ts : Addr → Value → Option Addr → TS} {Wout : WX} {D : Ends} {d : Option Addr} {σ : L2.St} {H : Hp} (e : PySem.W.exmOne K cls cv = some true)
    (h : ∀ a, H a = none → ts a cls d D σ H) : WE (wOnly K cv ts Wout D) σ cls d H :=
  ⟨true, e, fun _ a ha => h a ha, fun z => Bool.noConfusion z⟩
theorem z_isEr {K : PySem.W.Frag} {a C D : Addr} {k : Bool} {H : Hp} {Q : VK} (x : ExcC K D) (e : PySem.W.kitOne K (.ref D) (.ref C) = some k) (q : Q (.bl k) H) : rIsEx K (.ref D) none a [.ref a, .ref C] H Q :=
  ⟨D, rfl, rfl, x, .ref C, .ref C, k, rfl, fun u h => h, e, q⟩
theorem z_isEt {K : PySem.W.Frag} {a D : Addr} {t : String} {k : Bool} {H : Hp} {Q : VK} (x : ExcC K D) (e : PySem.W.kitOne K (.ref D) (.type t) = some k) (q : Q (.bl k) H) : rIsEx K (.ref D) none a [.ref a, .ty t] H Q :=
  ⟨D, rfl, rfl, x, .ty t, .type t, k, rfl, fun u h => h, e, q⟩
/-- two lists, tuples of flat things compared -/
theorem z_eqD {K : PySem.W.Frag} {x y : V} {d e : PyData} {H : Hp} {Q : VK} (h1 : Dp K H x d) (h2 : Dp K H y e) (s1 : SeqAt.shaped d = true) (s2 : SeqAt.shaped e = true) (q : Q (.bl (PyData.eqv d e)) H) : rEqD K x y H Q := ⟨d, e, h1, h2, s1, s2, q⟩
end Z
namespace Z
open PySem PySem.Spec PyProof.Rows L2
theorem z_eqSame {K : PySem.W.Frag} {x y : V} {d : PyData} {H : Hp} {Q : VK} (h1 : Dp K H x d) (h2 : Dp K H y d) (s : SeqAt.shaped d = true) (q : Q (.bl true) H) : rEqD K x y H Q :=
  ⟨d, d, h1, h2, s, s, by rw [SeqAt.eqv_refl d (SeqAt.canLay_of_shaped s)]; exact q⟩
theorem dpT2 {K : PySem.W.Frag} {H : Hp} {p : Addr} {n d : Int} (h : H p = some (.tup [.int n, .int d])) : Dp K H (.ref p) (.tuple [.int n, .int d]) := .tup (.inl (.inl h)) (.cons (.int n) (.cons (.int d) .nil))
theorem dpB3 {K : PySem.W.Frag} {H : Hp} {p : Addr} {a b c : Bool} (h : H p = some (.lst [.bl a, .bl b, .bl c])) : Dp K H (.ref p) (.list [.bool a, .bool b, .bool c]) := .lst (.inl (.inl h)) (.cons (.bl a) (.cons (.bl b) (.cons (.bl c) .nil)))
end Z
namespace Z
open PySem PySem.Spec PyProof.Rows L2
theorem z_cut {t u : TS} {n : L2.St → Hp → Prop} {r : VK} {b c : L2.St → Hp → Prop} {σ : L2.St} {H : Hp} (Mid : L2.St → Hp → Prop) (h : t ⟨Mid, r, b, c⟩ σ H) (k : ∀ σ' H', Mid σ' H' → u ⟨n, r, b, c⟩ σ' H') : Evl.tCut t u ⟨n, r, b, c⟩ σ H := ⟨Mid, h, k⟩
end Z
namespace Z
open PySem PySem.Spec PyProof.Rows L2
section
variable {σ : L2.St} {H : Hp} {n : L2.St → Hp → Prop} {r : VK} {b c : L2.St → Hp → Prop} {te : TE} {K : PySem.W.Frag} {a : Addr} {xs : List V} {gs : TGs} {m : Nat} {v : V}
theorem z_asgT (h : te σ H fun x H1 => ∃ a xs, x = .ref a ∧ SqT K H1 a xs ∧ xs.length = m ∧ gs xs σ H1 n) : tAsg te (gTup K m gs) ⟨n, r, b, c⟩ σ H := h
theorem z_asgL (h : te σ H fun x H1 => ∃ a xs, x = .ref a ∧ SqL K H1 a xs ∧ xs.length = m ∧ gs xs σ H1 n) : tAsg te (gLst K m gs) ⟨n, r, b, c⟩ σ H := h
theorem z_up (h : SqT K H a xs) (hm : xs.length = m) (q : gs xs σ H n) : ∃ a' xs', V.ref a = .ref a' ∧ SqT K H a' xs' ∧ xs'.length = m ∧ gs xs' σ H n := ⟨a, xs, rfl, h, hm, q⟩
theorem z_upL (h : SqL K H a xs) (hm : xs.length = m) (q : gs xs σ H n) : ∃ a' xs', V.ref a = .ref a' ∧ SqL K H a' xs' ∧ xs'.length = m ∧ gs xs' σ H n := ⟨a, xs, rfl, h, hm, q⟩
theorem z_gT (h : SqT K H a xs) (hm : xs.length = m) (q : gs xs σ H n) : gTup K m gs (.ref a) σ H n := ⟨a, xs, rfl, h, hm, q⟩
theorem z_gcons {t : TG} {u : TGs} {R : L2.St → Hp → Prop} (h : t v σ H fun σ' H' => u xs σ' H' R) : gCons t u (v :: xs) σ H R := ⟨v, xs, rfl, h⟩
theorem z_gnil {R : L2.St → Hp → Prop} (h : R σ H) : gNil [] σ H R := ⟨rfl, h⟩
end
end Z
namespace Z
open PySem PySem.Spec PyProof.Rows L2
section
variable {K : PySem.W.Frag} {Wout : WX} {D : Ends} {c cls : Value} {ts : Addr → Value → Option Addr → TS} {l : List (Value × (Addr → Value → Option Addr → TS))} {σ : L2.St} {H : Hp} {d : Option Addr}
theorem z_many1 (e : PySem.W.exmOne K cls c = some true) (h : ∀ a, H a = none → ts a cls d D σ H) : WE (wMany K Wout D ((c, ts) :: l)) σ cls d H := ⟨true, e, fun _ a ha => h a ha, fun z => Bool.noConfusion z⟩
theorem z_many0 (e : PySem.W.exmOne K cls c = some false) (h : WE (wMany K Wout D l) σ cls d H) : WE (wMany K Wout D ((c, ts) :: l)) σ cls d H := ⟨false, e, fun z => Bool.noConfusion z, fun _ => h⟩
theorem z_eqS {x : Str} {Q : VK} (q : Q (.bl true) H) : rEq (.str x) (.str x) H Q := ⟨rfl, by rw [decide_eq_true rfl]; exact q⟩
end
end Z
/-! ### data: what a value stands for -/
namespace Z
open PySem PySem.Spec PyProof.Rows L2
section
variable {K : PySem.W.Frag} {H H' : Hp} {v : V} {d d1 d2 d3 d4 d5 d6 : PyData}
mutual
theorem dp_mono (s : Same H H') : ∀ {d : PyData} {v : V}, Dp K H v d → Dp K H' v d
  | _, _, .non => .non
  | _, _, .bl b => .bl b
  | _, _, .int i => .int i
  | _, _, .str x => .str x
  | _, _, .lst h a => .lst (s.seq h) (dp_monoA s a)
  | _, _, .tup h a => .tup (seqT s h) (dp_monoA s a)
theorem dp_monoA (s : Same H H') : ∀ {ds : List PyData} {vs : List V}, DpAll K H vs ds → DpAll K H' vs ds
  | _, _, .nil => .nil
  | _, _, .cons h a => .cons (dp_mono s h) (dp_monoA s a)
end
mutual
def tupOnly : PyData → Bool
  | .list _ => false
  | .dict _ => false
  | .tuple ds => tupOnlyA ds
  | .none => true
  | .bool _ => true
  | .int _ => true
  | .str _ => true
def tupOnlyA : List PyData → Bool
  | [] => true
  | d :: ds => tupOnly d && tupOnlyA ds
end
def Kp (p : Addr) (H H' : Hp) : Prop := ∀ b o, b ≠ p → H b = some o → H' b = some o
theorem seqT_kp {p a : Addr} {xs ys : List V} (k : Kp p H H') (hp : H p = some (.lst xs)) (h : SqT K H a ys) : SqT K H' a ys := by
  rcases h with (h | ⟨o, h⟩) | h
  · exact .inl (.inl (k _ _ (ne_of h hp (by intro z; cases z)) h))
  · exact .inl (.inr ⟨o, k _ _ (ne_of h hp (by intro z; cases z)) h⟩)
  · exact .inr h
mutual
theorem dp_kp {p : Addr} {xs : List V} (k : Kp p H H') (hp : H p = some (.lst xs)) : ∀ {d : PyData} {v : V}, tupOnly d = true → Dp K H v d → Dp K H' v d
  | _, _, _, .non => .non
  | _, _, _, .bl b => .bl b
  | _, _, _, .int i => .int i
  | _, _, _, .str x => .str x
  | _, _, t, .lst h a => by simp [tupOnly] at t
  | _, _, t, .tup h a => .tup (seqT_kp k hp h) (dp_kpA k hp (by simpa [tupOnly] using t) a)
theorem dp_kpA {p : Addr} {xs : List V} (k : Kp p H H') (hp : H p = some (.lst xs)) : ∀ {ds : List PyData} {vs : List V}, tupOnlyA ds = true → DpAll K H vs ds → DpAll K H' vs ds
  | _, _, _, .nil => .nil
  | _, _, t, .cons h a => by
    have t' : (tupOnly _ && tupOnlyA _) = true := t
    rw [Bool.and_eq_true] at t'
    exact .cons (dp_kp k hp t'.1 h) (dp_kpA k hp t'.2 a)
end
theorem dp_int {i : Int} (h : Dp K H v (.int i)) : v = .int i := by
  cases h
  rfl
theorem dp_non (h : Dp K H v .none) : v = .non := by
  cases h
  rfl
theorem dp_bool {b : Bool} (h : Dp K H v (.bool b)) : v = .bl b := by
  cases h
  rfl
theorem dp_str {b : Str} (h : Dp K H v (.str b)) : v = .str b := by
  cases h
  rfl
theorem dp_tup {ds : List PyData} (h : Dp K H v (.tuple ds)) : ∃ p vs, v = .ref p ∧ SqT K H p vs ∧ DpAll K H vs ds := by
  cases h with
  | tup h a => exact ⟨_, _, rfl, h, a⟩
theorem dpa_nil {vs : List V} (h : DpAll K H vs []) : vs = [] := by
  cases h
  rfl
theorem dpa_cons {vs : List V} {ds : List PyData} (h : DpAll K H vs (d :: ds)) : ∃ v r, vs = v :: r ∧ Dp K H v d ∧ DpAll K H r ds := by
  cases h with
  | cons a b => exact ⟨_, _, rfl, a, b⟩
theorem dp_t1 (h : Dp K H v (.tuple [d1])) : ∃ p v1, v = .ref p ∧ SqT K H p [v1] ∧ Dp K H v1 d1 := by
  obtain ⟨p, vs, e, hS, a⟩ := dp_tup h
  obtain ⟨v1, _, rfl, h1, a⟩ := dpa_cons a
  obtain rfl := dpa_nil a
  exact ⟨p, v1, e, hS, h1⟩
theorem dp_t2 (h : Dp K H v (.tuple [d1, d2])) : ∃ p v1 v2, v = .ref p ∧ SqT K H p [v1, v2] ∧ Dp K H v1 d1 ∧ Dp K H v2 d2 := by
  obtain ⟨p, vs, e, hS, a⟩ := dp_tup h
  obtain ⟨v1, _, rfl, h1, a⟩ := dpa_cons a
  obtain ⟨v2, _, rfl, h2, a⟩ := dpa_cons a
  obtain rfl := dpa_nil a
  exact ⟨p, v1, v2, e, hS, h1, h2⟩
theorem dp_t3 (h : Dp K H v (.tuple [d1, d2, d3])) : ∃ p v1 v2 v3, v = .ref p ∧ SqT K H p [v1, v2, v3] ∧ Dp K H v1 d1 ∧ Dp K H v2 d2 ∧ Dp K H v3 d3 := by
  obtain ⟨p, vs, e, hS, a⟩ := dp_tup h
  obtain ⟨v1, _, rfl, h1, a⟩ := dpa_cons a
  obtain ⟨v2, _, rfl, h2, a⟩ := dpa_cons a
  obtain ⟨v3, _, rfl, h3, a⟩ := dpa_cons a
  obtain rfl := dpa_nil a
  exact ⟨p, v1, v2, v3, e, hS, h1, h2, h3⟩
theorem dp_t6 (h : Dp K H v (.tuple [d1, d2, d3, d4, d5, d6])) : ∃ p v1 v2 v3 v4 v5 v6, v = .ref p ∧ SqT K H p [v1, v2, v3, v4, v5, v6] ∧ Dp K H v1 d1 ∧ Dp K H v2 d2 ∧ Dp K H v3 d3 ∧ Dp K H v4 d4 ∧ Dp K H v5 d5 ∧ Dp K H v6 d6 := by
  obtain ⟨p, vs, e, hS, a⟩ := dp_tup h
  obtain ⟨v1, _, rfl, h1, a⟩ := dpa_cons a
  obtain ⟨v2, _, rfl, h2, a⟩ := dpa_cons a
  obtain ⟨v3, _, rfl, h3, a⟩ := dpa_cons a
  obtain ⟨v4, _, rfl, h4, a⟩ := dpa_cons a
  obtain ⟨v5, _, rfl, h5, a⟩ := dpa_cons a
  obtain ⟨v6, _, rfl, h6, a⟩ := dpa_cons a
  obtain rfl := dpa_nil a
  exact ⟨p, v1, v2, v3, v4, v5, v6, e, hS, h1, h2, h3, h4, h5, h6⟩
theorem dp_mk {p : Addr} {vs : List V} {ds : List PyData} (h : H p = some (.tup vs)) (a : DpAll K H vs ds) : Dp K H (.ref p) (.tuple ds) := .tup (.inl (.inl h)) a
end
/-! ### numbers -/
def qD (r : Rat) : PyData := .tuple [.int r.num, .int (r.den : Int)]
theorem dp_q {K : PySem.W.Frag} {H : Hp} {v : V} {r : Rat} (h : Dp K H v (qD r)) : ∃ p, v = .ref p ∧ SqT K H p [.int r.num, .int (r.den : Int)] := by
  obtain ⟨p, v1, v2, e, hS, h1, h2⟩ := dp_t2 h
  rw [dp_int h1, dp_int h2] at hS
  exact ⟨p, e, hS⟩
theorem dp_mkq {K : PySem.W.Frag} {H : Hp} {p : Addr} {r : Rat} (h : H p = some (.tup [.int r.num, .int (r.den : Int)])) : Dp K H (.ref p) (qD r) := dp_mk h (.cons (.int _) (.cons (.int _) .nil))
theorem dp_seqq {K : PySem.W.Frag} {H : Hp} {p : Addr} {r : Rat} (h : SqT K H p [.int r.num, .int (r.den : Int)]) : Dp K H (.ref p) (qD r) := .tup h (.cons (.int _) (.cons (.int _) .nil))
/-- numerator and denominator at most so great -/
def Bd (r : Rat) (p q : Nat) : Prop := r.num.natAbs ≤ p ∧ r.den ≤ q
theorem bd_divInt {n d : Int} (h : d ≠ 0) : Bd (Rat.divInt n d) n.natAbs d.natAbs := by
  unfold Bd
  rw [Rat.num_divInt, Rat.den_divInt, if_neg h]
  refine ⟨Nat.le_trans (Int.natAbs_ediv_le_natAbs _ _) ?_, Nat.div_le_self _ _⟩
  rw [Int.natAbs_mul]
  have : d.sign.natAbs ≤ 1 := by
    rcases Int.lt_trichotomy d 0 with z | z | z
    · rw [Int.sign_eq_neg_one_of_neg z]; decide
    · exact absurd z h
    · rw [Int.sign_eq_one_of_pos z]; decide
  calc d.sign.natAbs * n.natAbs ≤ 1 * n.natAbs := Nat.mul_le_mul_right _ this
    _ = n.natAbs := Nat.one_mul _
theorem q_self (r : Rat) : Rat.divInt r.num (r.den : Int) = r := Rat.num_divInt_den r
end Z
namespace Z
open PySem PySem.Spec PyProof.Rows L2
def gd (n d : Int) : Int := ((Nat.gcd n.natAbs d.natAbs : Nat) : Int)
def rn (n d : Int) : Int := (if d < 0 then -n else n) / gd n d
def rd (n d : Int) : Int := (if d < 0 then -d else d) / gd n d
theorem rn_q {n d : Int} (h : d ≠ 0) : rn n d = (Rat.divInt n d).num := by
  rw [Rat.num_divInt]
  unfold rn gd
  have e : d.gcd n = Nat.gcd n.natAbs d.natAbs := Nat.gcd_comm _ _
  rw [e]
  congr 1
  split
  · rename_i z
    rw [Int.sign_eq_neg_one_of_neg z]
    omega
  · rename_i z
    rw [Int.sign_eq_one_of_pos (by omega)]
    omega
theorem rd_q {n d : Int} (h : d ≠ 0) : rd n d = ((Rat.divInt n d).den : Int) := by
  rw [Rat.den_divInt, if_neg h]
  unfold rd gd
  have e : d.gcd n = Nat.gcd n.natAbs d.natAbs := Nat.gcd_comm _ _
  rw [e]
  rw [Int.natCast_ediv]
  congr 1
  split <;> omega
def lim : Int := 1000000000000000000
def fitsQ (r : Rat) : Prop := -lim ≤ r.num ∧ r.num ≤ lim ∧ (r.den : Int) ≤ lim
theorem bd_add {a b : Rat} {p q p' q' : Nat} (h : Bd a p q) (h' : Bd b p' q') : Bd (a + b) (p * q' + p' * q) (q * q') := by
  have ha := a.den_nz
  have hb := b.den_nz
  have e : a + b = Rat.divInt (a.num * b.den + b.num * a.den) ((a.den : Int) * b.den) := by
    rw [← Rat.divInt_add_divInt _ _ (by omega) (by omega), Rat.num_divInt_den, Rat.num_divInt_den]
  rw [e]
  have hd : ((a.den : Int) * b.den) ≠ 0 := Int.mul_ne_zero (by omega) (by omega)
  have k := bd_divInt (n := a.num * b.den + b.num * a.den) hd
  refine ⟨Nat.le_trans k.1 (Nat.le_trans (Int.natAbs_add_le _ _) ?_), Nat.le_trans k.2 ?_⟩
  · rw [Int.natAbs_mul, Int.natAbs_mul]
    exact Nat.add_le_add (Nat.mul_le_mul h.1 h'.2) (Nat.mul_le_mul h'.1 h.2)
  · rw [Int.natAbs_mul]
    exact Nat.mul_le_mul h.2 h'.2
theorem bd_mul {a b : Rat} {p q p' q' : Nat} (h : Bd a p q) (h' : Bd b p' q') : Bd (a * b) (p * p') (q * q') := by
  have ha := a.den_nz
  have hb := b.den_nz
  have e : a * b = Rat.divInt (a.num * b.num) ((a.den : Int) * b.den) := by
    rw [← Rat.divInt_mul_divInt, Rat.num_divInt_den, Rat.num_divInt_den]
  rw [e]
  have hd : ((a.den : Int) * b.den) ≠ 0 := Int.mul_ne_zero (by omega) (by omega)
  have k := bd_divInt (n := a.num * b.num) hd
  refine ⟨Nat.le_trans k.1 ?_, Nat.le_trans k.2 ?_⟩
  · rw [Int.natAbs_mul]
    exact Nat.mul_le_mul h.1 h'.1
  · rw [Int.natAbs_mul]
    exact Nat.mul_le_mul h.2 h'.2
theorem bd_neg {a : Rat} {p q : Nat} (h : Bd a p q) : Bd (-a) p q := by
  unfold Bd
  rw [Rat.neg_num, Rat.neg_den, Int.natAbs_neg]
  exact h
theorem bd_sub {a b : Rat} {p q p' q' : Nat} (h : Bd a p q) (h' : Bd b p' q') : Bd (a - b) (p * q' + p' * q) (q * q') := by
  rw [Rat.sub_eq_add_neg]
  exact bd_add h (bd_neg h')
theorem q_div (a b : Rat) (h : b ≠ 0) : a / b = Rat.divInt (a.num * b.den) ((a.den : Int) * b.num) := by
  rw [Rat.div_def, ← Rat.num_divInt_den b, Rat.inv_divInt]
  conv => lhs; lhs; rw [← Rat.num_divInt_den a]
  rw [Rat.divInt_mul_divInt, Rat.num_divInt_den]
theorem bd_div {a b : Rat} {p q p' q' : Nat} (hb : b ≠ 0) (h : Bd a p q) (h' : Bd b p' q') : Bd (a / b) (p * q') (q * p') := by
  have ha := a.den_nz
  rw [q_div a b hb]
  have hn : b.num ≠ 0 := fun z => hb (Rat.num_eq_zero.mp z)
  have hd : ((a.den : Int) * b.num) ≠ 0 := Int.mul_ne_zero (by omega) hn
  have k := bd_divInt (n := a.num * b.den) hd
  refine ⟨Nat.le_trans k.1 ?_, Nat.le_trans k.2 ?_⟩
  · rw [Int.natAbs_mul]
    exact Nat.mul_le_mul h.1 h'.2
  · rw [Int.natAbs_mul]
    exact Nat.mul_le_mul h.2 h'.1
theorem Bd.le {a : Rat} {p q p' q' : Nat} (h : Bd a p q) (h1 : p ≤ p') (h2 : q ≤ q') : Bd a p' q' := ⟨Nat.le_trans h.1 h1, Nat.le_trans h.2 h2⟩
theorem Bd.fits {a : Rat} {p q : Nat} (h : Bd a p q) (h1 : p ≤ 1000000000000000000) (h2 : q ≤ 1000000000000000000) : fitsQ a := by
  have a1 := h.1
  have a2 := h.2
  unfold fitsQ lim
  omega
theorem q_add (a b : Rat) : a + b = Rat.divInt (a.num * b.den + b.num * a.den) ((a.den : Int) * b.den) := by
  have ha := a.den_nz
  have hb := b.den_nz
  rw [← Rat.divInt_add_divInt _ _ (by omega) (by omega), Rat.num_divInt_den, Rat.num_divInt_den]
theorem q_sub (a b : Rat) : a - b = Rat.divInt (a.num * b.den - b.num * a.den) ((a.den : Int) * b.den) := by
  have ha := a.den_nz
  have hb := b.den_nz
  rw [← Rat.divInt_sub_divInt _ _ (by omega) (by omega), Rat.num_divInt_den, Rat.num_divInt_den]
theorem q_mul (a b : Rat) : a * b = Rat.divInt (a.num * b.num) ((a.den : Int) * b.den) := by
  rw [← Rat.divInt_mul_divInt, Rat.num_divInt_den, Rat.num_divInt_den]
theorem q_dd (a b : Rat) : ((a.den : Int) * b.den) ≠ 0 := by
  have ha := a.den_nz
  have hb := b.den_nz
  exact Int.mul_ne_zero (by omega) (by omega)
end Z
namespace Z
open PySem PySem.Spec PyProof.Rows L2
theorem tyx_T {K : PySem.W.Frag} {H : Hp} {a : Addr} {xs : List V} (h : SqT K H a xs) : TyX K H (.ref a) (.type "tuple") := by
  rcases h with (h | ⟨o, h⟩) | ⟨o, its, n, h, c, _⟩
  · exact .base (.tup h)
  · exact .fTuple h
  · exact .kTuple h c
theorem z_isT {K : PySem.W.Frag} {H : Hp} {Q : VK} {p : Addr} {xs : List V} (h : SqT K H p xs) (q : Q (.bl true) H) : rIsi K [.ref p, .ty "tuple"] H Q := z_ty (tyx_T h) (by decide +kernel) q
end Z
namespace Z
open PySem PySem.Spec PyProof.Rows L2
/-- a tuple of the module's own -/
theorem dpk {K : PySem.W.Frag} {H : Hp} {a : Addr} {od : Option Addr} {its : List Value} {n : Nat} {sl : Array (Option Value)} {vs : List V} {ds : List PyData} (h : K.lookup a = some ⟨.type "tuple", od, .seq its.toArray n, sl⟩)
    (hs : its.length ≤ 1000) (r : Vals vs its) (d : DpAll K H vs ds) : Dp K H (.ref a) (.tuple ds) :=
  .tup (.inr ⟨_, its.toArray, n, h, rfl, rfl, by rw [List.size_toArray]; exact sz hs, by simpa using r⟩) d
/-- a tuple and a tuple -/
theorem z_catT {K : PySem.W.Frag} {H : Hp} {Q : VK} {p q : Addr} {xs ys : List V} (h1 : SqT K H p xs) (h2 : SqT K H q ys) (hx : xs ≠ []) (hl : xs.length + ys.length ≤ 1000) (hy : ys ≠ [])
    (k : ∀ p H', H p = none → Same H H' → H' p = some (.tup (xs ++ ys)) → Q (.ref p) H') : rCatT K (.ref p) (.ref q) H Q := by
  refine ⟨p, q, xs, ys, rfl, rfl, h1, h2, hx, sz hl, fun z => absurd z hy, fun _ a ha => k a _ ha (same_upd ha) upd_same⟩
end Z
namespace Z
open PySem PySem.Spec PyProof.Rows L2
def rTupOf (K : PySem.W.Frag) : List V → Hp → VK → Prop := fun xs H Q => ∃ p ys, xs = [.ref p] ∧ ((SqL K H p ys ∧ ∀ l, H l = none → Q (.ref l) (upd H l (.tup ys))) ∨ (SqT K H p ys ∧ Q (.ref p) H))
def rListOf (K : PySem.W.Frag) : List V → Hp → VK → Prop := fun xs H Q => ∃ p ys, xs = [.ref p] ∧ (SqL K H p ys ∨ SqT K H p ys) ∧ ∀ l, H l = none → Q (.ref l) (upd H l (.lst ys))
theorem c_tupOf {X : Cx} : CallR X (.type "tuple") (rTupOf X.K) := call_tuple_of
theorem c_listOf {X : Cx} : CallR X (.type "list") (rListOf X.K) := call_list_of
section
variable {K : PySem.W.Frag} {H : Hp} {Q : VK} {p : Addr} {xs : List V} {σ : L2.St}
theorem z_tupOf (h : SqL K H p xs) (q : ∀ a H', H a = none → Same H H' → H' a = some (.tup xs) → Q (.ref a) H') : rTupOf K [.ref p] H Q := ⟨p, xs, rfl, .inl ⟨h, fun l hl => q l _ hl (same_upd hl) upd_same⟩⟩
theorem z_tupOfT (h : SqT K H p xs) (q : Q (.ref p) H) : rTupOf K [.ref p] H Q := ⟨p, xs, rfl, .inr ⟨h, q⟩⟩
theorem z_listOf (h : SqL K H p xs) (q : ∀ a H', H a = none → Same H H' → H' a = some (.lst xs) → Q (.ref a) H') : rListOf K [.ref p] H Q := ⟨p, xs, rfl, .inl h, fun l hl => q l _ hl (same_upd hl) upd_same⟩
theorem z_listOfT (h : SqT K H p xs) (q : ∀ a H', H a = none → Same H H' → H' a = some (.lst xs) → Q (.ref a) H') : rListOf K [.ref p] H Q := ⟨p, xs, rfl, .inr h, fun l hl => q l _ hl (same_upd hl) upd_same⟩
theorem z_yes {QB : Bool → Hp → Prop} (q : QB true H) : tYes σ H QB := q
/-- [e for k in range(m)] -/
theorem z_lcR1 {ta : TA} {k : Nat} {te : TE} {vs : List Nat} (m : Nat) (hm : m ≤ 1000) (ha : ∀ R : List V → Hp → Prop, R [.int (m : Int)] H → ta σ H R) (hw : ∀ x, wipe ((wipe σ vs).set k (some x)) vs = wipe σ vs) (Pv : Nat → Addr → List V → Hp → Prop)
    (h0 : ∀ D H', H D = none → Same H H' → H' D = some (.lst []) → Pv 0 D [] H')
    (hs : ∀ i D acc H', i < m → acc.length = i → H' D = some (.lst acc) → Pv i D acc H' → te ((wipe σ vs).set k (some (.int (i : Int)))) H' fun y H4 => H4 D = some (.lst acc) ∧ Pv (i + 1) D (acc ++ [y]) (upd H4 D (.lst (acc ++ [y]))))
    (mono : ∀ σ' H' Q Q', (∀ y H4, Q y H4 → Q' y H4) → te σ' H' Q → te σ' H' Q')
    (hd : ∀ D acc H', acc.length = m → H' D = some (.lst acc) → Pv m D acc H' → Q (.ref D) H') : tLc (iRng1 ta) (gName k) tYes te vs σ H Q := by
  refine ha _ ⟨(m : Int), rfl, by omega, by omega, fun D hD => ?_⟩
  refine lc_range (lo := 0) (n := (m : Int).toNat) (fun i H' => ∃ acc, acc.length = i ∧ H' D = some (.lst acc) ∧ Pv i D acc H') ⟨[], rfl, upd_same, h0 D _ hD (same_upd hD) upd_same⟩ (fun i H' hi ⟨acc, hl, hH, p⟩ => ?_) (fun H' ⟨acc, hl, hH, p⟩ => hd D acc H' (by simpa using hl) hH (by simpa using p))
  have e : (0 : Int) + (i : Int) = (i : Int) := Int.zero_add _
  show wipe ((wipe σ vs).set k (some (.int ((0 : Int) + (i : Int))))) vs = wipe σ vs ∧ _
  refine ⟨hw _, ?_⟩
  refine z_yes ?_
  refine z_ifT ?_
  rw [e]
  have hi' : i < m := by simpa using hi
  exact mono _ _ _ _ (fun y H4 ⟨e1, e2⟩ => ⟨acc, e1, Nat.lt_of_lt_of_le (show acc.length < 1000 by omega) (by decide), acc ++ [y], by simp [hl], upd_same, e2⟩) (hs i D acc H' (by simpa using hi) hl hH p)
end
end Z
namespace Z
open PySem PySem.Spec PyProof.Rows L2
section
variable {K : PySem.W.Frag} {H : Hp} {Q : VK} {p : Addr} {xs : List V} {σ : L2.St} {i : Int} {RO : Option Int → Hp → Prop} {te : TE} {tl th : TO}
theorem z_sl {g : V → Option Int → Option Int → Hp → VK → Prop} (h : te σ H fun x H1 => tl σ H1 fun l H2 => th σ H2 fun u H3 => g x l u H3 Q) : tSl g te tl th σ H Q := h
theorem z_noPart (q : RO none H) : tNoPart σ H RO := q
theorem z_part (h : te σ H fun x H1 => ∃ i, x = .int i ∧ RO (some i) H1) : tPart te σ H RO := h
theorem z_partI (q : RO (some i) H) : ∃ i', V.int i = .int i' ∧ RO (some i') H := ⟨i, rfl, q⟩
theorem z_slL {lo hi : Option Int} {ys : List V} (h : SqL K H p xs) (e : cutV xs lo hi = ys) (q : ∀ a H', H a = none → Same H H' → H' a = some (.lst ys) → Q (.ref a) H') : rSlL K (.ref p) lo hi H Q := by
  subst e
  exact ⟨p, xs, rfl, h, fun a ha => q a _ ha (same_upd ha) upd_same⟩
end
end Z
namespace Z
open PySem PySem.Spec PyProof.Rows L2
theorem z_slT {K : PySem.W.Frag} {H : Hp} {Q : VK} {p : Addr} {xs ys : List V} {lo hi : Option Int} (h : SqT K H p xs) (hn : ¬ (HT.sIx xs.length 0 lo = 0 ∧ HT.sIx xs.length xs.length hi = xs.length)) (e : cutV xs lo hi = ys)
    (q : ∀ a H', H a = none → Same H H' → H' a = some (.tup ys) → Q (.ref a) H') : rSlT K (.ref p) lo hi H Q := by
  subst e
  exact ⟨p, xs, rfl, h, hn, fun a ha => q a _ ha (same_upd ha) upd_same⟩
theorem eqv_q (a b : Rat) : PyData.eqv (qD a) (qD b) = decide (a = b) := by
  show (a.num == b.num && ((a.den : Int) == (b.den : Int) && true)) = decide (a = b)
  by_cases h : a = b
  · subst h
    simp
  · rw [decide_eq_false h]
    by_cases h1 : a.num = b.num
    · have h2 : ¬ (a.den : Int) = b.den := fun z => h (Rat.ext h1 (by omega))
      simp [h2]
    · simp [h1]
theorem shaped_q (a : Rat) : SeqAt.shaped (qD a) = true := rfl
theorem z_eqQ {K : PySem.W.Frag} {x y : V} {a b : Rat} {H : Hp} {Q : VK} (h1 : Dp K H x (qD a)) (h2 : Dp K H y (qD b)) (q : Q (.bl (decide (a = b))) H) : rEqD K x y H Q := ⟨qD a, qD b, h1, h2, shaped_q a, shaped_q b, by rw [eqv_q]; exact q⟩
theorem z_neQ {K : PySem.W.Frag} {x y : V} {a b : Rat} {H : Hp} {Q : VK} (h1 : Dp K H x (qD a)) (h2 : Dp K H y (qD b)) (q : Q (.bl (decide (¬ a = b))) H) : rNeD K x y H Q := ⟨qD a, qD b, h1, h2, shaped_q a, shaped_q b, by
  rw [eqv_q, show (!decide (a = b)) = decide (¬ a = b) by simp]
  exact q⟩
theorem z_neSame {K : PySem.W.Frag} {x y : V} {d : PyData} {H : Hp} {Q : VK} (h1 : Dp K H x d) (h2 : Dp K H y d) (s : SeqAt.shaped d = true) (q : Q (.bl false) H) : rNeD K x y H Q :=
  ⟨d, d, h1, h2, s, s, by rw [SeqAt.eqv_refl d (SeqAt.canLay_of_shaped s)]; exact q⟩
end Z
namespace Z
open PySem PySem.Spec PyProof.Rows L2
def rIsN : R2 := fun x y H Q => y = .non ∧ Q (.bl (decide (x = .non))) H
def rNotN : R2 := fun x y H Q => y = .non ∧ Q (.bl (!decide (x = .non))) H
theorem op_isN1 {X : Cx} : OpR X (compareOp .Is) rIsN := op_isN
theorem op_notN1 {X : Cx} : OpR X (compareOp .IsNot) rNotN := op_notN
section
variable {σ : L2.St} {H : Hp} {n : L2.St → Hp → Prop} {r : VK} {b c : L2.St → Hp → Prop} {tb : TS} {K : PySem.W.Frag} {Q : VK} {p : Addr} {v y : V} {xs : List V}
theorem z_isNN (q : Q (.bl true) H) : rIsN .non .non H Q := ⟨rfl, by simpa using q⟩
theorem z_isNR (q : Q (.bl false) H) : rIsN (.ref p) .non H Q := ⟨rfl, by simpa using q⟩
theorem z_notNN (q : Q (.bl false) H) : rNotN .non .non H Q := ⟨rfl, by simpa using q⟩
theorem z_notNR (q : Q (.bl true) H) : rNotN (.ref p) .non H Q := ⟨rfl, by simpa using q⟩
theorem z_bmL {r : V → List V → Hp → VK → Prop} {to : TE} {t : TA} (ho : ∀ R : VK, R (.ref p) H → to σ H R) (hp : H p = some (.lst xs)) (h : t σ H fun vs H2 => r (.ref p) vs H2 Q) : tBM K "list" r to t σ H Q :=
  ho _ ⟨.inl ⟨rfl, _, .inl (.inl hp)⟩, h⟩
theorem z_append (hp : H p = some (.lst xs)) (hl : xs.length < 1000) (q : Q .non (upd H p (.lst (xs ++ [y])))) : rAppend (.ref p) [y] H Q := ⟨p, xs, y, rfl, rfl, hp, Nat.lt_of_lt_of_le hl (by decide), q⟩
/-- the list that a for goes over, made on the way -/
def ForL (K : PySem.W.Frag) (g : TG) (tb : TS) (n : L2.St → Hp → Prop) (r : VK) (b c : L2.St → Hp → Prop) (σ : L2.St) : VK := fun x H1 => tFor (iList K (tC x)) g tb ⟨n, r, b, c⟩ σ H1
theorem z_forE {tl : TE} {g : TG} (h : tl σ H (ForL K g tb n r b c σ)) : tFor (iList K tl) g tb ⟨n, r, b, c⟩ σ H := h
/-- [e for x in l], where e answers at once -/
theorem z_lcM {tl : TE} {k : Nat} {te : TE} {vs : List Nat} {a : Addr} {xs ws : List V} (hlen : ws.length = xs.length) (hm : xs.length ≤ 1000) (ha : ∀ R : VK, R (.ref a) H → tl σ H R) (hx : H a = some (.lst xs)) (hw : ∀ x, wipe ((wipe σ vs).set k (some x)) vs = wipe σ vs)
    (body : ∀ (i : Nat) (x w : V) (H' : Hp), xs[i]? = some x → ws[i]? = some w → Same H H' → ∀ R : VK, R w H' → te ((wipe σ vs).set k (some x)) H' R)
    (hd : ∀ D H', H D = none → Same H H' → H' D = some (.lst ws) → Q (.ref D) H') : tLc (iList K tl) (gName k) tYes te vs σ H Q := by
  refine ha _ ⟨a, rfl, ⟨xs, .inl (.inl hx)⟩, fun D hD => ?_⟩
  have hDa : a ≠ D := ne_of_none hx hD
  refine lc_list (xs := xs) (fun i H' => Same H H' ∧ H' D = some (.lst (ws.take i)) ∧ H' a = some (.lst xs)) ⟨same_upd hD, upd_same, by rw [upd_ne hDa]; exact hx⟩ (fun i H' _ h => .inl (.inl h.2.2)) (fun i x H' hi ⟨s, hH, h3⟩ => ?_) (fun H' ⟨s, hH, _⟩ => hd D H' hD s (by rw [hH, ← hlen, List.take_length]))
  show wipe ((wipe σ vs).set k (some x)) vs = wipe σ vs ∧ _
  refine ⟨hw _, ?_⟩
  refine z_yes ?_
  refine z_ifT ?_
  have hi' : i < xs.length := by
    rcases Nat.lt_or_ge i xs.length with h | h
    · exact h
    · rw [List.getElem?_eq_none h] at hi
      cases hi
  have hiw : i < ws.length := by omega
  have hw' : ws[i]? = some ws[i] := List.getElem?_eq_getElem hiw
  refine body i x _ H' hi hw' s _ ?_
  refine ⟨_, hH, Nat.lt_of_lt_of_le (show (ws.take i).length < 1000 by rw [List.length_take]; omega) (by decide), fun q x' e => ?_, ?_, ?_⟩
  · have hq : q ≠ D := ne_of_none e hD
    rw [upd_ne hq]
    exact s _ _ e
  · rw [upd_same, List.take_add_one, hw']
    rfl
  · rw [upd_ne hDa]
    exact h3
end
/-! ### numbers over a common denominator -/
def Zb (r : Rat) (N M : Nat) : Prop := ∃ k : Int, r * (N : Rat) = (k : Rat) ∧ k.natAbs ≤ M
theorem zb_add {a b : Rat} {N M M' : Nat} (h : Zb a N M) (h' : Zb b N M') : Zb (a + b) N (M + M') := by
  obtain ⟨k, e, l⟩ := h
  obtain ⟨k', e', l'⟩ := h'
  exact ⟨k + k', by rw [Rat.add_mul, e, e', Rat.intCast_add], by omega⟩
theorem zb_neg {a : Rat} {N M : Nat} (h : Zb a N M) : Zb (-a) N M := by
  obtain ⟨k, e, l⟩ := h
  exact ⟨-k, by rw [Rat.neg_mul, e, Rat.intCast_neg], by omega⟩
theorem zb_sub {a b : Rat} {N M M' : Nat} (h : Zb a N M) (h' : Zb b N M') : Zb (a - b) N (M + M') := by
  rw [Rat.sub_eq_add_neg]
  exact zb_add h (zb_neg h')
theorem zb_mul {a b : Rat} {N N' M M' : Nat} (h : Zb a N M) (h' : Zb b N' M') : Zb (a * b) (N * N') (M * M') := by
  obtain ⟨k, e, l⟩ := h
  obtain ⟨k', e', l'⟩ := h'
  refine ⟨k * k', ?_, by rw [Int.natAbs_mul]; exact Nat.mul_le_mul l l'⟩
  rw [Rat.natCast_mul, Rat.intCast_mul, ← e, ← e']
  grind
theorem zb_up {a : Rat} {N M : Nat} (c : Nat) (h : Zb a N M) : Zb a (N * c) (M * c) := by
  obtain ⟨k, e, l⟩ := h
  refine ⟨k * (c : Int), ?_, by rw [Int.natAbs_mul]; exact Nat.mul_le_mul l (by omega)⟩
  rw [Rat.natCast_mul, Rat.intCast_mul, ← e, Rat.intCast_natCast]
  grind
theorem Zb.le {a : Rat} {N M M' : Nat} (h : Zb a N M) (l : M ≤ M') : Zb a N M' := by
  obtain ⟨k, e, l'⟩ := h
  exact ⟨k, e, Nat.le_trans l' l⟩
theorem Zb.bd {a : Rat} {N M : Nat} (h : Zb a N M) (h0 : N ≠ 0) : Bd a M N := by
  obtain ⟨k, e, l⟩ := h
  have hN : (N : Rat) ≠ 0 := fun z => h0 (by exact_mod_cast z)
  have e2 : a = Rat.divInt k (N : Int) := by
    rw [Rat.divInt_eq_div, ← e, Rat.intCast_natCast]
    grind
  rw [e2]
  exact (bd_divInt (by omega)).le l (by omega)
theorem zb_divInt {n d : Int} {N M c : Nat} (hd : d ≠ 0) (hN : (N : Int) = d * (c : Int)) (hl : n.natAbs * c ≤ M) : Zb (Rat.divInt n d) N M := by
  refine ⟨n * (c : Int), ?_, by rw [Int.natAbs_mul]; exact hl⟩
  have hd' : (d : Rat) ≠ 0 := fun z => hd (by exact_mod_cast z)
  have e : (N : Rat) = (d : Rat) * (c : Rat) := by
    rw [← Rat.intCast_natCast N, hN, Rat.intCast_mul, Rat.intCast_natCast]
  rw [Rat.divInt_eq_div, e, Rat.intCast_mul, Rat.intCast_natCast]
  grind
theorem zb_of {r : Rat} {p q N M : Nat} (h : Bd r p q) (hN : ∀ d, d ≤ q → d ≠ 0 → d ∣ N) (hl : p * N ≤ M) : Zb r N M := by
  obtain ⟨c, hc⟩ := hN r.den h.2 r.den_nz
  have hd := r.den_nz
  have e := zb_divInt (n := r.num) (d := (r.den : Int)) (N := N) (M := M) (c := c) (by omega) (by exact_mod_cast hc) (Nat.le_trans (Nat.mul_le_mul h.1 (show c ≤ N by rw [hc]; exact Nat.le_mul_of_pos_left _ (by omega))) hl)
  rwa [Rat.num_divInt_den] at e
end Z

namespace Z
open PySem PySem.Spec PyProof.Rows L2
def RevQ (K : PySem.W.Frag) (Q : VK) : VK := fun x H1 => ∃ a xs, x = .ref a ∧ SqL K H1 a xs ∧ ∀ p, H1 p = none → Q (.ref p) (upd H1 p (.lst xs.reverse))
section
variable {K : PySem.W.Frag} {H : Hp} {Q : VK} {p q : Addr} {xs ys : List V} {y : V} {σ : L2.St}
theorem z_revL {te : TE} (h : te σ H (RevQ K Q)) : tRevL K te σ H Q := h
theorem z_revE (h : SqL K H p xs) (k : ∀ a H', H a = none → Same H H' → H' a = some (.lst xs.reverse) → Q (.ref a) H') : RevQ K Q (.ref p) H :=
  ⟨p, xs, rfl, h, fun l hl => k l _ hl (same_upd hl) upd_same⟩
theorem z_pop (hp : H p = some (.lst (xs ++ [y]))) (k : Q y (upd H p (.lst xs))) : rPop (.ref p) [] H Q :=
  ⟨p, xs ++ [y], y, rfl, rfl, hp, by simp, by simpa using k⟩
theorem z_cat (h1 : H p = some (.lst xs)) (h2 : H q = some (.lst ys)) (hl : xs.length + ys.length ≤ 1000) (k : ∀ a H', H a = none → Same H H' → H' a = some (.lst (xs ++ ys)) → Q (.ref a) H') : rCat (.ref p) (.ref q) H Q :=
  ⟨p, q, xs, ys, rfl, rfl, h1, h2, sz hl, fun a ha => k a _ ha (same_upd ha) upd_same⟩
theorem z_extend (h1 : H p = some (.lst xs)) (h2 : H q = some (.lst ys)) (hl : xs.length + ys.length ≤ 1000) (k : Q .non (upd H p (.lst (xs ++ ys)))) : rExtend (.ref p) [.ref q] H Q :=
  ⟨p, q, xs, ys, rfl, rfl, h1, h2, sz hl, k⟩
theorem z_bm0L {r : V → List V → Hp → VK → Prop} {to : TE} (ho : ∀ R : VK, R (.ref p) H → to σ H R) (hp : H p = some (.lst xs)) (h : r (.ref p) [] H Q) : tBM0 K "list" r to σ H Q :=
  ho _ ⟨.inl ⟨rfl, _, .inl (.inl hp)⟩, h⟩
end
end Z

/-! set comprehensions, whatever the members are: `r` says what set.add asks, `fr` what the empty set is -/
namespace Sc
open PySem PySem.Spec PyProof.Rows L2 PpSet
abbrev AddR := V → List V → Hp → VK → Prop
/-- one turn's end: the member is added, or left out -/
def Keep (r : AddR) (D : Addr) (te : TE) (Nx : Hp → Prop) (σ2 : L2.St) (b : Bool) (H3 : Hp) : Prop := if b = true then te σ2 H3 fun y H4 => r (.ref D) [y] H4 fun _ H5 => Nx H5 else Nx H3
def tSet (r : AddR) (fr : Addr → HO) (wi : TI) (g : TG) (tt : TT) (te : TE) (vs : List Nat) : TE := fun σ H Q => wi σ H fun J H1 => ∀ D, H1 D = none → ∃ W : Nat → Nat → Hp → Prop,
  (∃ m, W 0 m (upd H1 D (fr D))) ∧ ∀ i m H, W i m H → (J.stop i H ∧ Q (.ref D) H) ∨ (J.go i H ∧ ∃ Nx : Hp → Prop, (∀ H', Nx H' → ∃ m', m' < m ∧ W (i + 1) m' H') ∧
    ∀ x H', J.yld i H x H' → g x (wipe σ vs) H' fun σ2 H2 => wipe σ2 vs = wipe σ vs ∧ tt σ2 H2 (Keep r D te Nx σ2))
abbrev freshSet (w : World) : Obj := { cls := .type "set", dict := none, data := .set #[] 0 (.fresh 0 0 (!w.params.followText "set-order")) }
section
variable {X : Cx}
theorem run_set {pins : List (Addr × Obj)} {s : Shared} {σ : L2.St} {H : Hp} {Q : VK} {r : AddR} {fr : Addr → HO} {elt tg iter : Expr} {ifs : List Expr} {scope : Scope} {own : List (PySem.Str × Nat)} {pos pos' : Pos} {wi : TI} {g : TG} {tt : TT} {te : TE} {use : Option (Value → Sem Unit)} {Qf : Value → Shared → Prop}
    (hfr : ∀ (H : Hp) (h : Heap) (a : Addr), a = h.objs.size → ObjOk X.prog X.w H (h.push (freshSet X.w)) a (fr a))
    (hr : ∀ (s : Shared) (H : Hp) (e : Env) (fp : List Addr), MtR (X.blk s H scope e fp) "set.add" r)
    (hc : X.calm = true) (hN : X.N.Nodup) (I : Inv X pins σ H s) (hi : PI X tg iter wi) (ok : BlkOk X.N X.env.scope scope own)
    (hg : ∀ (s : Shared) (H : Hp) (C : Addr) (cl : List (PySem.Str × Addr)) (fp : List Addr), PG (X.blk s H scope (compEnvC scope cl C X.env) fp) tg g)
    (ht : ∀ (s : Shared) (H : Hp) (C : Addr) (cl : List (PySem.Str × Addr)) (fp : List Addr), PTs (X.blk s H scope (compEnvC scope cl C X.env) fp) ifs tt)
    (he : ∀ (s : Shared) (H : Hp) (C : Addr) (cl : List (PySem.Str × Addr)) (fp : List Addr), PE (X.blk s H scope (compEnvC scope cl C X.env) fp) elt te)
    (hs : ∀ x, foldedSetIterable iter X.env x = pure x) (h : tSet r fr wi g tt te (own.map (·.2)) σ H Q)
    (hend : ∀ D C s' m H', Inv X pins σ H' s' → Q (.ref D) H' → s'.heap.Ns C m → FpOk X pins H' C → compPost (model X.prog X.w) X.A X.xe use Qf (.ref D) C (.ok .next) s') :
    wpAny (model X.prog X.w) X.A (comprehension (.SetComp elt [⟨tg, iter, ifs, 0⟩] scope pos) scope X.env pos' (newSet (.type "set")) false (eval iter X.env) use) Qf X.xe s := by
  have free0 : ∀ y ∈ scope.names, y.2 = .free → ∃ c, X.env.cells.lookup y.1 = some c := fun y hy e => (ok.free y hy e).elim (fun k => I.ok.has _ (.inl k)) fun k => I.ok.has _ (.inr k)
  refine wpAny_comprehension_free (use := use) rfl hs (closure_ok free0) ok.kind (fun y hy e => by rw [ok.uniq y hy, e]) ?_
  refine thn (hi.run pins s σ H _ I h) fun xv s1 hx => thn hx fun itv s2 h2 => ?_
  obtain ⟨it, fp, tn, J, H2, e, I2, T, st2, f2, q⟩ := h2
  subst e
  refine newSet_ok (newEnv_comp ?_)
  have hDn : H2 s2.heap.objs.size = none := I2.hok.fresh (Nat.le_refl _)
  obtain ⟨W, ⟨m0, w0⟩, turn⟩ := q _ hDn
  generalize hs3 : ({ s2 with heap := s2.heap.push (freshSet X.w) } : Shared) = s3
  have h3 : s3.heap = s2.heap.push (freshSet X.w) := by rw [← hs3]
  have I3 : Inv X pins σ (upd H2 s2.heap.objs.size (fr s2.heap.objs.size)) s3 := by
    rw [← hs3]
    exact I2.laid (t' := s2.toks) (fun b o e => Heap.get?_push_of_some _ e) (Nat.le_refl _) (hfr _ _ _ rfl)
  generalize hD : s2.heap.objs.size = D at *
  have old : ∀ b ∈ fp, b < D := fun b hb => by
    obtain ⟨o, e, _⟩ := T.obj _ _ st2 b hb
    rw [← hD]
    exact Heap.lt_size e
  have f3 : ∀ b ∈ fp, FpOk X pins (upd H2 D (fr D)) b ∧ b < s3.heap.objs.size := fun b hb => by
    have l := old b hb
    refine ⟨⟨?_, (f2 b hb).2⟩, ?_⟩
    · rw [upd_ne (Nat.ne_of_lt l)]
      exact (f2 b hb).1
    · rw [h3, Heap.size_push, hD]
      exact Nat.lt_succ_of_lt l
  have st3 : tn 0 s3.heap := T.keep _ _ _ st2 fun b _ o e => by
    rw [h3]
    exact Heap.get?_push_of_some _ e
  have I4 := block_start I3 ok hN f3
  generalize hH3 : upd H2 D (fr D) = H3 at I3 I4 w0 f3
  have pg := hg s3 H3 s3.heap.objs.size (cellsFrom (s3.heap.objs.size + 1) scope.names (cloFrom X.env.cells scope.names [])) fp
  have pt := ht s3 H3 s3.heap.objs.size (cellsFrom (s3.heap.objs.size + 1) scope.names (cloFrom X.env.cells scope.names [])) fp
  have pe := he s3 H3 s3.heap.objs.size (cellsFrom (s3.heap.objs.size + 1) scope.names (cloFrom X.env.cells scope.names [])) fp
  show codeAny _ _ (.compStart (.SetComp elt [⟨tg, iter, ifs, 0⟩] scope pos) 0 (.ref it) (.ref D) (compEnvC scope (cellsFrom (s3.heap.objs.size + 1) scope.names (cloFrom X.env.cells scope.names [])) s3.heap.objs.size X.env)) (compPost (model X.prog X.w) X.A X.xe use Qf (.ref D) s3.heap.objs.size) { s3 with heap := pushCells (s3.heap.push { cls := .type "dict", data := .dict #[] }) scope.names }
  generalize hce : compEnvC scope (cellsFrom (s3.heap.objs.size + 1) scope.names (cloFrom X.env.cells scope.names [])) s3.heap.objs.size X.env = ce at I4 pg pt pe ⊢
  have cL : ce.locals = s3.heap.objs.size := by rw [← hce] <;> rfl
  have ad := hr s3 H3 ce fp
  have nfp : ∀ b ∈ fp, H3 b = none := fun b hb => (f3 b hb).1.1
  generalize hs4 : ({ s3 with heap := pushCells (s3.heap.push { cls := .type "dict", data := .dict #[] }) scope.names } : Shared) = s4 at I4 ⊢
  have st4 : tn 0 s4.heap := T.keep _ _ _ st3 fun b _ o e => by
    rw [← hs4]
    exact pushCells_keeps _ _ _ _ (Heap.get?_push_of_some _ e)
  have stat : ∀ {σ' : L2.St} {H' : Hp} {s' : Shared}, Inv (X.blk s3 H3 scope ce fp) [] σ' H' s' → (∀ b ∈ fp, H' b = none) → ∀ b ∈ fp, FpOk (X.blk s3 H3 scope ce fp) [] H' b := fun I' hn b hb =>
    ⟨hn b hb, (I'.ok.exf b hb).1, I'.ok.exfs b hb, .inl hb, fun x c e => (I'.ok.exf b hb).2 x c e, fun p hp => nomatch (show p ∈ ([] : List (Addr × Obj)) from hp)⟩
  have loop : codeAny (model X.prog X.w) X.A (.compLoop (.SetComp elt [⟨tg, iter, ifs, 0⟩] scope pos) 0 (.ref it) (.ref D) ce) (compPost (model X.prog X.w) X.A X.xe use Qf (.ref D) s3.heap.objs.size) s4 := by
    refine compLoopS_any (fun n s' => ∃ i H', Inv (X.blk s3 H3 scope ce fp) [] (wipe σ (own.map (·.2))) H' s' ∧ tn i s'.heap ∧ (∀ b ∈ fp, H' b = none) ∧ W i n H') ?_ m0 ⟨0, H3, I4, st4, nfp, w0⟩
    rintro n s5 ⟨i, H5, I5, st5, n5, w5⟩
    rcases turn i n H5 w5 with ⟨stop, qq⟩ | ⟨go, Nx, hNx, step⟩
    · refine thnF (T.done (X.blk s3 H3 scope ce fp) rfl rfl rfl hc i [] s5 _ H5 (fun _ _ => False) I5 (stat I5 n5) st5 stop) fun r6 s6 ⟨hr6, I6⟩ => ?_
      subst hr6
      have I7 : Inv X pins σ H5 s6 := I3.call' (ch := fp) I6.os I6.base I6.hok I6.bare fun b hb => by
        obtain ⟨⟨_, a2, _, a4, a5, a6⟩, _⟩ := f3 b hb
        exact ⟨a4, a2, a5, a6⟩
      obtain ⟨m, hn, _⟩ := I6.loc
      have nC : H5 ce.locals = none := I6.free
      have hn : s6.heap.Ns ce.locals m := hn
      rw [cL] at hn nC
      exact hend D _ s6 m H5 I7 qq hn (I3.fpOk (Nat.le_refl _) nC)
    · refine thnF (T.item (X.blk s3 H3 scope ce fp) rfl rfl rfl hc i [] s5 _ H5 (fun _ _ => False) I5 (stat I5 n5) st5 go) fun r6 s6 ⟨u, hr6, h6⟩ => ?_
      subst hr6
      refine thnF h6 fun _ s7 ⟨x, H7, I7, r7, y7, st7, n7⟩ => ?_
      refine thnF (pg.run _ s7 _ H7 x u _ (I7.pinned (stat I7 n7) (T.obj _ _ st7)) r7 (step x H7 y7)) fun _ s8 ⟨σ8, H8, I8, hw8, q8⟩ => ?_
      refine thnF (pt.run _ s8 σ8 H8 _ I8 q8) fun b s9 ⟨H9, I9, q9⟩ => ?_
      have fin : ∀ {s' : Shared} {H' : Hp}, Inv (X.blk s3 H3 scope ce fp) ([] ++ pinsAt fp s7.heap) σ8 H' s' → Nx H' → ∃ m, m < n ∧ ∃ i H', Inv (X.blk s3 H3 scope ce fp) [] (wipe σ (own.map (·.2))) H' s' ∧ tn i s'.heap ∧ (∀ b ∈ fp, H' b = none) ∧ W i m H' := fun {s' H'} I' nx => by
        obtain ⟨m', hm, w'⟩ := hNx H' nx
        have keep : ∀ b ∈ fp, ∀ o, s7.heap.get? b = some o → s'.heap.get? b = some o ∧ H' b = none := fun b hb o e => by
          have z := I'.pin (b, o) (List.mem_append_right _ (List.mem_append_right _ (mem_pinsAt hb e)))
          exact ⟨z.1, z.2.1⟩
        refine ⟨m', hm, i + 1, H', (I'.unpinned (pins := [])).weak (by rw [← hw8, wipe_length]) (fun j v e => ?_), T.keep _ _ _ st7 fun b hb o e => (keep b hb o e).1, fun b hb => ?_, w'⟩
        · rw [← hw8] at e
          exact (wipe_some e).1
        · obtain ⟨o, e, _⟩ := T.obj _ _ st7 b hb
          exact (keep b hb o e).2
      have q9 : Keep r D te Nx σ8 b H9 := q9
      unfold Keep at q9
      cases b with
      | false =>
        rw [if_neg (by decide)] at q9
        exact fin I9 q9
      | true =>
        rw [if_pos rfl] at q9
        refine thnF (pe.run _ s9 σ8 H9 _ I9 q9) fun z s10 ⟨yv, H10, I10, r10, q10⟩ => ?_
        refine thnF (ad _ s10 σ8 H10 (.ref D) [yv] (.ref D) [z] _ I10 rfl (.cons r10 .nil) q10) fun _ s11 ⟨_, H11, I11, _, q11⟩ => fin I11 q11
  exact codeAny_compStart_set loop (T.self X.A 0 _ _ _ st4 loop)
theorem pe_set {r : AddR} {fr : Addr → HO} {elt tg iter : Expr} {ifs : List Expr} {scope : Scope} {own : List (PySem.Str × Nat)} {pos : Pos} {wi : TI} {g : TG} {tt : TT} {te : TE}
    (hfr : ∀ (H : Hp) (h : Heap) (a : Addr), a = h.objs.size → ObjOk X.prog X.w H (h.push (freshSet X.w)) a (fr a)) (hr : ∀ (s : Shared) (H : Hp) (e : Env) (fp : List Addr), MtR (X.blk s H scope e fp) "set.add" r)
    (hc : X.calm = true) (hN : X.N.Nodup) (hi : PI X tg iter wi) (ok : BlkOk X.N X.env.scope scope own)
    (hg : ∀ (s : Shared) (H : Hp) (C : Addr) (cl : List (PySem.Str × Addr)) (fp : List Addr), PG (X.blk s H scope (compEnvC scope cl C X.env) fp) tg g)
    (ht : ∀ (s : Shared) (H : Hp) (C : Addr) (cl : List (PySem.Str × Addr)) (fp : List Addr), PTs (X.blk s H scope (compEnvC scope cl C X.env) fp) ifs tt)
    (he : ∀ (s : Shared) (H : Hp) (C : Addr) (cl : List (PySem.Str × Addr)) (fp : List Addr), PE (X.blk s H scope (compEnvC scope cl C X.env) fp) elt te)
    (hs : ∀ x, foldedSetIterable iter X.env x = pure x := by intro _; rfl) : PE X (.SetComp elt [⟨tg, iter, ifs, 0⟩] scope pos) (tSet r fr wi g tt te (own.map (·.2))) := by
  constructor
  intro pins s σ H Q I h
  rw [eval_SetComp]
  refine run_set hfr hr hc hN I hi ok hg ht he hs h fun D C s' m H' I' q hn ⟨f0, f1, f2, f3, f4, f5⟩ => ⟨m, hn, fun h'' sb => ?_⟩
  exact ⟨.ref D, H', I'.turned (t' := s'.toks) (fun b o hb e => (sb.2 b hb).trans e) f0 f1 f3 f4 f5, rfl, q⟩
/-- sets of whole numbers -/
def frI (w : World) : Addr → HO := fun a => SetO w a (fun _ => false) 0
theorem pe_setI {elt tg iter : Expr} {ifs : List Expr} {scope : Scope} {own : List (PySem.Str × Nat)} {pos : Pos} {wi : TI} {g : TG} {tt : TT} {te : TE}
    (hc : X.calm = true) (hN : X.N.Nodup) (hi : PI X tg iter wi) (ok : BlkOk X.N X.env.scope scope own)
    (hg : ∀ (s : Shared) (H : Hp) (C : Addr) (cl : List (PySem.Str × Addr)) (fp : List Addr), PG (X.blk s H scope (compEnvC scope cl C X.env) fp) tg g)
    (ht : ∀ (s : Shared) (H : Hp) (C : Addr) (cl : List (PySem.Str × Addr)) (fp : List Addr), PTs (X.blk s H scope (compEnvC scope cl C X.env) fp) ifs tt)
    (he : ∀ (s : Shared) (H : Hp) (C : Addr) (cl : List (PySem.Str × Addr)) (fp : List Addr), PE (X.blk s H scope (compEnvC scope cl C X.env) fp) elt te)
    (hs : ∀ x, foldedSetIterable iter X.env x = pure x := by intro _; rfl) : PE X (.SetComp elt [⟨tg, iter, ifs, 0⟩] scope pos) (tSet (rSAdd X.w) (frI X.w) wi g tt te (own.map (·.2))) :=
  pe_set (fun H h a e => by subst e; exact setO_new (setR_fresh X.w)) (fun s H e fp => mt_sadd) hc hN hi ok hg ht he hs
end
/-! ### readings: the set of the numbers of a list that a test lets in -/
open Z
def tSetE (r : AddR) (fr : Addr → HO) (K : PySem.W.Frag) (g : TG) (tt : TT) (te : TE) (vs : List Nat) (σ : L2.St) (Q : VK) : VK := fun x H1 => tSet r fr (iList K (tC x)) g tt te vs σ H1 Q
section
variable {K : PySem.W.Frag} {H : Hp} {Q : VK} {σ : L2.St} {r : AddR} {fr : Addr → HO} {w : World}
theorem z_setE {tl : TE} {g : TG} {tt : TT} {te : TE} {vs : List Nat} (h : tl σ H (tSetE r fr K g tt te vs σ Q)) : tSet r fr (iList K tl) g tt te vs σ H Q := h
/-- the ints of ns that p lets in -/
def inI (p : Int → Bool) (ns : List Int) (S : Int → Bool) : Prop := ∀ k, S k = true ↔ k ∈ ns ∧ p k = true
theorem z_setI {k : Nat} {tt : TT} {vs : List Nat} {a : Addr} {ns : List Int} {te : TE} (p : Int → Bool) (hl : ns.length ≤ 1000) (hx : H a = some (.lst (ns.map V.int)))
    (hw : ∀ x, wipe ((wipe σ vs).set k (some x)) vs = wipe σ vs)
    (ht : ∀ (x : Int) (H' : Hp) (R : Bool → Hp → Prop), x ∈ ns → R (p x) H' → tt ((wipe σ vs).set k (some (.int x))) H' R)
    (he : ∀ (x : Int) (H' : Hp) (R : VK), x ∈ ns → R (.int x) H' → te ((wipe σ vs).set k (some (.int x))) H' R)
    (q : ∀ D H' S n, H D = none → Same H H' → H' D = some (SetO w D S n) → inI p ns S → n ≤ ns.length → Q (.ref D) H') :
    tSetE (rSAdd w) (frI w) K (gName k) tt te vs σ Q (.ref a) H := by
  refine ⟨a, rfl, ⟨_, .inl (.inl hx)⟩, fun D hD => ?_⟩
  have hDa : a ≠ D := ne_of_none hx hD
  let Pv : Nat → Hp → Prop := fun i H' => Same H H' ∧ ∃ S n, H' D = some (SetO w D S n) ∧ inI p (ns.take i) S ∧ n ≤ i
  refine ⟨fun i m H' => m = ns.length - i ∧ i ≤ ns.length ∧ Pv i H', ⟨ns.length, by simp, Nat.zero_le _, same_upd hD, _, 0, upd_same, fun k => by simp, Nat.le_refl _⟩, ?_⟩
  rintro i m H' ⟨rfl, hi, sm, S, n, hS, hin, hn⟩
  have ha := sm _ _ hx
  by_cases hlt : i < ns.length
  · refine .inr ⟨⟨_, .int ns[i], .inl (.inl ha), by simp [hlt]⟩, Pv (i + 1), fun H2 p2 => ⟨ns.length - (i + 1), by omega, rfl, hlt, p2⟩, fun x H2 y => ?_⟩
    obtain ⟨e, y⟩ := y
    subst e
    have e := y _ (.inl (.inl ha))
    have ex : x = .int ns[i] := by
      have e2 : (ns.map V.int)[i]? = some (.int ns[i]) := by simp [hlt]
      rw [e2] at e
      exact (Option.some.inj e).symm
    subst ex
    refine ⟨hw _, ht _ _ _ (List.getElem_mem hlt) ?_⟩
    have tk : ns.take (i + 1) = ns.take i ++ [ns[i]] := by rw [List.take_add_one, List.getElem?_eq_getElem hlt] <;> rfl
    unfold Keep
    by_cases c : p ns[i] = true
    · rw [if_pos c]
      refine he _ _ _ (List.getElem_mem hlt) ?_
      refine ⟨D, ns[i], S, n, rfl, rfl, hS, Nat.lt_of_le_of_lt (show n + 1 ≤ 1001 by omega) (by decide), ?_, _, _, upd_same, ?_, ?_⟩
      · exact fun b o e => by
          rw [upd_ne (ne_of_none e hD)]
          exact sm _ _ e
      · intro k
        rw [tk, List.mem_append, List.mem_singleton, Bool.or_eq_true, hin k, decide_eq_true_eq]
        constructor
        · rintro (⟨z1, z2⟩ | rfl)
          · exact ⟨.inl z1, z2⟩
          · exact ⟨.inr rfl, c⟩
        · rintro ⟨z1 | rfl, z2⟩
          · exact .inl ⟨z1, z2⟩
          · exact .inr rfl
      · split <;> omega
    · rw [if_neg c]
      refine ⟨sm, S, n, hS, fun k => ?_, by omega⟩
      rw [tk, List.mem_append, List.mem_singleton, hin k]
      constructor
      · rintro ⟨z1, z2⟩
        exact ⟨.inl z1, z2⟩
      · rintro ⟨z1 | rfl, z2⟩
        · exact ⟨z1, z2⟩
        · exact absurd z2 c
  · have e : i = ns.length := by omega
    subst e
    refine .inl ⟨⟨_, .inl (.inl ha), by simp⟩, q D H' S n hD sm hS (by rwa [List.take_length] at hin) hn⟩
/-- sorted(set of ints) -/
theorem z_sortedSet {a : Addr} {S : Int → Bool} {n : Nat} (h : H a = some (SetO w a S n)) (hn : n < 64) (q : ∀ (ns : List Int) (p : Addr) (H' : Hp), ns.Pairwise (· < ·) → (∀ k, k ∈ ns ↔ S k = true) → ns.length = n → H p = none → Same H H' → H' p = some (.lst (ns.map V.int)) → Q (.ref p) H') :
    rSortedSet w [.ref a] H Q := ⟨a, S, n, rfl, h, hn, fun ns p h1 h2 h3 hp => q ns p _ h1 h2 h3 hp (same_upd hp) upd_same⟩
end
end Sc

namespace Z
open PySem PySem.Spec PyProof.Rows L2
def rMax2 : List V → Hp → VK → Prop := fun xs H Q => ∃ i j, xs = [.int i, .int j] ∧ Q (.int (if j > i then j else i)) H
def rMin2 : List V → Hp → VK → Prop := fun xs H Q => ∃ i j, xs = [.int i, .int j] ∧ Q (.int (if j < i then j else i)) H
theorem c_max2 {X : Cx} (hc : X.calm = true) : CallR X (.builtin "max") rMax2 := call_max2 hc
theorem c_min2 {X : Cx} (hc : X.calm = true) : CallR X (.builtin "min") rMin2 := call_min2 hc
def rDivmod : List V → Hp → VK → Prop := fun xs H Q => ∃ i j, xs = [.int i, .int j] ∧ CDiv i j ∧ ∀ p, H p = none → Q (.ref p) (upd H p (.tup [.int (i / j), .int (i % j)]))
theorem c_divmod {X : Cx} : CallR X (.builtin "divmod") rDivmod := call_divmod
def TruQ (K : PySem.W.Frag) (QB : Bool → Hp → Prop) : VK := fun x H' => ∃ k, TruV K x H' k ∧ QB k H'
def tTru (K : PySem.W.Frag) (te : TE) : TT := fun σ H QB => te σ H (TruQ K QB)
theorem pt_tru {X : Cx} {a : Expr} {ta : TE} (ha : PE X a ta) (he : ∀ whole, isTrue a X.env whole = (do let v ← whole; standAt a.pos; holding [v] (truthy v))) : PT X a (tTru X.K ta) := pt_truth ha he
section
variable {K : PySem.W.Frag} {σ : L2.St} {H : Hp} {Q : VK} {QB : Bool → Hp → Prop} {i j : Int} {v x y : V} {p q l : Addr} {xs ys : List V} {te : TE}
theorem z_max2 (h : Q (.int (if j > i then j else i)) H) : rMax2 [.int i, .int j] H Q := ⟨i, j, rfl, h⟩
theorem z_min2 (h : Q (.int (if j < i then j else i)) H) : rMin2 [.int i, .int j] H Q := ⟨i, j, rfl, h⟩
theorem z_divmod (c : 0 < j ∧ j < 1073741824) (h : ∀ p H', H p = none → Same H H' → H' p = some (.tup [.int (i / j), .int (i % j)]) → Q (.ref p) H') : rDivmod [.int i, .int j] H Q :=
  ⟨i, j, rfl, c, fun a ha => h a _ ha (same_upd ha) upd_same⟩
theorem z_tru (h : te σ H (TruQ K QB)) : tTru K te σ H QB := h
/-- a test whose answer is known -/
theorem z_known {tt : TT} (k : Bool) (h : ∀ R : Bool → Hp → Prop, R k H → tt σ H R) (q : QB k H) : tt σ H QB := h QB q
/-- a test that is known to fail -/
theorem z_skip {n : L2.St → Hp → Prop} {r : VK} {b c : L2.St → Hp → Prop} {tt : TT} {t : TS} (h : ∀ R : Bool → Hp → Prop, R false H → tt σ H R) (q : n σ H) : tIfS tt t tNext ⟨n, r, b, c⟩ σ H := by
  refine h _ ?_
  rw [if_neg (by decide)]
  exact q
theorem z_truL (h : H p = some (.lst xs)) (q : QB (!xs.isEmpty) H) : TruQ K QB (.ref p) H := ⟨_, .inl ⟨xs, .inl (.inl h), rfl⟩, q⟩
theorem z_truT (h : SqT K H p xs) (q : QB (!xs.isEmpty) H) : TruQ K QB (.ref p) H := ⟨_, .inr (.inl ⟨xs, h, rfl⟩), q⟩
theorem z_truI (q : QB (i != 0) H) : TruQ K QB (.int i) H := ⟨_, rfl, q⟩
theorem rep_one (v : V) : ∀ m : Nat, (List.replicate m [v]).flatten = List.replicate m v
  | 0 => rfl
  | m + 1 => by
    rw [List.replicate_succ, List.flatten_cons, rep_one v m, List.replicate_succ]
    rfl
theorem z_rep (m : Nat) (h : H l = some (.lst [v])) (hj : j = (m : Int)) (hm : m ≤ 1000) (q : ∀ a H', H a = none → Same H H' → H' a = some (.lst (List.replicate m v)) → Q (.ref a) H') : rRep (.ref l) (.int j) H Q := by
  subst hj
  refine ⟨l, (m : Int), [v], rfl, rfl, h, by omega, by omega, Nat.le_trans (show [v].length * (m : Int).toNat ≤ 1000 by simpa using hm) (by decide), fun a ha => ?_⟩
  rw [Int.toNat_natCast, rep_one v m]
  exact q a _ ha (same_upd ha) upd_same
/-! while -/
/-- the number in slot k, as a measure -/
def muI (k : Nat) : L2.St → Hp → Nat := fun σ _ => match (σ[k]? : Option (Option V)) with
  | some (some (V.int m)) => m.toNat
  | _ => 0
def WB (Pv : L2.St → Hp → Prop) (μ : L2.St → Hp → Nat) (m : Nat) (tb : TS) (n : L2.St → Hp → Prop) (r : VK) (σ : L2.St) : Bool → Hp → Prop := fun b H1 =>
  if b = true then ∃ N : L2.St → Hp → Prop, (∀ σ' H', N σ' H' → ∃ m', m' < m ∧ m' = μ σ' H' ∧ Pv σ' H') ∧ tb ⟨N, r, n, N⟩ σ H1 else n σ H1
section
variable {Pv : L2.St → Hp → Prop} {μ : L2.St → Hp → Nat} {m : Nat} {tb : TS} {n : L2.St → Hp → Prop} {r : VK} {b c : L2.St → Hp → Prop}
theorem z_wbT (h : tb ⟨fun σ' H' => Pv σ' H' ∧ μ σ' H' < m, r, n, fun σ' H' => Pv σ' H' ∧ μ σ' H' < m⟩ σ H) : WB Pv μ m tb n r σ true H := by
  unfold WB
  rw [if_pos rfl]
  exact ⟨_, fun σ' H' z => ⟨_, z.2, rfl, z.1⟩, h⟩
theorem z_wbF (h : n σ H) : WB Pv μ m tb n r σ false H := by
  unfold WB
  rw [if_neg (by decide)]
  exact h
theorem z_wb {p : Prop} [Decidable p] (h1 : p → tb ⟨fun σ' H' => Pv σ' H' ∧ μ σ' H' < m, r, n, fun σ' H' => Pv σ' H' ∧ μ σ' H' < m⟩ σ H) (h2 : ¬ p → n σ H) : WB Pv μ m tb n r σ (decide p) H := by
  by_cases h : p
  · rw [decide_eq_true h]
    exact z_wbT (h1 h)
  · rw [decide_eq_false h]
    exact z_wbF (h2 h)
theorem z_while {tt : TT} (Pv : L2.St → Hp → Prop) (μ : L2.St → Hp → Nat) (h0 : Pv σ H) (hs : ∀ σ H, Pv σ H → tt σ H (WB Pv μ (μ σ H) tb n r σ)) : tWhile tt tb ⟨n, r, b, c⟩ σ H := by
  refine ⟨fun m σ H => m = μ σ H ∧ Pv σ H, ⟨_, rfl, h0⟩, ?_⟩
  rintro m σ H ⟨rfl, p⟩
  exact hs σ H p
end
/-! comprehensions over a range, over a list: the list at D grows -/
def LcB (D : Addr) (i : Nat) (Pv : Nat → Addr → List V → Hp → Prop) (Nx : Hp → Prop) : VK := fun y H4 => ∃ acc, H4 D = some (.lst acc) ∧ acc.length < sizeLine ∧ Nx (upd H4 D (.lst (acc ++ [y])))
theorem z_lcB {D : Addr} {i : Nat} {Pv : Nat → Addr → List V → Hp → Prop} {acc : List V} (h : H D = some (.lst acc)) (hl : acc.length = i) (hi : i < 1000) (q : ∀ H', H' D = some (.lst (acc ++ [y])) → Kp D H H' → (∀ b, b ≠ D → H' b = H b) → Pv (i + 1) D (acc ++ [y]) H') :
    LcB D i Pv (fun H' => ∃ acc', acc'.length = i + 1 ∧ H' D = some (.lst acc') ∧ Pv (i + 1) D acc' H') y H :=
  ⟨acc, h, Nat.lt_of_lt_of_le (show acc.length < 1000 by omega) (by decide), acc ++ [y], by simp [hl], upd_same, q _ upd_same (fun b o hb e => by rw [upd_ne hb]; exact e) fun b hb => upd_ne hb⟩
abbrev LcN (D : Addr) (i : Nat) (Pv : Nat → Addr → List V → Hp → Prop) : VK := LcB D i Pv (fun H' => ∃ acc', acc'.length = i + 1 ∧ H' D = some (.lst acc') ∧ Pv (i + 1) D acc' H')
theorem z_lcR {ta : TA} {k : Nat} {te : TE} {vs : List Nat} (m : Nat) (hm : m ≤ 1000) (ha : ∀ R : List V → Hp → Prop, R [.int (m : Int)] H → ta σ H R) (hw : ∀ x, wipe ((wipe σ vs).set k (some x)) vs = wipe σ vs) (Pv : Nat → Addr → List V → Hp → Prop)
    (h0 : ∀ D H', H D = none → Same H H' → H' D = some (.lst []) → Pv 0 D [] H')
    (hs : ∀ i D acc H', i < m → acc.length = i → H' D = some (.lst acc) → Pv i D acc H' → te ((wipe σ vs).set k (some (.int (i : Int)))) H' (LcN D i Pv))
    (hd : ∀ D acc H', H D = none → acc.length = m → H' D = some (.lst acc) → Pv m D acc H' → Q (.ref D) H') : tLc (iRng1 ta) (gName k) tYes te vs σ H Q := by
  refine ha _ ⟨(m : Int), rfl, by omega, by omega, fun D hD => ?_⟩
  refine lc_range (lo := 0) (n := (m : Int).toNat) (fun i H' => ∃ acc, acc.length = i ∧ H' D = some (.lst acc) ∧ Pv i D acc H') ⟨[], rfl, upd_same, h0 D _ hD (same_upd hD) upd_same⟩ (fun i H' hi ⟨acc, hl, hH, pv⟩ => ?_) (fun H' ⟨acc, hl, hH, pv⟩ => hd D acc H' hD (by simpa using hl) hH (by simpa using pv))
  have e : (0 : Int) + (i : Int) = (i : Int) := Int.zero_add _
  show wipe ((wipe σ vs).set k (some (.int ((0 : Int) + (i : Int))))) vs = wipe σ vs ∧ _
  refine ⟨hw _, z_yes (z_ifT ?_)⟩
  rw [e]
  exact hs i D acc H' (by simpa using hi) hl hH pv
def LcE (K : PySem.W.Frag) (g : TG) (tt : TT) (te : TE) (vs : List Nat) (σ : L2.St) (Q : VK) : VK := fun x H1 => tLc (iList K (tC x)) g tt te vs σ H1 Q
theorem z_lcE {tl : TE} {g : TG} {tt : TT} {vs : List Nat} (h : tl σ H (LcE K g tt te vs σ Q)) : tLc (iList K tl) g tt te vs σ H Q := h
def LcRE (g : TG) (tt : TT) (te : TE) (vs : List Nat) (σ : L2.St) (Q : VK) : List V → Hp → Prop := fun xs H1 => tLc (iRng1 fun _ H R => R xs H) g tt te vs σ H1 Q
theorem z_lcRE {ta : TA} {g : TG} {tt : TT} {vs : List Nat} (h : ta σ H (LcRE g tt te vs σ Q)) : tLc (iRng1 ta) g tt te vs σ H Q := h
theorem z_lcRr {k : Nat} {vs : List Nat} (m : Nat) (hm : m ≤ 1000) (hw : ∀ x, wipe ((wipe σ vs).set k (some x)) vs = wipe σ vs) (Pv : Nat → Addr → List V → Hp → Prop)
    (h0 : ∀ D H', H D = none → Same H H' → H' D = some (.lst []) → Pv 0 D [] H')
    (hs : ∀ i D acc H', i < m → acc.length = i → H' D = some (.lst acc) → Pv i D acc H' → te ((wipe σ vs).set k (some (.int (i : Int)))) H' (LcN D i Pv))
    (hd : ∀ D acc H', H D = none → acc.length = m → H' D = some (.lst acc) → Pv m D acc H' → Q (.ref D) H') : LcRE (gName k) tYes te vs σ Q [.int (m : Int)] H := z_lcR m hm (fun R q => q) hw Pv h0 hs hd
/-- over a list that stands as long as Pv -/
theorem z_lcLs {k : Nat} {vs : List Nat} {a : Addr} (hm : xs.length ≤ 1000) (hx : SqL K H a xs) (hw : ∀ x, wipe ((wipe σ vs).set k (some x)) vs = wipe σ vs) (Pv : Nat → Addr → List V → Hp → Prop)
    (h0 : ∀ D H', H D = none → Same H H' → H' D = some (.lst []) → Pv 0 D [] H') (hl : ∀ i D acc H', Pv i D acc H' → SqL K H' a xs)
    (hs : ∀ i x D acc H', xs[i]? = some x → acc.length = i → H' D = some (.lst acc) → Pv i D acc H' → te ((wipe σ vs).set k (some x)) H' (LcN D i Pv))
    (hd : ∀ D acc H', H D = none → acc.length = xs.length → H' D = some (.lst acc) → Pv xs.length D acc H' → Q (.ref D) H') : LcE K (gName k) tYes te vs σ Q (.ref a) H := by
  refine ⟨a, rfl, ⟨xs, hx⟩, fun D hD => ?_⟩
  refine lc_list (xs := xs) (fun i H' => ∃ acc, acc.length = i ∧ H' D = some (.lst acc) ∧ Pv i D acc H') ⟨[], rfl, upd_same, h0 D _ hD (same_upd hD) upd_same⟩ (fun i H' _ ⟨acc, _, _, pv⟩ => hl _ _ _ _ pv) (fun i x H' hi ⟨acc, hl, hH, pv⟩ => ?_) (fun H' ⟨acc, hl, hH, pv⟩ => hd D acc H' hD hl hH pv)
  show wipe ((wipe σ vs).set k (some x)) vs = wipe σ vs ∧ _
  exact ⟨hw _, z_yes (z_ifT (hs i x D acc H' hi hl hH pv))⟩
/-- any target -/
theorem z_lcG {g : TG} {vs : List Nat} {a : Addr} (hm : xs.length ≤ 1000) (hx : SqL K H a xs) (Pv : Nat → Addr → List V → Hp → Prop)
    (h0 : ∀ D H', H D = none → Same H H' → H' D = some (.lst []) → Pv 0 D [] H') (hl : ∀ i D acc H', Pv i D acc H' → SqL K H' a xs)
    (hs : ∀ i x D acc H', xs[i]? = some x → acc.length = i → H' D = some (.lst acc) → Pv i D acc H' → g x (wipe σ vs) H' fun σ2 H2 => wipe σ2 vs = wipe σ vs ∧ te σ2 H2 (LcN D i Pv))
    (hd : ∀ D acc H', H D = none → acc.length = xs.length → H' D = some (.lst acc) → Pv xs.length D acc H' → Q (.ref D) H') : LcE K g tYes te vs σ Q (.ref a) H := by
  refine ⟨a, rfl, ⟨xs, hx⟩, fun D hD => ?_⟩
  refine lc_list (xs := xs) (fun i H' => ∃ acc, acc.length = i ∧ H' D = some (.lst acc) ∧ Pv i D acc H') ⟨[], rfl, upd_same, h0 D _ hD (same_upd hD) upd_same⟩ (fun i H' _ ⟨acc, _, _, pv⟩ => hl _ _ _ _ pv) (fun i x H' hi ⟨acc, hl, hH, pv⟩ => ?_) (fun H' ⟨acc, hl, hH, pv⟩ => hd D acc H' hD hl hH pv)
  have h := hs i x D acc H' hi hl hH pv
  have e : (fun σ2 H2 => wipe σ2 vs = wipe σ vs ∧ te σ2 H2 (LcN D i Pv)) = (fun (σ2 : L2.St) (H2 : Hp) => wipe σ2 vs = wipe σ vs ∧ tYes σ2 H2 fun b H3 => if b = true then te σ2 H3 (LcN D i Pv) else ∃ acc', acc'.length = i + 1 ∧ H3 D = some (.lst acc') ∧ Pv (i + 1) D acc' H3) := by
    funext σ2 H2
    show _ = (wipe σ2 vs = wipe σ vs ∧ if true = true then te σ2 H2 (LcN D i Pv) else ∃ acc', acc'.length = i + 1 ∧ H2 D = some (.lst acc') ∧ Pv (i + 1) D acc' H2)
    rw [if_pos rfl]
  rw [e] at h
  exact h
/-- where the item answers at once -/
theorem z_lcS {k : Nat} {vs : List Nat} {a : Addr} (ws : List V) (hlen : ws.length = xs.length) (hm : xs.length ≤ 1000) (hx : H a = some (.lst xs)) (hw : ∀ x, wipe ((wipe σ vs).set k (some x)) vs = wipe σ vs)
    (body : ∀ (i : Nat) (x w : V) (H' : Hp), xs[i]? = some x → ws[i]? = some w → Same H H' → ∀ R : VK, R w H' → te ((wipe σ vs).set k (some x)) H' R)
    (hd : ∀ D H', H D = none → Same H H' → H' D = some (.lst ws) → Q (.ref D) H') : LcE K (gName k) tYes te vs σ Q (.ref a) H :=
  z_lcM (tl := tC (.ref a)) hlen hm (fun R q => q) hx hw body hd
end
/-! ### data: numbers, lists of numbers -/
def Fl (n : Nat) (d : PyData) : Prop := PyData.canLay0 d = true ∧ PyData.depth d ≤ n
theorem fl_all {n : Nat} : ∀ {ds : List PyData}, (∀ d ∈ ds, Fl n d) → PyData.canLayAll0 ds = true ∧ PyData.depthAll ds ≤ n
  | [], _ => ⟨rfl, Nat.zero_le _⟩
  | d :: ds, h => by
    have h1 := h d (.head _)
    have h2 := fl_all (ds := ds) fun x hx => h x (.tail _ hx)
    refine ⟨?_, ?_⟩
    · show (PyData.canLay0 d && PyData.canLayAll0 ds) = true
      rw [h1.1, h2.1]
      rfl
    · show max (PyData.depth d) (PyData.depthAll ds) ≤ n
      have := h1.2
      have := h2.2
      omega
theorem fl_list {n : Nat} {ds : List PyData} (h : ∀ d ∈ ds, Fl n d) : Fl (n + 1) (.list ds) := ⟨(fl_all h).1, Nat.succ_le_succ (fl_all h).2⟩
theorem fl_tup {n : Nat} {ds : List PyData} (h : ∀ d ∈ ds, Fl n d) : Fl (n + 1) (.tuple ds) := ⟨(fl_all h).1, Nat.succ_le_succ (fl_all h).2⟩
theorem fl_int (i : Int) : Fl 0 (.int i) := ⟨rfl, Nat.le_refl 0⟩
theorem shaped_fl {n : Nat} {d : PyData} (h : Fl n d) (hn : n ≤ 64 := by decide) : SeqAt.shaped d = true := by
  unfold SeqAt.shaped
  rw [Bool.and_eq_true]
  exact ⟨h.1, decide_eq_true (Nat.le_trans h.2 hn)⟩
theorem fl_ints (ns : List Int) : Fl 1 (.list (ns.map .int)) := fl_list fun d hd => by
  obtain ⟨i, _, rfl⟩ := List.mem_map.mp hd
  exact fl_int i
section
variable {K : PySem.W.Frag} {H : Hp} {Q : VK} {p q : Addr}
theorem dpa_ints : ∀ (ns : List Int), DpAll K H (ns.map V.int) (ns.map PyData.int)
  | [] => .nil
  | n :: ns => .cons (.int n) (dpa_ints ns)
theorem dp_ints {ns : List Int} (h : H p = some (.lst (ns.map V.int))) : Dp K H (.ref p) (.list (ns.map .int)) := .lst (.inl (.inl h)) (dpa_ints ns)
theorem eqv_intsA : ∀ (ns ms : List Int), PyData.eqv (.list (ns.map .int)) (.list (ms.map .int)) = decide (ns = ms)
  | [], [] => rfl
  | [], m :: ms => rfl
  | n :: ns, [] => rfl
  | n :: ns, m :: ms => by
    have ih := eqv_intsA ns ms
    show ((n == m) && PyData.eqv (.list (ns.map .int)) (.list (ms.map .int))) = _
    rw [ih]
    by_cases h : n = m
    · subst h
      by_cases h2 : ns = ms
      · simp [h2]
      · simp [h2]
    · simp [h]
theorem z_eqInts {ns ms : List Int} (h1 : H p = some (.lst (ns.map V.int))) (h2 : H q = some (.lst (ms.map V.int))) (k : Q (.bl (decide (ns = ms))) H) : rEqD K (.ref p) (.ref q) H Q :=
  ⟨_, _, dp_ints h1, dp_ints h2, shaped_fl (fl_ints ns), shaped_fl (fl_ints ms), by rw [eqv_intsA]; exact k⟩
theorem z_neInts {ns ms : List Int} (h1 : H p = some (.lst (ns.map V.int))) (h2 : H q = some (.lst (ms.map V.int))) (k : Q (.bl (decide (¬ ns = ms))) H) : rNeD K (.ref p) (.ref q) H Q :=
  ⟨_, _, dp_ints h1, dp_ints h2, shaped_fl (fl_ints ns), shaped_fl (fl_ints ms), by
    rw [eqv_intsA, show (!decide (ns = ms)) = decide (¬ ns = ms) by simp]
    exact k⟩
theorem inV_int (i : Int) : ∀ (ns : List Int), inV (.int i) (ns.map V.int) = decide (i ∈ ns)
  | [] => rfl
  | n :: ns => by
    have ih := inV_int i ns
    show (eqV (.int n) (.int i) || inV (.int i) (ns.map V.int)) = _
    rw [ih, show eqV (.int n) (.int i) = decide (n = i) by first | rfl | simp [eqV]]
    by_cases h : n = i
    · subst h
      simp
    · have h' : ¬ i = n := fun z => h z.symm
      simp [h, h']
theorem flat_ints (ns : List Int) : (ns.map V.int).all flatV = true := by
  rw [List.all_eq_true]
  intro v hv
  obtain ⟨i, _, rfl⟩ := List.mem_map.mp hv
  rfl
theorem z_inI {i : Int} {ns : List Int} (h : H p = some (.lst (ns.map V.int))) (k : Q (.bl (decide (i ∈ ns))) H) : rIn K false (.int i) (.ref p) H Q :=
  ⟨p, _, rfl, .inl (.inl (.inl h)), rfl, flat_ints ns, by rw [inV_int]; exact k⟩
theorem z_notInI {i : Int} {ns : List Int} (h : H p = some (.lst (ns.map V.int))) (k : Q (.bl (decide (¬ i ∈ ns))) H) : rIn K true (.int i) (.ref p) H Q :=
  ⟨p, _, rfl, .inl (.inl (.inl h)), rfl, flat_ints ns, by
    rw [inV_int, show (if true = true then !decide (i ∈ ns) else decide (i ∈ ns)) = decide (¬ i ∈ ns) by simp]
    exact k⟩
theorem z_sortedI {ns : List Int} (h : H p = some (.lst (ns.map V.int))) (k : ∀ (ms : List Int) (a : Addr) (H' : Hp), ms.Perm ns → ms.Pairwise (· ≤ ·) → H a = none → Same H H' → H' a = some (.lst (ms.map V.int)) → Q (.ref a) H') : rSortedI K [.ref p] H Q :=
  ⟨p, ns, rfl, .inl (.inl h), fun ms a h1 h2 ha => k ms a _ h1 h2 ha (same_upd ha) upd_same⟩
/-- truth values -/
theorem inV_bl (i : Bool) : ∀ (ns : List Bool), inV (.bl i) (ns.map V.bl) = decide (i ∈ ns)
  | [] => rfl
  | n :: ns => by
    have ih := inV_bl i ns
    show (eqV (.bl n) (.bl i) || inV (.bl i) (ns.map V.bl)) = _
    rw [ih]
    cases n <;> cases i <;> simp [eqV]
theorem flat_bls (ns : List Bool) : (ns.map V.bl).all flatV = true := by
  rw [List.all_eq_true]
  intro v hv
  obtain ⟨i, _, rfl⟩ := List.mem_map.mp hv
  rfl
theorem z_inB {i : Bool} {ns : List Bool} (h : H p = some (.lst (ns.map V.bl))) (k : Q (.bl (decide (i ∈ ns))) H) : rIn K false (.bl i) (.ref p) H Q :=
  ⟨p, _, rfl, .inl (.inl (.inl h)), rfl, flat_bls ns, by rw [inV_bl]; exact k⟩
theorem z_notInB {i : Bool} {ns : List Bool} (h : H p = some (.lst (ns.map V.bl))) (k : Q (.bl (decide (¬ i ∈ ns))) H) : rIn K true (.bl i) (.ref p) H Q :=
  ⟨p, _, rfl, .inl (.inl (.inl h)), rfl, flat_bls ns, by
    rw [inV_bl, show (if true = true then !decide (i ∈ ns) else decide (i ∈ ns)) = decide (¬ i ∈ ns) by simp]
    exact k⟩
theorem z_notNI {i : Int} (q : Q (.bl true) H) : rNotN (.int i) .non H Q := ⟨rfl, by simpa using q⟩
theorem z_isNI {i : Int} (q : Q (.bl false) H) : rIsN (.int i) .non H Q := ⟨rfl, by simpa using q⟩
theorem fresh_of {H H' : Hp} {a : Addr} (s : Same H H') (h : H' a = none) : H a = none := by
  cases z : H a with
  | none => rfl
  | some o =>
    have := s _ _ z
    rw [h] at this
    cases this
/-- sorted(ints) -/
theorem z_sorted {ns : List Int} (h : H p = some (.lst (ns.map V.int))) (hl : ns.length < 64) (k : ∀ (ms : List Int) (a : Addr) (H' : Hp), ms.Perm ns → ms.Pairwise (· ≤ ·) → H a = none → Same H H' → H' a = some (.lst (ms.map V.int)) → Q (.ref a) H') : rSorted K [.ref p] H Q :=
  ⟨p, ns, rfl, .inl (.inl h), hl, fun ms a h1 h2 ha => k ms a _ h1 h2 ha (same_upd ha) upd_same⟩
end
end Z

namespace Z
open PySem PySem.Spec PyProof PyProof.Rows L2
theorem get_list {X : Cx} : PGet X (rIxL X.K) := by
  intro pins s σ H o i ov iv Q I ro ri h
  obtain ⟨p, xs, k, z, rfl, rfl, hq, he, q⟩ := h
  cases ro
  obtain ⟨t, rfl⟩ := ri
  obtain ⟨its, r, pl, hz⟩ := I.list hq
  obtain ⟨j, h1, h2, h3, h4, h5⟩ := atI_get he
  obtain ⟨w, ew, rw'⟩ := r.get h2
  have hl := r.length
  have hn := line63
  by_cases h0 : 0 ≤ k
  · have hj : k.toNat = j := by
      rw [seqIndex_of h0 h5] at h1
      exact Option.some.inj h1
    exact wpAny_getItem_list pl.isList h0 (by omega) (by rw [hj]; simpa using ew) ⟨z, H, I, rw', q⟩
  · have hj : (k + (its.toArray.size : Int)).toNat = j := by
      rw [seqIndex_neg (by omega) h4] at h1
      rw [List.size_toArray, ← hl]
      exact Option.some.inj h1
    exact wpAny_getItem_list_neg pl.isList (by omega) (by rw [List.size_toArray, ← hl]; omega) (by omega) (by rw [hj]; simpa using ew) ⟨z, H, I, rw', q⟩
section
variable {K : PySem.W.Frag} {σ : L2.St} {H H' : Hp} {Q : VK} {p q : Addr} {xs ys : List V} {v y : V} {n : L2.St → Hp → Prop} {r : VK} {b c : L2.St → Hp → Prop} {tb : TS}
theorem z_augS {to ti te : TE} {tip : TIp} {st : TSet} {tget : V → V → Hp → VK → Prop} (h : to σ H fun o H1 => ti σ H1 fun i H2 => tget o i H2 fun x H3 => te σ H3 fun y H4 => tip x y H4 fun z H5 => st o i z H5 fun H6 => n σ H6) : tAugS to ti te tget tip st ⟨n, r, b, c⟩ σ H := h
/-- for k in range(lo, hi), whatever the two are -/
theorem z_forR2g {ta : TA} {k : Nat} (lo hi : Int) (hl : -(2 ^ 61) ≤ lo ∧ lo < 2 ^ 61) (hh : -(2 ^ 61) ≤ hi ∧ hi < 2 ^ 61) (ha : ∀ R : List V → Hp → Prop, R [.int lo, .int hi] H → ta σ H R) (Pv : Nat → L2.St → Hp → Prop) (h0 : Pv 0 σ H)
    (hs : ∀ i σ H, i < (hi - lo).toNat → Pv i σ H → tb ⟨Pv (i + 1), r, n, Pv (i + 1)⟩ (σ.set k (some (.int (lo + (i : Int))))) H) (hd : ∀ σ H, Pv (hi - lo).toNat σ H → n σ H) : tFor (iRng2 ta) (gName k) tb ⟨n, r, b, c⟩ σ H :=
  ha _ ⟨lo, hi, rfl, by omega, for_range (lo := lo) (n := (hi - lo).toNat) Pv h0 hs hd⟩
theorem z_extendW (h1 : H p = some (.lst xs)) (h2 : H q = some (.lst ys)) (hl : xs.length + ys.length ≤ 1000000) (k : Q .non (upd H p (.lst (xs ++ ys)))) : rExtend (.ref p) [.ref q] H Q :=
  ⟨p, q, xs, ys, rfl, rfl, h1, h2, Nat.le_trans hl (by decide), k⟩
theorem z_appendW (hp : H p = some (.lst xs)) (hl : xs.length < 1000000) (k : Q .non (upd H p (.lst (xs ++ [y])))) : rAppend (.ref p) [y] H Q := ⟨p, xs, y, rfl, rfl, hp, Nat.lt_of_lt_of_le hl (by decide), k⟩
/-! lists of data -/
theorem dpa_len : ∀ {ds : List PyData} {vs : List V}, DpAll K H vs ds → vs.length = ds.length
  | [], vs, h => by rw [dpa_nil h]; rfl
  | d :: ds, vs, h => by
    obtain ⟨v, t, rfl, _, h2⟩ := dpa_cons h
    rw [List.length_cons, List.length_cons, dpa_len h2]
theorem dpa_get : ∀ {ds : List PyData} {vs : List V} {i : Nat} {d : PyData}, DpAll K H vs ds → ds[i]? = some d → ∃ v, vs[i]? = some v ∧ Dp K H v d
  | [], _, _, _, _, e => by simp at e
  | d' :: ds, vs, i, d, h, e => by
    obtain ⟨v, t, rfl, h1, h2⟩ := dpa_cons h
    cases i with
    | zero =>
      cases e
      exact ⟨v, rfl, h1⟩
    | succ i =>
      have h5 := dpa_get (i := i) h2 (show ds[i]? = some _ from e)
      exact h5
theorem dpa_getv {ds : List PyData} {vs : List V} {i : Nat} {v : V} (h : DpAll K H vs ds) (e : vs[i]? = some v) : ∃ d, ds[i]? = some d ∧ Dp K H v d := by
  have hi : i < vs.length := (List.getElem?_eq_some_iff.mp e).1
  obtain ⟨w, hw, d⟩ := dpa_get h (List.getElem?_eq_getElem (show i < ds.length by rw [← dpa_len h]; exact hi))
  rw [e] at hw
  cases hw
  exact ⟨_, List.getElem?_eq_getElem _, d⟩
theorem dpa_app : ∀ {ds es : List PyData} {vs ws : List V}, DpAll K H vs ds → DpAll K H ws es → DpAll K H (vs ++ ws) (ds ++ es)
  | [], _, _, _, h, k => by
    rw [dpa_nil h]
    exact k
  | _ :: _, _, _, _, h, k => by
    obtain ⟨v, t, rfl, h1, h2⟩ := dpa_cons h
    exact .cons h1 (dpa_app h2 k)
theorem dpa_one {d : PyData} (h : Dp K H v d) : DpAll K H [v] [d] := .cons h .nil
end
end Z

/-! sets of tuples of whole numbers by a comprehension; such a set of pairs, sorted, whatever the signs of its numbers -/
namespace Sc
open PySem PySem.Spec PyProof PyProof.Rows L2 PpSet
section
variable {X : Cx}
/-- set.add of a tuple of whole numbers -/
def rAddT (K : PySem.W.Frag) (P : Program) (w : World) : AddR := fun x xs H Q => ∃ (a t : Addr) (L : List (Addr × List Int)) (k : List Int), x = V.ref a ∧ xs = [V.ref t] ∧ H a = some (SetTO P w a L) ∧ SqT K H t (k.map V.int) ∧ (∀ p ∈ L, SqT K H p.1 (p.2.map V.int)) ∧ L.length + 1 < 64 ∧
  ∀ L', (k ∈ L.map (·.2) → L' = L) → (k ∉ L.map (·.2) → L'.Perm ((t, k) :: L)) → Q .non (upd H a (SetTO P w a L'))
theorem mt_addT (hu : X.A.units + 64 < cLine) : MtR X "set.add" (rAddT X.K X.prog X.w) := by
  intro pins s σ H x xs v us Q I r rxs h
  obtain ⟨a, t, L, k, rfl, rfl, ha, ht, hL, room, q⟩ := h
  cases r
  cases rxs with
  | cons ry rt =>
  cases rt
  cases ry
  have R0 : SetT0 X.prog X.w s.heap a L := (I.hok a _ ha).1
  obtain ⟨es, ep, tb, R⟩ := R0.full fun p hp => I.isT (hL p hp)
  have hx := I.isT ht
  obtain ⟨o, ho, hex, hd⟩ := R.ob
  have hT : s.heap.get? a = some o := ho
  refine wpAny_call_entry F.slot_set_add (T := "set") ?_ F.entry_set_add ?_ (F.args_set_add_2 _ _)
  · exact ⟨o, ho, hex.1⟩
  unfold Builtin.«set.add» Builtin.Frozenset.oneOther
  simp only [List.isEmpty_nil, bind_assoc]
  unfold Builtin.Frozenset.addrOf setAdd
  refine wpAny_bind (wpAny_pure ?_)
  try dsimp only
  refine wpAny_bind (wpAny_pure ?_)
  try dsimp only
  refine wpAny_bind ?_
  refine wpAny_holding ?_
  refine wpAny_bind (wpAny_pyHash_tuple (by show X.A.units + 1 < cLine; omega) hx ?_)
  refine add_at (s := { s with toks := s.toks + (k.length + 1) }) R hx (by show X.A.units + 1 < cLine; omega) room fun b h' L' es' ep' t' sb R' c1 c2 => ?_
  show wpAny _ _ (ret Value.none) _ _ _
  refine wpAny_pure ⟨_, rfl, .non, upd H a (SetTO X.prog X.w a L'), ?_, rfl, q L' c1 c2⟩
  have he : ∃ u, h'.get? a = some u := by
    obtain ⟨o', ho', _⟩ := R'.ob
    exact ⟨o', ho'⟩
  exact I.write (e := a) (t' := s.toks + (k.length + 1)) (by rw [ha]; trivial) (.inl rfl) (fun b u hb hu => (sb.2 b hb).trans hu) he (setTO_new R'.t0)
def frT (P : Program) (w : World) : Addr → HO := fun a => SetTO P w a []
theorem pe_setT {elt tg iter : Expr} {ifs : List Expr} {scope : Scope} {own : List (PySem.Str × Nat)} {pos : Pos} {wi : TI} {g : TG} {tt : TT} {te : TE}
    (hu : X.A.units + 64 < cLine) (hc : X.calm = true) (hN : X.N.Nodup) (hi : PI X tg iter wi) (ok : BlkOk X.N X.env.scope scope own)
    (hg : ∀ (s : Shared) (H : Hp) (C : Addr) (cl : List (PySem.Str × Addr)) (fp : List Addr), PG (X.blk s H scope (compEnvC scope cl C X.env) fp) tg g)
    (ht : ∀ (s : Shared) (H : Hp) (C : Addr) (cl : List (PySem.Str × Addr)) (fp : List Addr), PTs (X.blk s H scope (compEnvC scope cl C X.env) fp) ifs tt)
    (he : ∀ (s : Shared) (H : Hp) (C : Addr) (cl : List (PySem.Str × Addr)) (fp : List Addr), PE (X.blk s H scope (compEnvC scope cl C X.env) fp) elt te)
    (hs : ∀ x, foldedSetIterable iter X.env x = pure x := by intro _; rfl) : PE X (.SetComp elt [⟨tg, iter, ifs, 0⟩] scope pos) (tSet (rAddT X.K X.prog X.w) (frT X.prog X.w) wi g tt te (own.map (·.2))) :=
  pe_set (fun H h a e => by
    subst e
    exact setTO_new (setTR_fresh (P := X.prog) (w := X.w) (Heap.get?_push_size _ rfl)).t0) (fun s H e fp => mt_addT (X := X.blk s H scope e fp) hu) hc hN hi ok hg ht he hs
end
/-! sorted -/
section
variable {P : Program} {w : World} {A : Around} {E : Value → Shared → Prop} {s : Shared}
theorem sorted_setP {a : Addr} {L : List (Addr × List Int)} {es : Array (Int × Value)} {ep : Nat} {t : SetTable} {k : Value → Int × Int} {Q : Value → Shared → Prop} (R : SetTR P w s.heap a L es ep t) (hh : A.handled = none)
    (hk : ∀ p ∈ L, p.2 = [(k (.ref p.1)).1, (k (.ref p.1)).2])
    (hQ : ∀ s' p (out : List Value) (c : Nat), (∀ b o, s.heap.get? b = some o → s'.heap.get? b = some o) → s'.gens = s.gens → s'.os = s.os → s.heap.objs.size ≤ p → s'.heap.get? p = some (seqObj "list" out.toArray c) →
      out.Perm (L.map fun q => Value.ref q.1) → SrtO.Srtd (fun v u => SrtO.lexB (k v) (k u)) out → Q (.ref p) s') :
    wpAny (model P w) A (call (.builtin "sorted") [.ref a]) Q E s := by
  obtain ⟨o, ho, hex, hd⟩ := R.ob
  have hsz := R.size
  have hfew := R.few
  refine Calls.call_function_entry kind_sorted plain_sorted entry_sorted (args_sorted1 _) ?_
  unfold Builtin.«sorted»
  refine wpAny_bind (m := checkCount "sorted" 1 1 _) (wpAny_pure ?_)
  refine wpAny_bind (collect_set (A := A.in1) hh ⟨o, ho, hex.1, hd⟩ R.fits (by unfold scanBound; omega) R.tab.ris R.led fun s1 vs k1 hz g1 o1 pm => ?_)
  have hes : es.toList.map (·.2) = L.map fun q => Value.ref q.1 := by
    rw [R.rows]
    unfold rowsOf
    rw [List.map_map]
    rfl
  rw [hes] at pm
  have hvl : vs.length < 64 := by rw [pm.length_eq, List.length_map]; exact hfew
  have hvz : vs.length ≤ sizeLine := by rw [sizeLine_eq]; omega
  refine wpAny_bind (wpAny_newList ?_ hvz)
  have hoL : (s1.heap.push (seqObj "list" vs.toArray 0)).get? s1.heap.objs.size = some (seqObj "list" vs.toArray 0) := Heap.get?_push_size _ rfl
  have keep : ∀ b u, s.heap.get? b = some u → (s1.heap.push (seqObj "list" vs.toArray 0)).get? b = some u := fun b u e => Heap.get?_push_of_some _ (k1 b u e)
  have pairs : ∀ v ∈ vs, Srt.IsPair (s1.heap.push (seqObj "list" vs.toArray 0)) v (k v).1 (k v).2 := fun v hv => by
    obtain ⟨q, hq, e⟩ := List.mem_map.mp (pm.mem_iff.mp hv)
    subst e
    obtain ⟨o2, items, n, h1, h2, h3, h4⟩ := R.tup q hq
    rw [hk q hq] at h4
    have h5 := ints_of_items h4
    generalize hil : items.toList = il at h5
    cases h5 with
    | cons _ t1 r1 =>
      cases r1 with
      | cons _ t2 r2 =>
        cases r2
        refine ⟨q.1, o2, t1, t2, n, rfl, keep _ _ h1, h2, ?_⟩
        rw [h3, ← hil] <;> simp
  refine wpAny_bind (wpAny_holding (wpAny_call_entry slot_list_sort ⟨_, hoL, rfl⟩ entry_list_sort (SrtO.list_sort_ord (s := { s1 with heap := s1.heap.push (seqObj "list" vs.toArray 0) }) (SrtO.swo_lex k) hoL hvz
    (fun h2 => SrtO.pairs_sortableO (s := { s1 with heap := s1.heap.push (seqObj "list" vs.toArray 0) }) (by omega) pairs fun o e => ?_) fun out hs hb => ⟨_, rfl, ?_⟩) (args_list_sort _)))
  · have e' : some o = some (seqObj "list" vs.toArray 0) := e.symm.trans hoL
    cases e'
    intro c
    exact absurd (Value.type.inj c) (by decide)
  obtain ⟨c, hc⟩ := sortedHeap_at (vs := vs) (out := out.toArray) hoL
  refine wpAny_pure ⟨_, rfl, hQ _ s1.heap.objs.size out c (fun b u e => ?_) g1 o1 hz hc (hb.perm.trans pm) hs⟩
  have q := k1 b u e
  have hlt := Heap.lt_size q
  show (sortedHeap (s1.heap.push (seqObj "list" vs.toArray 0)) s1.heap.objs.size vs out.toArray).get? b = some u
  rw [sortedHeap_old (Nat.ne_of_lt hlt) (by rw [size_push']; exact Nat.lt_succ_of_lt hlt)]
  exact Heap.get?_push_of_some _ q
end
section
variable {X : Cx}
/-- sorted(set of pairs): the list of the same tuples, by their first numbers, then by their second -/
def rSortedP2 (K : PySem.W.Frag) (P : Program) (w : World) : List V → Hp → VK → Prop := fun vs H Q => ∃ (a : Addr) (L : List (Addr × List Int)) (k : Addr → Int × Int), vs = [V.ref a] ∧ H a = some (SetTO P w a L) ∧ (∀ p ∈ L, SqT K H p.1 [V.int (k p.1).1, V.int (k p.1).2] ∧ p.2 = [(k p.1).1, (k p.1).2]) ∧
  ∀ (ts : List Addr) (p : Addr), ts.Perm (L.map (·.1)) → ts.Pairwise (fun t u => ¬ ((k u).1 < (k t).1 ∨ ((k u).1 = (k t).1 ∧ (k u).2 < (k t).2))) → (L.map (·.2)).Nodup → H p = none → Q (.ref p) (upd H p (.lst (ts.map V.ref)))
theorem cr_sortedP2 (hc : X.calm = true) : CallR X (.builtin "sorted") (rSortedP2 X.K X.prog X.w) := by
  intro pins s σ H vs us Q I r h
  obtain ⟨a, L, k, rfl, ha, hk, q⟩ := h
  have R0 : SetT0 X.prog X.w s.heap a L := (I.hok a _ ha).1
  obtain ⟨es, ep, t, R⟩ := R0.full fun p hp => I.isT (by rw [(hk p hp).2]; exact (hk p hp).1)
  rw [Vals.ref1 r]
  let kv : Value → Int × Int := fun v => match v with | .ref b => k b | _ => (0, 0)
  refine sorted_setP (k := kv) R (I.ok.hd hc) (fun p hp => (hk p hp).2) fun s' p out c kp g o hp hg pm pw => ?_
  have href : ∀ (out : List Value), (∀ v ∈ out, ∃ b, v = Value.ref b) → ∃ ts : List Addr, out = ts.map Value.ref := by
    intro out
    induction out with
    | nil => intro _; exact ⟨[], rfl⟩
    | cons v out ih =>
      intro h
      obtain ⟨b, rfl⟩ := h v (.head _)
      obtain ⟨ts, rfl⟩ := ih fun u hu => h u (.tail _ hu)
      exact ⟨b :: ts, rfl⟩
  obtain ⟨ts, rfl⟩ := href out fun v hv => by
    obtain ⟨q, _, e⟩ := List.mem_map.mp (pm.mem_iff.mp hv)
    exact ⟨_, e.symm⟩
  have pm2 : ts.Perm (L.map (·.1)) := by
    have e : L.map (fun q => Value.ref q.1) = (L.map (·.1)).map Value.ref := by rw [List.map_map]; rfl
    rw [e] at pm
    have back : ∀ l : List Addr, (l.map Value.ref).filterMap (fun v => match v with | .ref b => some b | _ => none) = l := by
      intro l
      induction l with
      | nil => rfl
      | cons b l ih =>
        show b :: _ = _
        rw [ih]
    have z := pm.filterMap (fun v => match v with | .ref b => some b | _ => none)
    rw [back, back] at z
    exact z
  have hn : H p = none := I.hok.fresh hp
  have hlen : (ts.map V.ref).length ≤ sizeLine := by
    rw [List.length_map, pm2.length_eq, List.length_map, sizeLine_eq]
    have := R.few
    omega
  have hv : ∀ ts : List Addr, Vals (ts.map V.ref) (ts.map Value.ref) := by
    intro ts
    induction ts with
    | nil => exact .nil
    | cons b ts ih => exact .cons rfl ih
  have J : Inv X pins σ (upd H p (.lst (ts.map V.ref))) { s with heap := s'.heap, gens := s'.gens, drawn := s'.drawn, toks := s'.toks } :=
    I.call (ch := []) (Un.laid kp hp hn) (I.hok.laid kp hp ⟨hlen, ts.map Value.ref, c, hv ts, hg⟩) (by rw [g]; exact I.bare) (fun _ z => nomatch z)
  have e : s' = { s with heap := s'.heap, gens := s'.gens, drawn := s'.drawn, toks := s'.toks } := by
    cases s'
    cases s
    cases o
    rfl
  rw [e]
  refine ⟨.ref p, _, J, rfl, q ts p pm2 ?_ R.nd hn⟩
  have pw : (ts.map Value.ref).Pairwise fun x y => SrtO.lexB (kv y) (kv x) = false := pw
  exact (List.pairwise_map.mp pw).imp fun h => SrtO.lexB_no.mp h
end
/-! ### readings: the set of the pairs of a list; sorted -/
open Z
theorem nodup_len {α : Type} [DecidableEq α] : ∀ {l m : List α}, l.Nodup → (∀ x ∈ l, x ∈ m) → l.length ≤ m.length
  | [], m, _, _ => Nat.zero_le _
  | x :: l, m, hn, hs => by
    have hn' := List.nodup_cons.mp hn
    have hx := hs x (.head _)
    have := nodup_len (l := l) (m := m.erase x) hn'.2 fun y hy => by
      have hy' := hs y (.tail _ hy)
      have hne : y ≠ x := fun e => hn'.1 (by rw [← e]; exact hy)
      exact (List.mem_erase_of_ne hne).mpr hy'
    rw [List.length_erase_of_mem hx] at this
    have := List.length_pos_of_mem hx
    rw [List.length_cons]
    omega
section
variable {K : PySem.W.Frag} {H : Hp} {Q : VK} {σ : L2.St} {P : Program} {w : World}
theorem z_setPr {k : Nat} {te : TE} {vs : List Nat} {a : Addr} {xs : List V} (zs : List (Int × Int)) (hlen : zs.length = xs.length) (bs : List (List Int)) (hbl : bs.length ≤ 62) (hb : ∀ z ∈ zs, [z.1, z.2] ∈ bs) (hx : H a = some (.lst xs))
    (hw : ∀ x, wipe ((wipe σ vs).set k (some x)) vs = wipe σ vs)
    (body : ∀ (i : Nat) (x : V) (z : Int × Int) (H' : Hp), xs[i]? = some x → zs[i]? = some z → Same H H' → ∀ R : VK, (∀ t H'', H' t = none → Same H' H'' → H'' t = some (.tup [.int z.1, .int z.2]) → R (.ref t) H'') → te ((wipe σ vs).set k (some x)) H' R)
    (q : ∀ D H' L, H D = none → Same H H' → H' D = some (SetTO P w D L) → (L.map (·.2)).Nodup → (∀ p ∈ L, H' p.1 = some (.tup (p.2.map V.int)) ∧ ∃ z ∈ zs, p.2 = [z.1, z.2]) → (∀ z ∈ zs, [z.1, z.2] ∈ L.map (·.2)) → Q (.ref D) H') :
    tSetE (rAddT K P w) (frT P w) K (gName k) tYes te vs σ Q (.ref a) H := by
  refine ⟨a, rfl, ⟨_, .inl (.inl hx)⟩, fun D hD => ?_⟩
  have hDa : a ≠ D := ne_of_none hx hD
  let Pv : Nat → Hp → Prop := fun i H' => Same H H' ∧ ∃ L, H' D = some (SetTO P w D L) ∧ (L.map (·.2)).Nodup ∧ (∀ p ∈ L, H' p.1 = some (.tup (p.2.map V.int)) ∧ ∃ z ∈ zs.take i, p.2 = [z.1, z.2]) ∧ ∀ z ∈ zs.take i, [z.1, z.2] ∈ L.map (·.2)
  refine ⟨fun i m H' => m = xs.length - i ∧ i ≤ xs.length ∧ Pv i H', ⟨xs.length, by simp, Nat.zero_le _, same_upd hD, [], upd_same, List.nodup_nil, (fun p hp => by cases hp), (fun z hz => by cases hz)⟩, ?_⟩
  rintro i m H' ⟨rfl, hi, sm, L, hS, nd, hL, hz⟩
  have ha := sm _ _ hx
  by_cases hlt : i < xs.length
  · refine .inr ⟨⟨_, xs[i], .inl (.inl ha), by simp [hlt]⟩, Pv (i + 1), fun H2 p2 => ⟨xs.length - (i + 1), by omega, rfl, hlt, p2⟩, fun x H2 y => ?_⟩
    obtain ⟨e, y⟩ := y
    subst e
    have e := y _ (.inl (.inl ha))
    have hzi : zs[i]? = some (zs[i]'(by omega)) := List.getElem?_eq_getElem _
    generalize zs[i]'(by omega) = z at hzi
    have tk : zs.take (i + 1) = zs.take i ++ [z] := by rw [List.take_add_one, hzi]; rfl
    refine ⟨hw _, ?_⟩
    show Keep _ _ _ _ _ true _
    unfold Keep
    rw [if_pos rfl]
    refine body i x z H2 e hzi sm _ fun t H3 f3 s3 h3 => ?_
    have sm3 := sm.trans s3
    have htD : t ≠ D := fun z => by
      rw [z, hS] at f3
      cases f3
    have hlen2 : L.length ≤ bs.length := by
      have := nodup_len nd (m := bs) fun k hk => by
        obtain ⟨p, hp, rfl⟩ := List.mem_map.mp hk
        obtain ⟨z', hz', e'⟩ := (hL p hp).2
        rw [e']
        exact hb z' (List.mem_of_mem_take hz')
      rwa [List.length_map] at this
    refine ⟨D, t, L, [z.1, z.2], rfl, rfl, s3 _ _ hS, .inl (.inl h3), fun p hp => .inl (.inl (s3 _ _ (hL p hp).1)), by omega, fun L' c1 c2 => ?_⟩
    refine ⟨fun b o e => ?_, L', upd_same, ?_, fun p hp => ?_, fun z' hz' => ?_⟩
    · rw [upd_ne (ne_of_none e hD)]
      exact sm3 _ _ e
    · by_cases c : [z.1, z.2] ∈ L.map (·.2)
      · rw [c1 c]
        exact nd
      · have := (c2 c).map (·.2)
        exact this.nodup_iff.mpr (List.nodup_cons.mpr ⟨c, nd⟩)
    · by_cases c : [z.1, z.2] ∈ L.map (·.2)
      · rw [c1 c] at hp
        have hpD : p.1 ≠ D := fun z => by
          have := (hL p hp).1
          rw [z, hS] at this
          cases this
        obtain ⟨z', hz', e'⟩ := (hL p hp).2
        exact ⟨by rw [upd_ne hpD]; exact s3 _ _ (hL p hp).1, z', by rw [tk]; exact List.mem_append.mpr (.inl hz'), e'⟩
      · rcases List.mem_cons.mp ((c2 c).mem_iff.mp hp) with e' | hp
        · rw [e']
          exact ⟨by rw [upd_ne htD]; exact h3, z, by rw [tk]; exact List.mem_append.mpr (.inr (.head _)), rfl⟩
        · have hpD : p.1 ≠ D := fun z => by
            have := (hL p hp).1
            rw [z, hS] at this
            cases this
          obtain ⟨z', hz', e'⟩ := (hL p hp).2
          exact ⟨by rw [upd_ne hpD]; exact s3 _ _ (hL p hp).1, z', by rw [tk]; exact List.mem_append.mpr (.inl hz'), e'⟩
    · have old : z' ∈ zs.take i → [z'.1, z'.2] ∈ L'.map (·.2) := fun h => by
        by_cases c : [z.1, z.2] ∈ L.map (·.2)
        · rw [c1 c]
          exact hz z' h
        · exact ((c2 c).map (·.2)).mem_iff.mpr (.tail _ (hz z' h))
      rw [tk] at hz'
      rcases List.mem_append.mp hz' with h | h
      · exact old h
      · rw [List.mem_singleton.mp h]
        by_cases c : [z.1, z.2] ∈ L.map (·.2)
        · rw [c1 c]
          exact c
        · exact ((c2 c).map (·.2)).mem_iff.mpr (.head _)
  · have e : i = xs.length := by omega
    subst e
    rw [show zs.take xs.length = zs by rw [← hlen, List.take_length]] at hL hz
    exact .inl ⟨⟨_, .inl (.inl ha), by simp⟩, q D H' L hD sm hS nd hL hz⟩
/-- by the first number, then by the second -/
def plt (a b : Int × Int) : Prop := a.1 < b.1 ∨ (a.1 = b.1 ∧ a.2 < b.2)
def atH (H : Hp) (t : Addr) : Int × Int := match H t with
  | some (.tup [.int a, .int b]) => (a, b)
  | _ => (0, 0)
theorem atH_of {t : Addr} {a b : Int} (h : H t = some (.tup [.int a, .int b])) : atH H t = (a, b) := by
  unfold atH
  rw [h]
theorem z_sortedPr {a : Addr} {L : List (Addr × List Int)} {zs : List (Int × Int)} (h : H a = some (SetTO P w a L)) (hL : ∀ p ∈ L, H p.1 = some (.tup (p.2.map V.int)) ∧ ∃ z ∈ zs, p.2 = [z.1, z.2]) (hz : ∀ z ∈ zs, [z.1, z.2] ∈ L.map (·.2))
    (q : ∀ (ts : List Addr) (us : List (Int × Int)) (p : Addr) (H' : Hp), ts.length = us.length → (∀ (i : Nat) (t : Addr) (u : Int × Int), ts[i]? = some t → us[i]? = some u → H' t = some (.tup [.int u.1, .int u.2])) → us.Pairwise plt → (∀ z, z ∈ us ↔ z ∈ zs) → us.length ≤ L.length → H p = none → Same H H' → H' p = some (.lst (ts.map V.ref)) → Q (.ref p) H') :
    rSortedP2 K P w [.ref a] H Q := by
  have key : ∀ p ∈ L, p.2 = [(atH H p.1).1, (atH H p.1).2] := fun p hp => by
    obtain ⟨h1, z, _, e⟩ := hL p hp
    rw [e] at h1 ⊢
    rw [atH_of h1]
  refine ⟨a, L, atH H, rfl, h, fun p hp => ⟨.inl (.inl ?_), key p hp⟩, fun ts p pm pw nd hp => ?_⟩
  · have := (hL p hp).1
    rw [key p hp] at this
    exact this
  have mem : ∀ t ∈ ts, ∃ r ∈ L, r.1 = t := fun t ht => List.mem_map.mp (pm.mem_iff.mp ht)
  have ndt : (ts.map (atH H)).Nodup := by
    have e1 : (L.map (·.1)).map (fun t => [(atH H t).1, (atH H t).2]) = L.map (·.2) := by
      rw [List.map_map]
      exact List.map_congr_left fun r hr => (key r hr).symm
    have e2 : (ts.map fun t => [(atH H t).1, (atH H t).2]).Nodup := (pm.map _).nodup_iff.mpr (by rw [e1]; exact nd)
    have e3 : (ts.map (atH H)).Pairwise fun u v => u ≠ v := by
      rw [List.pairwise_map]
      refine (List.pairwise_map.mp e2).imp fun hne e => hne ?_
      rw [e]
    exact e3
  refine q ts (ts.map (atH H)) p _ (by rw [List.length_map]) (fun i t u ht hu => ?_) ?_ (fun z => ?_) (by rw [List.length_map, pm.length_eq, List.length_map]; exact Nat.le_refl _) hp (same_upd hp) upd_same
  · rw [List.getElem?_map, ht] at hu
    cases hu
    obtain ⟨r, hr, rfl⟩ := mem t (List.mem_of_getElem? ht)
    have h1 := (hL r hr).1
    rw [key r hr] at h1
    rw [upd_ne (ne_of_none h1 hp)]
    exact h1
  · rw [List.pairwise_map]
    have ndt' := List.pairwise_map.mp ndt
    refine (pw.and ndt').imp fun {t u} ⟨h1, h2⟩ => ?_
    unfold plt
    have h3 : ¬ ((atH H t).1 = (atH H u).1 ∧ (atH H t).2 = (atH H u).2) := fun e => h2 (Prod.ext e.1 e.2)
    omega
  · constructor
    · intro hz'
      obtain ⟨t, ht, rfl⟩ := List.mem_map.mp hz'
      obtain ⟨r, hr, rfl⟩ := mem t ht
      obtain ⟨_, z', hz2, e⟩ := hL r hr
      rw [key r hr] at e
      have e1 : (atH H r.1).1 = z'.1 := by injection e
      have e2 : (atH H r.1).2 = z'.2 := by
        injection e with _ e
        injection e
      rw [show atH H r.1 = z' from Prod.ext e1 e2]
      exact hz2
    · intro hz'
      obtain ⟨r, hr, e⟩ := List.mem_map.mp (hz z hz')
      rw [key r hr] at e
      have e1 : (atH H r.1).1 = z.1 := by injection e
      have e2 : (atH H r.1).2 = z.2 := by
        injection e with _ e
        injection e
      exact List.mem_map.mpr ⟨r.1, pm.mem_iff.mpr (List.mem_map.mpr ⟨r, hr, rfl⟩), Prod.ext e1 e2⟩
end
end Sc

/-! tuples of whole numbers: >, and < > of pairs; in, not in, of data -/
namespace Z
open PySem PySem.Spec PyProof PyProof.Rows L2
theorem room65 {k : Nat} {A : _root_.PySem.Around} (r : L2.Room k A) : A.units + 65 < cLine := by have := r.un; omega
def rGtT (K : PySem.W.Frag) : R2 := fun x y H Q => ∃ (a b : Addr) (ns ms : List Int), x = .ref a ∧ y = .ref b ∧ SqT K H a (ns.map V.int) ∧ SqT K H b (ms.map V.int) ∧
  Q (.bl (Ob.lexAt (fun j => decide (ns.getD j 0 = ms.getD j 0)) (fun j => decide (ms.getD j 0 < ns.getD j 0)) (decide (ms.length < ns.length)) 0 (min ns.length ms.length))) H
theorem op_gtT {X : Cx} (hu : X.A.units < cLine) : OpR X (compareOp .Gt) (rGtT X.K) := by
  intro pins s σ H x y v u Q I rx ry h
  obtain ⟨a, b, ns, ms, rfl, rfl, ha, hb, q⟩ := h
  cases rx
  cases ry
  obtain ⟨its, r1, p1, _⟩ := I.tuple ha
  obtain ⟨its2, r2, p2, _⟩ := I.tuple hb
  have i1 : IntsAre its ns := Vals.ints r1
  have i2 : IntsAre its2 ms := Vals.ints r2
  have e1 : its.toArray.size = ns.length := by rw [List.size_toArray]; exact i1.length
  have e2 : its2.toArray.size = ms.length := by rw [List.size_toArray]; exact i2.length
  have at1 : ∀ j (h1 : j < its.toArray.size), ∃ t, its.toArray[j] = .int (ns.getD j 0) t := fun j h1 => PyProof.Rows.IntsAre.int_at i1 _ _ (by simp at h1; simp [h1])
  have at2 : ∀ j (h1 : j < its2.toArray.size), ∃ t, its2.toArray[j] = .int (ms.getD j 0) t := fun j h1 => PyProof.Rows.IntsAre.int_at i2 _ _ (by simp at h1; simp [h1])
  have R := Ob.RcOp.tuples_gt (A := X.A) (s := s) (e := fun j => decide (ns.getD j 0 = ms.getD j 0)) (r := fun j => decide (ms.getD j 0 < ns.getD j 0)) p1 p2 hu (fun j h1 h2 => by
    obtain ⟨t, et⟩ := at1 j h1
    obtain ⟨t', et'⟩ := at2 j h2
    rw [et, et']
    have z : (ns.getD j 0 == ms.getD j 0) = decide (ns.getD j 0 = ms.getD j 0) := by
      by_cases q : ns.getD j 0 = ms.getD j 0
      · rw [decide_eq_true q]; exact beq_iff_eq.mpr q
      · rw [decide_eq_false q]; exact beq_eq_false_iff_ne.mpr q
    rw [← z]
    exact SeqAt.EqAt.int_int _ _ _ _) (fun j h1 h2 _ => by
    obtain ⟨t, et⟩ := at1 j h1
    obtain ⟨t', et'⟩ := at2 j h2
    rw [et, et']
    exact Ob.RcOp.gt_int _ _ _ _)
  rw [e1, e2] at R
  have z : wpAny (model X.prog X.w) X.A (compareOp .Gt (.ref a) (.ref b)) (EP X pins σ Q) X.xe s := R X.prog X.w X.xe (EP X pins σ Q) ⟨.bl _, H, I, rfl, q⟩
  exact z
section
variable {K : PySem.W.Frag} {H : Hp} {Q : VK} {p q : Addr} {a b c d : Int}
theorem z_ltP (h1 : H p = some (.tup [.int a, .int b])) (h2 : H q = some (.tup [.int c, .int d])) (k : Q (.bl (decide (a < c ∨ (a = c ∧ b < d)))) H) : rLtT K (.ref p) (.ref q) H Q := by
  refine ⟨p, q, [a, b], [c, d], rfl, rfl, .inl (.inl h1), .inl (.inl h2), ?_⟩
  have e : HT.lexLt [a, b] [c, d] = decide (a < c ∨ (a = c ∧ b < d)) := by
    unfold HT.lexLt
    by_cases h : a = c
    · subst h
      rw [if_pos rfl]
      unfold HT.lexLt
      by_cases h : b = d
      · subst h
        rw [if_pos rfl]
        unfold HT.lexLt
        simp
      · rw [if_neg h]
        simp
    · rw [if_neg h]
      simp [h]
  rw [e]
  exact k
theorem z_gtP (h1 : H p = some (.tup [.int a, .int b])) (h2 : H q = some (.tup [.int c, .int d])) (k : Q (.bl (decide (c < a ∨ (c = a ∧ d < b)))) H) : rGtT K (.ref p) (.ref q) H Q := by
  refine ⟨p, q, [a, b], [c, d], rfl, rfl, .inl (.inl h1), .inl (.inl h2), ?_⟩
  have e : Ob.lexAt (fun j => decide ([a, b].getD j 0 = [c, d].getD j 0)) (fun j => decide ([c, d].getD j 0 < [a, b].getD j 0)) (decide ([c, d].length < [a, b].length)) 0 (min [a, b].length [c, d].length) = decide (c < a ∨ (c = a ∧ d < b)) := by
    show Ob.lexAt _ _ _ 0 2 = _
    rw [Ob.lexAt_succ, Ob.lexAt_succ, Ob.lexAt_zero]
    show (if decide (a = c) = true then (if decide (b = d) = true then decide ((2 : Nat) < 2) else decide (d < b)) else decide (c < a)) = _
    by_cases h : a = c
    · subst h
      by_cases h : b = d
      · subst h
        simp
      · simp [h]
    · have h' : ¬ c = a := fun z => h z.symm
      simp [h, h']
  rw [e]
  exact k
end
def rInsert : V → List V → Hp → VK → Prop := fun x vs H Q => ∃ (l : Addr) (xs : List V) (i : Int) (y : V), x = .ref l ∧ vs = [.int i, y] ∧ H l = some (.lst xs) ∧ xs.length < sizeLine ∧ 0 ≤ i ∧ i < 2 ^ 63 ∧
    Q .non (upd H l (.lst (xs.take i.toNat ++ [y] ++ xs.drop i.toNat)))
theorem mt_insertN {X : Cx} : MtR X "list.insert" rInsert := mt_insert
section
variable {K : PySem.W.Frag} {σ : L2.St} {H : Hp} {Q : VK} {p : Addr} {xs : List V} {y : V} {n : L2.St → Hp → Prop} {r : VK} {b c : L2.St → Hp → Prop} {tb : TS}
theorem z_insert {i : Nat} (hp : H p = some (.lst xs)) (hl : xs.length < 1000) (hi : i < 1000) (q : Q .non (upd H p (.lst (xs.take i ++ [y] ++ xs.drop i)))) : rInsert (.ref p) [.int (i : Int), y] H Q :=
  ⟨p, xs, (i : Int), y, rfl, rfl, hp, Nat.lt_of_lt_of_le hl (by decide), by omega, by omega, by rw [Int.toNat_natCast]; exact q⟩
def ForR (g : TG) (tb : TS) (n : L2.St → Hp → Prop) (r : VK) (b c : L2.St → Hp → Prop) (σ : L2.St) : List V → Hp → Prop := fun xs H1 => tFor (iRng1 fun _ H R => R xs H) g tb ⟨n, r, b, c⟩ σ H1
theorem z_forRE {ta : TA} {g : TG} (h : ta σ H (ForR g tb n r b c σ)) : tFor (iRng1 ta) g tb ⟨n, r, b, c⟩ σ H := h
theorem z_forRr {k : Nat} (m : Nat) (hm : m < 2 ^ 62) (Pv : Nat → L2.St → Hp → Prop) (h0 : Pv 0 σ H)
    (hs : ∀ i σ H, i < m → Pv i σ H → tb ⟨Pv (i + 1), r, n, Pv (i + 1)⟩ (σ.set k (some (.int (i : Int)))) H) (hd : ∀ σ H, Pv m σ H → n σ H) : ForR (gName k) tb n r b c σ [.int (m : Int)] H :=
  z_forR1 m hm (fun R q => q) Pv h0 hs hd
end
end Z

namespace G
open PySem PySem.Spec PyProof.Rows L2 Z
def topS (i : Nat) : Stmt := PySem.Challenge.pw_fontwinding_k28_planted_corners.main.body.getD i (.Pass ⟨0, 0, 0, 0⟩)
abbrev s_corners : Stmt := topS 1
abbrev s_side : Stmt := topS 2
abbrev s_turns_left : Stmt := topS 3
abbrev s__law_cell : Stmt := topS 5
abbrev s__law_stream : Stmt := topS 6
abbrev s__law_draw : Stmt := topS 7
abbrev s__law_is_integer : Stmt := topS 8
abbrev s__law_is_point : Stmt := topS 9
abbrev s__law_bases : Stmt := topS 10
abbrev s__law_from_lowest : Stmt := topS 11
abbrev s__law_same : Stmt := topS 12
abbrev s_law : Stmt := topS 13
theorem sc_corners : FnScope ["points", "heights_first", "point", "upwards", "y", "x"] ["points"] (defScope s_corners) := ⟨rfl, rfl, rfl, by decide +kernel, rfl, by decide +kernel, by decide +kernel⟩
theorem sc_side : FnScope ["points", "found", "point"] ["points"] (defScope s_side) := ⟨rfl, rfl, rfl, by decide +kernel, rfl, by decide +kernel, by decide +kernel⟩
theorem sc_turns_left : FnScope ["a", "b", "c"] ["a", "b", "c"] (defScope s_turns_left) := ⟨rfl, rfl, rfl, by decide +kernel, rfl, by decide +kernel, by decide +kernel⟩
theorem sc__law_cell : FnScope ["script", "k"] ["script", "k"] (defScope s__law_cell) := ⟨rfl, rfl, rfl, by decide +kernel, rfl, by decide +kernel, by decide +kernel⟩
theorem sc__law_stream : FnScope ["cell"] ["cell"] (defScope s__law_stream) := ⟨rfl, rfl, rfl, by decide +kernel, rfl, by decide +kernel, by decide +kernel⟩
theorem sc__law_draw : FnScope ["stream", "size", "drawn", "mixed"] ["stream", "size"] (defScope s__law_draw) := ⟨rfl, rfl, rfl, by decide +kernel, rfl, by decide +kernel, by decide +kernel⟩
theorem sc__law_is_integer : FnScope ["actual"] ["actual"] (defScope s__law_is_integer) := ⟨rfl, rfl, rfl, by decide +kernel, rfl, by decide +kernel, by decide +kernel⟩
theorem sc__law_is_point : FnScope ["actual"] ["actual"] (defScope s__law_is_point) := ⟨rfl, rfl, rfl, by decide +kernel, rfl, by decide +kernel, by decide +kernel⟩
theorem sc__law_bases : FnScope ["stream", "count", "x", "a", "b", "c", "d", "bases", "k"] ["stream"] (defScope s__law_bases) := ⟨rfl, rfl, rfl, by decide +kernel, rfl, by decide +kernel, by decide +kernel⟩
theorem sc__law_from_lowest : FnScope ["planted", "first", "k"] ["planted"] (defScope s__law_from_lowest) := ⟨rfl, rfl, rfl, by decide +kernel, rfl, by decide +kernel, by decide +kernel⟩
theorem sc__law_same : FnScope ["actual", "expected", "k"] ["actual", "expected"] (defScope s__law_same) := ⟨rfl, rfl, rfl, by decide +kernel, rfl, by decide +kernel, by decide +kernel⟩
theorem sc_law : FnScope ["script", "stream", "bases", "scale", "move", "planted", "base", "points", "point", "k", "part", "expected", "handed"] ["script"] (defScope s_law) := ⟨rfl, rfl, rfl, by decide +kernel, rfl, by decide +kernel, by decide +kernel⟩
structure Txt (K : PySem.W.Frag) (mg : Str → Option Value) (A : Nat → Addr) (D : Nat → FuncData) : Prop where
  F_corners : Fun K "corners" "corners" s_corners (A 0) (D 0)
  m_corners : mg "corners" = some (.ref (A 0))
  b_corners : Binds K (D 0) ["points"] []
  F_side : Fun K "side" "side" s_side (A 1) (D 1)
  m_side : mg "side" = some (.ref (A 1))
  b_side : Binds K (D 1) ["points"] []
  F_turns_left : Fun K "turns_left" "turns_left" s_turns_left (A 2) (D 2)
  m_turns_left : mg "turns_left" = some (.ref (A 2))
  b_turns_left : Binds K (D 2) ["a", "b", "c"] []
  F__law_cell : Fun K "_law_cell" "_law_cell" s__law_cell (A 3) (D 3)
  m__law_cell : mg "_law_cell" = some (.ref (A 3))
  b__law_cell : Binds K (D 3) ["script", "k"] []
  F__law_stream : Fun K "_law_stream" "_law_stream" s__law_stream (A 4) (D 4)
  m__law_stream : mg "_law_stream" = some (.ref (A 4))
  b__law_stream : Binds K (D 4) ["cell"] []
  F__law_draw : Fun K "_law_draw" "_law_draw" s__law_draw (A 5) (D 5)
  m__law_draw : mg "_law_draw" = some (.ref (A 5))
  b__law_draw : Binds K (D 5) ["stream", "size"] []
  F__law_is_integer : Fun K "_law_is_integer" "_law_is_integer" s__law_is_integer (A 6) (D 6)
  m__law_is_integer : mg "_law_is_integer" = some (.ref (A 6))
  b__law_is_integer : Binds K (D 6) ["actual"] []
  F__law_is_point : Fun K "_law_is_point" "_law_is_point" s__law_is_point (A 7) (D 7)
  m__law_is_point : mg "_law_is_point" = some (.ref (A 7))
  b__law_is_point : Binds K (D 7) ["actual"] []
  F__law_bases : Fun K "_law_bases" "_law_bases" s__law_bases (A 8) (D 8)
  m__law_bases : mg "_law_bases" = some (.ref (A 8))
  b__law_bases : Binds K (D 8) ["stream"] []
  F__law_from_lowest : Fun K "_law_from_lowest" "_law_from_lowest" s__law_from_lowest (A 9) (D 9)
  m__law_from_lowest : mg "_law_from_lowest" = some (.ref (A 9))
  b__law_from_lowest : Binds K (D 9) ["planted"] []
  F__law_same : Fun K "_law_same" "_law_same" s__law_same (A 10) (D 10)
  m__law_same : mg "_law_same" = some (.ref (A 10))
  b__law_same : Binds K (D 10) ["actual", "expected"] []
  F_law : Fun K "law" "law" s_law (A 11) (D 11)
  m_law : mg "law" = some (.ref (A 11))
  b_law : Binds K (D 11) ["script"] []
  z_bool : mg "bool" = none
  z_int : mg "int" = none
  z_isinstance : mg "isinstance" = none
  z_len : mg "len" = none
  z_list : mg "list" = none
  z_range : mg "range" = none
  z_sorted : mg "sorted" = none
  z_tuple : mg "tuple" = none
local macro_rules | `(tactic| walk_at "z1") => `(tactic| first
  | with_reducible refine z_seq ?_
  | with_reducible refine z_asg ?_
  | with_reducible refine z_asgS ?_
  | with_reducible refine z_ifs ?_
  | ((with_reducible refine' z_var ?h ?_); case h => with_unfolding_all exact rfl)
  | with_reducible refine z_c ?_
  | with_reducible refine z_op ?_
  | with_reducible refine z_un ?_
  | with_reducible refine z_I0 ?_
  | ((with_reducible refine z_I ?h ?_); case h => first | (exact Or.inr ⟨by decide, by decide⟩) | (exact Or.inl ⟨by decide, by decide⟩) | (show (0 : Int) < _; first | assumption | omega))
  | with_reducible refine z_U ?_
  | with_reducible refine z_eqI ?_
  | with_reducible refine z_neI ?_
  | with_reducible refine z_test ?_
  | with_reducible refine z_tB ?_
  | with_reducible refine z_bl ?_
  | with_reducible refine z_notT ?_
  | with_reducible refine z_andT ?_
  | with_reducible refine z_orT ?_
  | with_reducible refine z_andV ?_
  | with_reducible refine z_orV ?_
  | with_reducible refine z_notV ?_
  | with_reducible refine z_ifE ?_
  | with_reducible refine z_ifT ?_
  | with_reducible refine z_ifF ?_
  | with_reducible refine z_ifNT ?_
  | with_reducible refine z_ifNF ?_
  | with_reducible refine z_chain ?_
  | with_reducible refine z_nil ?_
  | with_reducible refine z_cons ?_
  | with_reducible refine z_tup ?_
  | with_reducible refine z_lst ?_
  | with_reducible refine z_cb ?_
  | with_reducible refine z_call ?_
  | with_reducible refine z_callS ?_
  | with_reducible refine z_int1 ?_
  | with_reducible refine z_int1b ?_
  | with_reducible refine z_abs ?_
  | with_reducible refine z_gcd ?_
  | with_reducible refine z_ret ?_
  | with_reducible refine z_retN ?_
  | with_reducible refine z_drop ?_
  | with_reducible refine z_next ?_
  | with_reducible refine z_brk ?_
  | with_reducible refine z_cont ?_
  | with_reducible refine z_par ?_
  | with_reducible refine z_two ?_
  | with_reducible refine z_asgT ?_
  | with_reducible refine z_sl ?_
  | with_reducible refine z_noPart ?_
  | with_reducible refine z_part ?_
  | with_reducible refine z_partI ?_
  | with_reducible refine z_gName ?_
  | with_reducible refine z_gcons ?_
  | with_reducible refine z_gnil ?_
  | ((with_reducible refine' z_up ?h ?hm ?_); (case h => walk_at "sq"); (case hm => exact rfl))
  | ((with_reducible refine' z_gT ?h ?hm ?_); (case h => walk_at "sq"); (case hm => exact rfl))
  | with_reducible refine z_isII ?_
  | with_reducible refine z_isNN ?_
  | with_reducible refine z_isNR ?_
  | with_reducible refine z_notNN ?_
  | with_reducible refine z_notNR ?_
  | with_reducible refine z_isIB ?_
  | with_reducible refine z_isBB ?_
  | ((with_reducible refine' z_isT ?h ?_); (case h => walk_at "sq"))
  | ((with_reducible refine' z_isLL ?h ?_); case h => assumption)
  | ((with_reducible refine z_newT ?h ?_); case h => exact Nat.le_of_ble_eq_true rfl)
  | ((with_reducible refine z_newL ?h ?_); case h => exact Nat.le_of_ble_eq_true rfl)
  | ((with_reducible refine' z_ixL ?h ?h2 ?_); (case h => walk_at "sq"); (case h2 => exact rfl))
  | ((with_reducible refine' z_ixT ?h ?h2 ?_); (case h => walk_at "sq"); (case h2 => exact rfl))
  | ((with_reducible refine' z_lenL ?h ?_); case h => walk_at "sq")
  | ((with_reducible refine' z_lenT ?h ?_); case h => walk_at "sq")
  | ((with_reducible refine z_ifYes ?h ?_); (case h => exact rfl))
  | ((with_reducible refine z_ifNo ?h ?_); (case h => exact rfl)))
local macro_rules | `(tactic| walk_at "sq") => `(tactic| first | assumption | exact Or.inl (Or.inl (by assumption)) | exact Or.inl (Or.inl upd_same))
local macro_rules | `(tactic| walk_at "z") => `(tactic| repeat (walk_at "z1"))
/-! ### promises -/
def sp__law_cell (K : PySem.W.Frag) : Sp := fun vs H Q _ => ∃ (l : Addr) (ns : List Int) (j : Nat), vs = [.ref l, .int (j : Int)] ∧ SqL K H l (ns.map V.int) ∧ ∀ v, Q (.int v) H
/-- a stream: three ints, whatever they are -/
def IsStm (H : Hp) (p : Addr) : Prop := ∃ a b m : Int, H p = some (.lst [.int a, .int b, .int m])
def sp__law_stream : Sp := fun vs H Q _ => ∃ c : Int, vs = [.int c] ∧ ∀ p H' a b m, H p = none → Same H H' → H' p = some (.lst [.int a, .int b, .int m]) → Q (.ref p) H'
def sp__law_draw : Sp := fun vs H Q _ => ∃ (p : Addr) (z : Int), vs = [.ref p, .int z] ∧ IsStm H p ∧ 0 < z ∧ z.natAbs < 2 ^ 1000 ∧ ∀ v a b m, 0 ≤ v → v < z → Q (.int v) (upd H p (.lst [.int a, .int b, .int m]))
section
theorem ok__law_cell {P : Program} {w : World} {K : PySem.W.Frag} {mg : Str → Option Value} {base : Heap} {A : Nat → Addr} {D : Nat → FuncData} (T : Txt K mg A D) : FnOk P w K mg base (L2.CX P w) 1 (A 3) (D 3) ["script", "k"] (sp__law_cell K) := by
  refine T.F__law_cell.okX sc__law_cell (fun vs H Q E h => ?_) (fun cdv A' outer s H vs Q E hr h => ?_)
  · obtain ⟨l, ns, j, rfl, _⟩ := h
    rfl
  obtain ⟨l, ns, j, rfl, hS, q⟩ := h
  refine ⟨_, (pss_cons (ps_if (pt_cmpR op_lt (pv 1) (pe_callB Z.c_len (by rfl) T.z_len (by decide +kernel) (pa_cons (pv 0) pa_nil)) (nomark _))
  (pss_one (ps_ret (pe_ix ix_list (pv 0) (pv 1) (fun _ _ => rfl))))
  pss_nil)
  (pss_one (ps_ret pe_int))), ?_⟩
  walk_at "z"
  refine z_if (fun hj => ?_) (fun _ => ?_)
  · walk_at "z"
    rw [List.length_map] at hj
    have hj' : j < ns.length := by omega
    refine z_ixL hS (v := .int ns[j]) (atI_nat (by rw [List.getElem?_map, List.getElem?_eq_getElem hj']; rfl)) (q _)
  · walk_at "z"
    exact q 0
theorem ok__law_stream {P : Program} {w : World} {K : PySem.W.Frag} {mg : Str → Option Value} {base : Heap} {A : Nat → Addr} {D : Nat → FuncData} (T : Txt K mg A D) : FnOk P w K mg base (L2.CX P w) 1 (A 4) (D 4) ["cell"] sp__law_stream := by
  refine T.F__law_stream.okX sc__law_stream (fun vs H Q E h => ?_) (fun cdv A' outer s H vs Q E hr h => ?_)
  · obtain ⟨c, rfl, _⟩ := h
    rfl
  obtain ⟨c, rfl, q⟩ := h
  refine ⟨_, (pss_cons (ps_if (pt_cmpR op_ge (pv 0) (Z.pe_powc (v := 1000000000000000000) ⟨by decide, by decide, by decide⟩ (by decide)) (nomark _))
  (pss_one (ps_ret (pe_lst (pa_cons (pv 0) (pa_cons pe_int (pa_cons (pe_op op_mod (pe_callTy Z.c_int (by rfl) T.z_int (by decide +kernel) (pa_cons (pv 0) pa_nil)) pe_int) pa_nil))))))
  pss_nil)
  (pss_one (ps_ret (pe_lst (pa_cons pe_int (pa_cons pe_int (pa_cons (pe_op op_mod (pe_callTy Z.c_int (by rfl) T.z_int (by decide +kernel) (pa_cons (pv 0) pa_nil)) pe_int) pa_nil))))))), ?_⟩
  walk_at "z"
  refine z_if (fun hj => ?_) (fun _ => ?_)
  · walk_at "z"
    exact fun p H' hp s h => q p H' _ _ _ hp s h
  · walk_at "z"
    exact fun p H' hp s h => q p H' _ _ _ hp s h
theorem ok__law_draw {P : Program} {w : World} {K : PySem.W.Frag} {mg : Str → Option Value} {base : Heap} {A : Nat → Addr} {D : Nat → FuncData} (T : Txt K mg A D) : FnOk P w K mg base (L2.CX P w) 1 (A 5) (D 5) ["stream", "size"] sp__law_draw := by
  refine T.F__law_draw.okX sc__law_draw (fun vs H Q E h => ?_) (fun cdv A' outer s H vs Q E hr h => ?_)
  · obtain ⟨p, z, rfl, _⟩ := h
    rfl
  obtain ⟨p, z, rfl, ⟨a, b, m, hp⟩, hz, hz2, q⟩ := h
  refine ⟨_, (pss_cons (ps_if (pt_cmpR op_gt (pe_ix ix_list (pv 0) pe_int (fun _ _ => rfl)) pe_int (nomark _))
  (pss_cons (ps_set (i := 2) sc__law_draw.nd rfl (.inl rfl) (pe_op op_mod (pe_callTy Z.c_int (by rfl) T.z_int (by decide +kernel) (pa_cons (pe_ix ix_list (pv 0) pe_int (fun _ _ => rfl)) pa_nil)) (pv 1)))
  (pss_cons (ps_asg (pe_op op_fdivW (pe_ix ix_list (pv 0) pe_int (fun _ _ => rfl)) (pv 1)) (pg_sub (pv 0) pe_int set_list))
  (pss_one (ps_ret (pv 2)))))
  pss_nil)
  (pss_cons (ps_asg (pe_op op_add (pe_ix ix_list (pv 0) pe_int (fun _ _ => rfl)) pe_int) (pg_sub (pv 0) pe_int set_list))
  (pss_cons (ps_set (i := 3) sc__law_draw.nd rfl (.inl rfl) (pe_op op_mod (pe_callTy Z.c_int (by rfl) T.z_int (by decide +kernel) (pa_cons (pe_op op_add (pe_op op_mul (pe_op op_add (pe_ix ix_list (pv 0) pe_int (fun _ _ => rfl)) pe_int) pe_int) (pe_op op_mul (pe_ix ix_list (pv 0) pe_int (fun _ _ => rfl)) pe_int)) pa_nil)) pe_int))
  (pss_cons (ps_set (i := 3) sc__law_draw.nd rfl (.inl rfl) (pe_op op_mod (pe_callTy Z.c_int (by rfl) T.z_int (by decide +kernel) (pa_cons (pe_op op_add (pe_op op_mulW (pv 3) (pv 3)) (pe_op op_mul (pe_ix ix_list (pv 0) pe_int (fun _ _ => rfl)) pe_int)) pa_nil)) pe_int))
  (pss_cons (ps_set (i := 3) sc__law_draw.nd rfl (.inl rfl) (pe_op op_mod (pe_callTy Z.c_int (by rfl) T.z_int (by decide +kernel) (pa_cons (pe_op op_add (pe_op op_mulW (pv 3) (pv 3)) (pe_op op_mul (pe_ix ix_list (pv 0) pe_int (fun _ _ => rfl)) pe_int)) pa_nil)) pe_int))
  (pss_one (ps_ret (pe_op op_mod (pe_callTy Z.c_int (by rfl) T.z_int (by decide +kernel) (pa_cons (pv 3) pa_nil)) (pv 1))))))))), ?_⟩
  walk_at "z"
  refine z_if (fun hj => ?_) (fun _ => ?_)
  · walk_at "z"
    refine z_I (wide_div hz hz2 (by decide) (by decide)) ?_
    walk_at "z"
    refine z_setL hp rfl ?_
    walk_at "z"
    exact q _ _ _ _ (Int.emod_nonneg _ (by omega)) (Int.emod_lt_of_pos _ hz)
  · walk_at "z"
    refine z_setL hp rfl ?_
    have hp1 : (upd H p (HO.lst ([V.int a, V.int b, V.int m].set (Int.toNat 1) (V.int (b + 1))))) p = some (.lst [V.int a, V.int (b + 1), V.int m]) := upd_same
    walk_at "z"
    refine z_I ?_ ?_
    · exact wide_mul (a := 32) (b := 32) (by omega) (by omega) (by decide) (by decide) (by decide)
    walk_at "z"
    refine z_I ?_ ?_
    · exact wide_mul (a := 32) (b := 32) (by omega) (by omega) (by decide) (by decide) (by decide)
    walk_at "z"
    exact q _ _ _ _ (Int.emod_nonneg _ (by omega)) (Int.emod_lt_of_pos _ hz)
end
def sp__law_is_integer : Sp := fun vs H Q _ => ∃ i, vs = [.int i] ∧ Q (.bl true) H
section
theorem ok__law_is_integer {P : Program} {w : World} {K : PySem.W.Frag} {mg : Str → Option Value} {base : Heap} {A : Nat → Addr} {D : Nat → FuncData} (T : Txt K mg A D) : FnOk P w K mg base (L2.CX P w) 1 (A 6) (D 6) ["actual"] sp__law_is_integer := by
  refine T.F__law_is_integer.okX sc__law_is_integer (fun vs H Q E h => ?_) (fun cdv A' outer s H vs Q E hr h => ?_)
  · obtain ⟨i, rfl, _⟩ := h
    rfl
  obtain ⟨i, rfl, q⟩ := h
  refine ⟨_, (pss_one (ps_ret (pe_and (pe_callB call_isi (by rfl) T.z_isinstance (by decide +kernel) (pa_cons (pv 0) (pa_cons (pe_bltn (v := .ty "int") (by rfl) T.z_int (by decide +kernel) rfl) pa_nil))) (pe_one (pe_not (pe_callB call_isi (by rfl) T.z_isinstance (by decide +kernel) (pa_cons (pv 0) (pa_cons (pe_bltn (v := .ty "bool") (by rfl) T.z_bool (by decide +kernel) rfl) pa_nil)))))))), ?_⟩
  walk_at "z"
  exact q
end
theorem isI {i : Int} {H : Hp} {Q : VK} {E : XK} (q : Q (.bl true) H) : sp__law_is_integer [.int i] H Q E := ⟨i, rfl, q⟩
local macro_rules | `(tactic| walk_at "z1") => `(tactic| with_reducible refine isI ?_)

/-! ### numbers in lowest terms -/
theorem gd_pos {n d : Int} (h : d ≠ 0) : 0 < gd n d := by
  unfold gd
  have : 0 < Nat.gcd n.natAbs d.natAbs := Nat.gcd_pos_of_pos_right _ (by omega)
  omega
theorem gd_dvd_l (n d : Int) : gd n d ∣ n := by
  unfold gd
  exact Int.dvd_trans (Int.natCast_dvd_natCast.mpr (Nat.gcd_dvd_left _ _)) (Int.natAbs_dvd_self)
theorem gd_dvd_r (n d : Int) : gd n d ∣ d := by
  unfold gd
  exact Int.dvd_trans (Int.natCast_dvd_natCast.mpr (Nat.gcd_dvd_right _ _)) (Int.natAbs_dvd_self)
theorem rd_pos {n d : Int} (h : d ≠ 0) : 0 < rd n d := by
  have g := gd_pos (n := n) h
  obtain ⟨k, hk⟩ := gd_dvd_r n d
  unfold rd
  split
  · rename_i hd
    have e : -d = gd n d * (-k) := by rw [Int.mul_neg, ← hk]
    rw [e, Int.mul_ediv_cancel_left _ (by omega)]
    have : ¬ 0 ≤ k := fun z => by have := Int.mul_nonneg (Int.le_of_lt g) z; omega
    omega
  · rename_i hd
    have e : d / gd n d = k := Int.ediv_eq_of_eq_mul_right (by omega) hk
    rw [e]
    have : ¬ k ≤ 0 := fun z => by have := Int.mul_nonpos_of_nonneg_of_nonpos (Int.le_of_lt g) z; omega
    omega
/-- what the program divides: by the negative of the common divisor where d is negative -/
theorem fdiv_neg {n g : Int} (hg : 0 < g) (h : g ∣ n) : Int.fdiv n (-g) = -n / g := by
  obtain ⟨k, rfl⟩ := h
  rw [show g * k = (-g) * (-k) by rw [Int.neg_mul_neg], Int.mul_fdiv_cancel_left _ (by omega), Int.neg_mul_neg, show -(g * k) = g * (-k) by rw [Int.mul_neg], Int.mul_ediv_cancel_left _ (by omega)]
theorem fdiv_pos {n g : Int} (hg : 0 < g) : Int.fdiv n g = n / g := Int.fdiv_eq_ediv_of_nonneg _ (by omega)
theorem gd_log {n d : Int} {k : Nat} (h : d ≠ 0) (hd : d.natAbs < 2 ^ k) : (gd n d).natAbs < 2 ^ k := by
  have : Nat.gcd n.natAbs d.natAbs ≤ d.natAbs := Nat.gcd_le_right _ (by omega)
  unfold gd
  omega
theorem cfd {j : Int} (h : j ≠ 0) (hj : j.natAbs < 2 ^ 1000) : CFd 0 j := ⟨h, Nat.lt_of_lt_of_le (PySem.Flt.log2_lt_of (by decide) hj) (by decide)⟩
theorem lt4 {a : Nat} (h : a < 2 ^ 400) : a < 2 ^ 1000 := Nat.lt_of_lt_of_le h (Nat.pow_le_pow_right (by decide) (by decide))
theorem lt1000 {a : Nat} (h : a < 2 ^ 100) : a < 2 ^ 1000 := Nat.lt_of_lt_of_le h (Nat.pow_le_pow_right (by decide) (by decide))



/-! ### the draws of a law: the heap H0 stands, a stream stands at p -/
structure Sd (H0 H : Hp) (p : Addr) : Prop where
  same : Same H0 H
  fresh : H0 p = none
  stm : IsStm H p
theorem Sd.mk0 {H H' : Hp} {p : Addr} {a b m : Int} (h : H p = none) (s : Same H H') (e : H' p = some (.lst [.int a, .int b, .int m])) : Sd H H' p := ⟨s, h, a, b, m, e⟩
theorem Sd.mono {H0 H H' : Hp} {p : Addr} (S : Sd H0 H p) (s : Same H H') : Sd H0 H' p := by
  obtain ⟨a, b, m, e⟩ := S.stm
  exact ⟨S.same.trans s, S.fresh, a, b, m, s _ _ e⟩
theorem nx {H0 H : Hp} {p : Addr} {z : Int} {Q : VK} {E : XK} (S : Sd H0 H p) (hz : 0 < z) (hz2 : z.natAbs < 2 ^ 1000) (q : ∀ v H', 0 ≤ v → v < z → Sd H0 H' p → (∀ b, b ≠ p → H' b = H b) → Q (.int v) H') : sp__law_draw [.ref p, .int z] H Q E := by
  refine ⟨p, z, rfl, S.stm, hz, hz2, fun v a b m h0 h1 => q v _ h0 h1 ⟨fun c o e => ?_, S.fresh, a, b, m, upd_same⟩ fun b hb => upd_ne hb⟩
  rw [upd_ne (ne_of_none e S.fresh)]
  exact S.same c o e
theorem Sd.ext {H0 H : Hp} {p q : Addr} {o : HO} (S : Sd H0 H p) (h : H q = none) : Sd H0 (upd H q o) p := by
  obtain ⟨a, b, m, hp⟩ := S.stm
  exact ⟨S.same.trans (same_upd h), S.fresh, a, b, m, by rw [upd_ne (ne_of_none hp h)]; exact hp⟩
theorem kp_refl {p : Addr} {H : Hp} : Kp p H H := fun _ _ _ e => e
theorem _root_.Z.Kp.trans' {p : Addr} {H H1 H2 : Hp} (a : Kp p H H1) (b : Kp p H1 H2) : Kp p H H2 := fun c o h e => b c o h (a c o h e)
theorem kp_eq {p : Addr} {H H' : Hp} (k : ∀ b, b ≠ p → H' b = H b) : Kp p H H' := fun b o h e => by
  rw [k b h]
  exact e
theorem kp_of {p : Addr} {H H' : Hp} (s : Same H H') : Kp p H H' := fun b x _ e => s b x e
theorem Sd.ne {H0 H : Hp} {p q : Addr} {xs : List V} (S : Sd H0 H p) (h : H q = some (.tup xs)) : q ≠ p := by
  obtain ⟨_, _, _, e⟩ := S.stm
  exact ne_of h e (by intro z; cases z)
theorem Sd.ne0 {H0 H : Hp} {p q : Addr} (S : Sd H0 H p) (h : H q = none) : q ≠ p := by
  obtain ⟨_, _, _, e⟩ := S.stm
  exact Ne.symm (ne_of_none e h)
theorem lt400 {a : Nat} (h : a < 2 ^ 100) : a < 2 ^ 400 := Nat.lt_of_lt_of_le h (Nat.pow_le_pow_right (by decide) (by decide))
theorem kp_sd {H0 H H' : Hp} {p : Addr} {K : PySem.W.Frag} {v : V} {d : PyData} (S : Sd H0 H p) (k : Kp p H H') (t : tupOnly d = true) (h : Dp K H v d) : Dp K H' v d := by
  obtain ⟨a, b, m, e⟩ := S.stm
  exact dp_kp k e t h
/-! ### the four operations, and comparing -/






/-! ### [draw(stream, z) for k in range(m)] -/
theorem z_draws {H0 H : Hp} {p : Addr} {z : Int} {m k : Nat} {vs : List Nat} {te : TE} {σ : L2.St} {Q : VK} {v : Int} (S : Sd H0 H p) (hv : v = (m : Int)) (hm : m ≤ 500) (hz : 0 < z) (hz2 : z.natAbs < 2 ^ 1000) (hw : ∀ x, wipe ((wipe σ vs).set k (some x)) vs = wipe σ vs)
    (hte : ∀ (i : Nat) (H' : Hp) (R : VK), (∀ E, sp__law_draw [.ref p, .int z] H' R E) → te ((wipe σ vs).set k (some (.int (i : Int)))) H' R)
    (q : ∀ (D : Addr) (H' : Hp) (ns : List Int), H D = none → D ≠ p → Sd H0 H' p → Kp p H H' → H' D = some (.lst (ns.map V.int)) → ns.length = m → (∀ x ∈ ns, 0 ≤ x ∧ x < z) → Q (.ref D) H') : LcRE (gName k) tYes te vs σ Q [.int v] H := by
  subst hv
  refine z_lcRr m (by omega) hw (fun i D acc H' => Sd H0 H' p ∧ Kp p H H' ∧ D ≠ p ∧ H D = none ∧ ∃ ns : List Int, acc = ns.map V.int ∧ ∀ x ∈ ns, 0 ≤ x ∧ x < z)
    (fun D H' f s e => ⟨S.mono s, kp_of s, S.ne0 f, f, [], rfl, fun x hx => nomatch hx⟩) (fun i D acc H' hi hl hD ⟨S', k', ne, f, ns, ea, hb⟩ => ?_)
    (fun D acc H' f hl hD ⟨S', k', ne, _, ns, ea, hb⟩ => q D H' ns f ne S' k' (by rw [hD, ea]) (by rw [← hl, ea, List.length_map]) hb)
  refine hte i H' _ fun E => nx S' hz hz2 fun x H2 x0 x1 S2 e2 => ?_
  have hD2 : H2 D = some (.lst acc) := (e2 D ne).trans hD
  refine z_lcB hD2 hl (by omega) fun H3 hD3 k3 e3 => ⟨?_, ?_, ne, f, ns ++ [x], by rw [ea, List.map_append]; rfl, fun y hy => ?_⟩
  · obtain ⟨a, b, c, st⟩ := S2.stm
    refine ⟨fun b o h => ?_, S2.fresh, a, b, c, by rw [e3 p ne.symm]; exact st⟩
    have hne : b ≠ D := fun z => by
      have h1 := S.same _ _ h
      rw [z, f] at h1
      cases h1
    rw [e3 b hne]
    exact S2.same _ _ h
  · intro b o hb h
    have hne : b ≠ D := fun z => by
      rw [z, f] at h
      cases h
    rw [e3 b hne, e2 b hb]
    exact k' b o hb h
  · rcases List.mem_append.mp hy with h | h
    · exact hb y h
    · rw [List.mem_singleton.mp h]
      exact ⟨x0, x1⟩
theorem Sd.put {H0 H : Hp} {p l : Addr} {o : HO} (S : Sd H0 H p) (h : H0 l = none) (ne : l ≠ p) : Sd H0 (upd H l o) p := by
  obtain ⟨a, b, c, e⟩ := S.stm
  exact ⟨fun x y h' => by rw [upd_ne (ne_of_none h' h)]; exact S.same _ _ h', S.fresh, a, b, c, by rw [upd_ne ne.symm]; exact e⟩
theorem kp_put {p l : Addr} {H H' : Hp} {o : HO} (k : Kp p H H') (h : H l = none) : Kp p H (upd H' l o) := fun b x hb e => by
  rw [upd_ne (ne_of_none e h)]
  exact k b x hb e
theorem kp_none {p a : Addr} {H H' : Hp} (k : Kp p H H') (h : H' a = none) (ne : a ≠ p) : H a = none := by
  cases z : H a with
  | none => rfl
  | some o =>
    have := k _ _ ne z
    rw [h] at this
    cases this
theorem Sd.none0 {H0 H : Hp} {p l : Addr} (S : Sd H0 H p) (h : H l = none) : H0 l = none := by
  cases z : H0 l with
  | none => rfl
  | some o =>
    have := S.same _ _ z
    rw [h] at this
    cases this
/-! ### grid points -/
abbrev GP := Int × Int
def gD (z : GP) : PyData := .tuple [.int z.1, .int z.2]
/-- both parts within N -/
def Gb (N : Nat) (z : GP) : Prop := z.1.natAbs ≤ N ∧ z.2.natAbs ≤ N
theorem Gb.le {N M : Nat} {z : GP} (h : Gb N z) (l : N ≤ M) : Gb M z := ⟨Nat.le_trans h.1 l, Nat.le_trans h.2 l⟩
theorem dp_g {K : PySem.W.Frag} {H : Hp} {v : V} {z : GP} (h : Dp K H v (gD z)) : ∃ p, v = .ref p ∧ SqT K H p [.int z.1, .int z.2] := by
  obtain ⟨p, v1, v2, e, hS, h1, h2⟩ := dp_t2 h
  rw [dp_int h1, dp_int h2] at hS
  exact ⟨p, e, hS⟩
theorem dp_mkg {K : PySem.W.Frag} {H : Hp} {p : Addr} {x y : Int} (h : H p = some (.tup [.int x, .int y])) : Dp K H (.ref p) (gD (x, y)) := dp_mk h (.cons (.int _) (.cons (.int _) .nil))
theorem dp_seqg {K : PySem.W.Frag} {H : Hp} {p : Addr} {x y : Int} (h : SqT K H p [.int x, .int y]) : Dp K H (.ref p) (gD (x, y)) := .tup h (.cons (.int _) (.cons (.int _) .nil))
/-- values that stand for grid points -/
def Gs (K : PySem.W.Frag) (H : Hp) : List V → List GP → Prop
  | [], [] => True
  | v :: vs, z :: zs => Dp K H v (gD z) ∧ Gs K H vs zs
  | _, _ => False
section
variable {K : PySem.W.Frag} {H H' : Hp}
theorem Gs.len : ∀ {vs : List V} {zs : List GP}, Gs K H vs zs → vs.length = zs.length
  | [], [], _ => rfl
  | _ :: _, _ :: _, h => congrArg (· + 1) (Gs.len h.2)
theorem Gs.mono (s : Same H H') : ∀ {vs : List V} {zs : List GP}, Gs K H vs zs → Gs K H' vs zs
  | [], [], _ => trivial
  | _ :: _, _ :: _, h => ⟨dp_mono s h.1, Gs.mono s h.2⟩
theorem Gs.kp {p : Addr} {xs : List V} (k : Kp p H H') (hp : H p = some (.lst xs)) : ∀ {vs : List V} {zs : List GP}, Gs K H vs zs → Gs K H' vs zs
  | [], [], _ => trivial
  | _ :: _, _ :: _, h => ⟨dp_kp k hp rfl h.1, Gs.kp k hp h.2⟩
theorem Gs.app : ∀ {vs ws : List V} {zs us : List GP}, Gs K H vs zs → Gs K H ws us → Gs K H (vs ++ ws) (zs ++ us)
  | [], _, [], _, _, k => k
  | _ :: _, _, _ :: _, _, h, k => ⟨h.1, Gs.app h.2 k⟩
theorem Gs.get {vs : List V} {zs : List GP} {i : Nat} {z : GP} (h : Gs K H vs zs) (e : zs[i]? = some z) : ∃ v, vs[i]? = some v ∧ Dp K H v (gD z) := by
  induction vs generalizing zs i with
  | nil =>
    cases zs with
    | nil => simp at e
    | cons => exact h.elim
  | cons w ws ih =>
    cases zs with
    | nil => exact h.elim
    | cons u us =>
      cases i with
      | zero =>
        cases e
        exact ⟨w, rfl, h.1⟩
      | succ i => exact ih h.2 (by simpa using e)
theorem Gs.getv {vs : List V} {zs : List GP} {i : Nat} {v : V} (h : Gs K H vs zs) (e : vs[i]? = some v) : ∃ z, zs[i]? = some z ∧ Dp K H v (gD z) := by
  have hi : i < vs.length := (List.getElem?_eq_some_iff.mp e).1
  obtain ⟨w, hw, d⟩ := h.get (z := zs[i]'(by rw [← h.len]; exact hi)) (List.getElem?_eq_getElem _)
  rw [e] at hw
  cases hw
  exact ⟨_, List.getElem?_eq_getElem _, d⟩
theorem Gs.data : ∀ {vs : List V} {zs : List GP}, Gs K H vs zs → DpAll K H vs (zs.map gD)
  | [], [], _ => .nil
  | _ :: _, _ :: _, h => .cons h.1 (Gs.data h.2)
theorem gs_nil : Gs K H [] [] := trivial
theorem gs_one {v : V} {z : GP} (h : Dp K H v (gD z)) : Gs K H [v] [z] := ⟨h, trivial⟩
end
theorem nat_idx {xs : List V} {k : Nat} {v : V} (h : xs[k]? = some v) : atI xs (k : Int) = some v := atI_nat h
theorem idx_nat {xs : List V} {j : Int} (h0 : 0 ≤ j) (h1 : j < (xs.length : Int)) : ∃ v, xs[j.toNat]? = some v ∧ atI xs j = some v := by
  have hl : j.toNat < xs.length := by omega
  obtain ⟨v, hv⟩ : ∃ v, xs[j.toNat]? = some v := ⟨_, List.getElem?_eq_getElem hl⟩
  refine ⟨v, hv, ?_⟩
  have := nat_idx hv
  rwa [Int.toNat_of_nonneg h0] at this
/-- all but p -/
def hide (p : Addr) (H : Hp) : Hp := fun b => if b = p then none else H b
theorem same_hide {p : Addr} {H : Hp} : Same (hide p H) H := fun b o e => by
  unfold hide at e
  split at e
  · cases e
  · exact e
theorem hide_at {p b : Addr} {H : Hp} (h : b ≠ p) : hide p H b = H b := if_neg h
theorem Sd.hid {H0 H : Hp} {p : Addr} (S : Sd H0 H p) : Sd (hide p H) H p := ⟨same_hide, if_pos rfl, S.stm⟩
/-! ### crossings -/
def left (a b : GP) (x y : Int) : Prop := (b.1 - a.1) * (y - a.2) ≤ (x - a.1) * (b.2 - a.2)
instance {a b : GP} {x y : Int} : Decidable (left a b x y) := by unfold left; infer_instance
def crs (a b : GP) (x y : Int) : Int := if a.2 ≤ y ∧ y < b.2 ∧ left a b x y then -1 else if b.2 ≤ y ∧ y < a.2 ∧ left b a x y then 1 else 0
/-- a grid point within 10 ^ 13 -/
abbrev Gm (z : GP) : Prop := Gb 10000000000000 z
theorem gm_sub {a b : Int} (h : a.natAbs ≤ 10000000000000) (k : b.natAbs ≤ 10000000000000) : (a - b).natAbs < 2 ^ 60 := Nat.lt_of_le_of_lt (show (a - b).natAbs ≤ 20000000000000 by omega) (by decide)
theorem gm_mul {a b : Int} (h : a.natAbs < 2 ^ 60) (k : b.natAbs < 2 ^ 60) : CMulW a b := wide_mul h k (by decide) (by decide) (by decide)

theorem nep' {Ha Hb : Hp} {p q : Addr} (h : Hb q = none) (S : Sd Ha Hb p) : q ≠ p := fun z => by
  obtain ⟨_, _, _, e⟩ := S.stm
  rw [← z, h] at e
  cases e
theorem shaped_g (z : GP) : SeqAt.shaped (gD z) = true := rfl
theorem dp_gs {K : PySem.W.Frag} {H : Hp} {p : Addr} {ws : List V} {zs : List GP} (h : H p = some (.lst ws)) (g : Gs K H ws zs) : Dp K H (.ref p) (.list (zs.map gD)) := .lst (.inl (.inl h)) g.data
theorem shaped_gs (zs : List GP) : SeqAt.shaped (.list (zs.map gD)) = true := by
  have h1 : PyData.canLayAll0 (zs.map gD) = true := by
    induction zs with
    | nil => rfl
    | cons z zs ih =>
      show (PyData.canLay0 (gD z) && PyData.canLayAll0 (zs.map gD)) = true
      rw [ih]
      rfl
  have h2 : PyData.depthAll (zs.map gD) ≤ 1 := by
    induction zs with
    | nil => exact Nat.zero_le 1
    | cons z zs ih =>
      have h1' : PyData.canLayAll0 (zs.map gD) = true := by
        have h1 : (PyData.canLay0 (gD z) && PyData.canLayAll0 (zs.map gD)) = true := h1
        exact ((Bool.and_eq_true _ _).mp h1).2
      have := ih h1'
      show max (PyData.depth (gD z)) (PyData.depthAll (zs.map gD)) ≤ 1
      have e : PyData.depth (gD z) = 1 := rfl
      omega
  unfold SeqAt.shaped
  rw [Bool.and_eq_true]
  refine ⟨h1, decide_eq_true ?_⟩
  show PyData.depthAll (zs.map gD) + 1 ≤ 64
  omega
section
variable {K : PySem.W.Frag} {H : Hp}
theorem Gs.take : ∀ {vs : List V} {zs : List GP} (n : Nat), Gs K H vs zs → Gs K H (vs.take n) (zs.take n)
  | _, _, 0, _ => trivial
  | [], [], _ + 1, _ => trivial
  | _ :: _, _ :: _, n + 1, h => ⟨h.1, Gs.take n h.2⟩
theorem Gs.drop : ∀ {vs : List V} {zs : List GP} (n : Nat), Gs K H vs zs → Gs K H (vs.drop n) (zs.drop n)
  | _, _, 0, h => h
  | [], [], _ + 1, _ => trivial
  | _ :: _, _ :: _, n + 1, h => Gs.drop n h.2
theorem Gs.rev : ∀ {vs : List V} {zs : List GP}, Gs K H vs zs → Gs K H vs.reverse zs.reverse
  | [], [], _ => trivial
  | _ :: _, _ :: _, h => by
    rw [List.reverse_cons, List.reverse_cons]
    exact (Gs.rev h.2).app (gs_one h.1)
end
theorem cut_to {xs : List V} {k : Nat} (h : k ≤ xs.length) : cutV xs none (some (k : Int)) = xs.take k := by
  unfold cutV
  rw [HT.sIx_nat, HT.sIx_none, Nat.min_eq_left h]
  rfl
theorem cut_from {xs : List V} {k : Nat} (h : k ≤ xs.length) : cutV xs (some (k : Int)) none = xs.drop k := by
  unfold cutV
  rw [HT.sIx_nat, HT.sIx_none, Nat.min_eq_left h, List.take_of_length_le (by rw [List.length_drop]; omega)]
theorem cut_mid {xs : List V} {j k : Nat} (hj : j ≤ xs.length) (h : k ≤ xs.length) : cutV xs (some (j : Int)) (some (k : Int)) = (xs.drop j).take (k - j) := by
  unfold cutV
  rw [HT.sIx_nat, HT.sIx_nat, Nat.min_eq_left h, Nat.min_eq_left hj]
/-! ### convex hulls: directions, turns, chains -/
def d2 (a b : GP) : GP := (b.1 - a.1, b.2 - a.2)
def cr (u v : GP) : Int := u.1 * v.2 - u.2 * v.1
def ori (a b c : GP) : Int := (b.1 - a.1) * (c.2 - b.2) - (b.2 - a.2) * (c.1 - b.1)
/-- by the height, then by the position -/
def lx (a b : GP) : Prop := a.2 < b.2 ∨ (a.2 = b.2 ∧ a.1 < b.1)
instance (a b : GP) : Decidable (lx a b) := inferInstanceAs (Decidable (_ ∨ _))
def hp (u : GP) : Prop := 0 < u.2 ∨ (u.2 = 0 ∧ 0 < u.1)
theorem lx_hp {a b : GP} (h : lx a b) : hp (d2 a b) := by
  rcases h with h | ⟨h1, h2⟩
  · exact .inl (show 0 < b.2 - a.2 by omega)
  · exact .inr ⟨show b.2 - a.2 = 0 by omega, show 0 < b.1 - a.1 by omega⟩
theorem lx_trans {a b c : GP} (h : lx a b) (k : lx b c) : lx a c := by
  unfold lx at *
  omega
theorem lx_irr {a : GP} (h : lx a a) : False := by
  unfold lx at h
  omega
theorem lx_tri (a b : GP) : lx a b ∨ a = b ∨ lx b a := by
  unfold lx
  rcases Int.lt_trichotomy a.2 b.2 with h | h | h
  · exact .inl (.inl h)
  · rcases Int.lt_trichotomy a.1 b.1 with k | k | k
    · exact .inl (.inr ⟨h, k⟩)
    · exact .inr (.inl (Prod.ext k h))
    · exact .inr (.inr (.inr ⟨h.symm, k⟩))
  · exact .inr (.inr (.inl h))
theorem ori_cr (a b c : GP) : ori a b c = cr (d2 a b) (d2 b c) := rfl
theorem ori_cr2 (a b c : GP) : ori a b c = cr (d2 a b) (d2 a c) := by
  unfold ori cr d2
  grind
theorem ori_cr3 (a b c : GP) : ori a b c = cr (d2 c b) (d2 a b) := by
  unfold ori cr d2
  grind
theorem cr_anti (u v : GP) : cr v u = - cr u v := by
  unfold cr
  grind
theorem ori_add (a b c p : GP) : ori a b p = ori a b c + cr (d2 a b) (d2 c p) := by
  unfold ori cr d2
  grind
theorem cr_id2 (u v w : GP) : v.2 * cr u w = w.2 * cr u v + u.2 * cr v w := by
  unfold cr
  grind
theorem pos_of {a b : Int} (ha : 0 < a) (h : 0 ≤ a * b) : 0 ≤ b := by
  rcases Int.lt_or_le b 0 with z | z
  · have := Int.mul_neg_of_pos_of_neg ha z
    omega
  · exact z
theorem pos_of' {a b : Int} (ha : 0 < a) (h : 0 < a * b) : 0 < b := by
  rcases Int.lt_or_le 0 b with z | z
  · exact z
  · have := Int.mul_nonpos_of_nonneg_of_nonpos (Int.le_of_lt ha) z
    omega
theorem hp_w {v w : GP} (hv : hp v) (hw : hp w) (h : 0 ≤ cr v w) (k : 0 < v.2) : 0 < w.2 := by
  rcases hw with z | ⟨z1, z2⟩
  · exact z
  · unfold cr at h
    rw [z1, Int.mul_zero] at h
    have := Int.mul_pos k z2
    omega
theorem hp_flat {u v : GP} (hu : hp u) (hv : hp v) (h : 0 ≤ cr u v) (k : v.2 = 0) : u.2 = 0 ∧ 0 < u.1 ∧ 0 < v.1 := by
  have v1 : 0 < v.1 := by
    rcases hv with z | z
    · omega
    · exact z.2
  rcases hu with z | z
  · unfold cr at h
    rw [k, Int.mul_zero] at h
    have := Int.mul_pos z v1
    omega
  · exact ⟨z.1, z.2, v1⟩
theorem hp_up {v : GP} (h : hp v) : 0 ≤ v.2 := by
  rcases h with z | z <;> omega
/-- angles below a half turn are compared transitively -/
theorem cr_tr {u v w : GP} (hu : hp u) (hv : hp v) (hw : hp w) (h : 0 ≤ cr u v) (k : 0 ≤ cr v w) : 0 ≤ cr u w := by
  by_cases c : 0 < v.2
  · refine pos_of c ?_
    rw [cr_id2]
    have := Int.mul_nonneg (hp_up hw) h
    have := Int.mul_nonneg (hp_up hu) k
    omega
  · have c0 : v.2 = 0 := by have := hp_up hv; omega
    obtain ⟨u2, u1, v1⟩ := hp_flat hu hv h c0
    unfold cr
    rw [u2, Int.zero_mul, Int.sub_zero]
    exact Int.mul_nonneg (Int.le_of_lt u1) (hp_up hw)
theorem cr_tr1 {u v w : GP} (hu : hp u) (hv : hp v) (hw : hp w) (h : 0 < cr u v) (k : 0 ≤ cr v w) : 0 < cr u w := by
  by_cases c : 0 < v.2
  · refine pos_of' c ?_
    rw [cr_id2]
    have := Int.mul_pos (hp_w hv hw k c) h
    have := Int.mul_nonneg (hp_up hu) k
    omega
  · have c0 : v.2 = 0 := by have := hp_up hv; omega
    obtain ⟨u2, u1, v1⟩ := hp_flat hu hv (Int.le_of_lt h) c0
    unfold cr at h
    rw [u2, c0] at h
    omega
theorem cr_tr2 {u v w : GP} (hu : hp u) (hv : hp v) (hw : hp w) (h : 0 ≤ cr u v) (k : 0 < cr v w) : 0 < cr u w := by
  by_cases c : 0 < v.2
  · have w2 := hp_w hv hw (Int.le_of_lt k) c
    by_cases cu : 0 < u.2
    · refine pos_of' c ?_
      rw [cr_id2]
      have := Int.mul_nonneg (hp_up hw) h
      have := Int.mul_pos cu k
      omega
    · have u2 : u.2 = 0 := by have := hp_up hu; omega
      have u1 : 0 < u.1 := by
        rcases hu with z | z
        · omega
        · exact z.2
      unfold cr
      rw [u2, Int.zero_mul, Int.sub_zero]
      exact Int.mul_pos u1 w2
  · have c0 : v.2 = 0 := by have := hp_up hv; omega
    obtain ⟨u2, u1, v1⟩ := hp_flat hu hv h c0
    have w2 : 0 < w.2 := by
      unfold cr at k
      rw [c0, Int.zero_mul, Int.sub_zero] at k
      exact pos_of' v1 k
    unfold cr
    rw [u2, Int.zero_mul, Int.sub_zero]
    exact Int.mul_pos u1 w2
/-- a chain, its last point first: it goes up, and turns left strictly -/
def Conv : List GP → Prop
  | c :: b :: a :: r => lx b c ∧ 0 < ori a b c ∧ Conv (b :: a :: r)
  | [c, b] => lx b c
  | _ => True
/-- q is on the left of each line of the chain, or on it -/
def LA (q : GP) : List GP → Prop
  | c :: b :: r => 0 ≤ ori b c q ∧ LA q (b :: r)
  | _ => True
def bot : GP → List GP → GP
  | c, [] => c
  | _, b :: r => bot b r
theorem Conv.tail {c b : GP} {r : List GP} (h : Conv (c :: b :: r)) : lx b c ∧ Conv (b :: r) := by
  cases r with
  | nil => exact ⟨h, trivial⟩
  | cons a r => exact ⟨h.1, h.2.2⟩
theorem Conv.turn {c b a : GP} {r : List GP} (h : Conv (c :: b :: a :: r)) : 0 < ori a b c := h.2.1
theorem Conv.bot : ∀ {r : List GP} {c : GP}, Conv (c :: r) → ∀ x ∈ c :: r, x = bot c r ∨ lx (bot c r) x
  | [], c, _, x, hx => .inl (List.mem_singleton.mp hx)
  | b :: r, c, h, x, hx => by
    obtain ⟨h1, h2⟩ := h.tail
    have ih := Conv.bot h2
    rcases List.mem_cons.mp hx with rfl | hx
    · rcases ih b (.head _) with e | e
      · exact .inr (by rw [show G.bot x (b :: r) = b from e.symm]; exact h1)
      · exact .inr (lx_trans e h1)
    · exact ih x hx
theorem Conv.le : ∀ {r : List GP} {c : GP}, Conv (c :: r) → ∀ x ∈ r, lx x c
  | b :: r, c, h, x, hx => by
    obtain ⟨h1, h2⟩ := h.tail
    rcases List.mem_cons.mp hx with rfl | hx
    · exact h1
    · exact lx_trans (Conv.le h2 x hx) h1
theorem bot_mem : ∀ (r : List GP) (c : GP), bot c r ∈ c :: r
  | [], c => .head _
  | b :: r, c => .tail _ (bot_mem r b)
theorem LA.tail {q c b : GP} {r : List GP} (h : LA q (c :: b :: r)) : LA q (b :: r) := h.2
theorem LA.of_edge {q : GP} {r : List GP} {c : GP} (h : LA q (c :: r)) : LA q r := by
  cases r with
  | nil => trivial
  | cons b r => exact h.2
def popB : List GP → GP → List GP
  | b :: a :: r, p => if 0 < ori a b p then b :: a :: r else popB (a :: r) p
  | st, _ => st
/-- what holds when the popping ends -/
structure Popped (P : List GP) (p : GP) (c0 : GP) (r0 : List GP) (c : GP) (r : List GP) : Prop where
  conv : Conv (c :: r)
  la : ∀ q ∈ P, LA q (c :: r)
  bot : bot c r = bot c0 r0
  sub : ∀ x ∈ c :: r, x ∈ c0 :: r0
  inv : ∀ q ∈ P, lx c q → 0 ≤ cr (d2 c p) (d2 c q)
  stop : ∀ a ∈ r.head?, 0 < ori a c p
theorem pop_ok {P : List GP} {p : GP} : ∀ (r0 : List GP) (c0 : GP), Conv (c0 :: r0) → (∀ q ∈ P, LA q (c0 :: r0)) → (∀ x ∈ c0 :: r0, lx x p) → (∀ q ∈ P, lx c0 q → 0 ≤ cr (d2 c0 p) (d2 c0 q)) → ∃ c r, popB (c0 :: r0) p = c :: r ∧ Popped P p c0 r0 c r
  | [], c0, h1, h2, h3, h4 => ⟨c0, [], rfl, h1, h2, rfl, fun x hx => hx, h4, fun a ha => by cases ha⟩
  | a :: r0, b, h1, h2, h3, h4 => by
    by_cases k : 0 < ori a b p
    · exact ⟨b, a :: r0, if_pos k, h1, h2, rfl, fun x hx => hx, h4, fun x hx => by cases hx; exact k⟩
    · obtain ⟨l1, l2⟩ := h1.tail
      have lap := h3 a (.tail _ (.head _))
      obtain ⟨c, r, e, z⟩ := pop_ok (P := P) (p := p) r0 a l2 (fun q hq => (h2 q hq).2) (fun x hx => h3 x (.tail _ hx)) fun q hq hl => by
        have k1 : 0 ≤ cr (d2 a p) (d2 a b) := by
          rw [ori_cr2] at k
          rw [cr_anti]
          omega
        have k2 := (h2 q hq).1
        rw [ori_cr2] at k2
        exact cr_tr (lx_hp lap) (lx_hp l1) (lx_hp hl) k1 k2
      refine ⟨c, r, ?_, z.conv, z.la, z.bot, fun x hx => .tail _ (z.sub x hx), z.inv, z.stop⟩
      show (if 0 < ori a b p then _ else popB (a :: r0) p) = _
      rw [if_neg k]
      exact e
theorem la_new {p : GP} : ∀ (r : List GP) (c : GP), Conv (c :: r) → lx c p → (∀ a ∈ r.head?, 0 < ori a c p) → LA p (c :: r)
  | [], c, _, _, _ => trivial
  | [a], c, h, hp', h1 => ⟨Int.le_of_lt (h1 a rfl), trivial⟩
  | a :: b :: r, c, h, hcp, h1 => by
    obtain ⟨l1, l2⟩ := h.tail
    have k := h1 a rfl
    have t := h.turn
    refine ⟨Int.le_of_lt k, la_new (b :: r) a l2 (lx_trans l1 hcp) fun x hx => ?_⟩
    cases hx
    have l3 := l2.tail.1
    have s : 0 < cr (d2 b a) (d2 c p) := cr_tr1 (lx_hp l3) (lx_hp l1) (lx_hp hcp) t (Int.le_of_lt k)
    rw [ori_add b a c p]
    omega
/-- a chain of P from its least to its greatest point -/
structure Ch (P : List GP) (m : GP) (c : GP) (r : List GP) : Prop where
  conv : Conv (c :: r)
  la : ∀ q ∈ P, LA q (c :: r)
  bot : bot c r = m
  sub : ∀ x ∈ c :: r, x ∈ P
theorem ch_push {P : List GP} {m c0 p : GP} {r0 : List GP} (h : Ch P m c0 r0) (hm : ∀ q ∈ P, q = m ∨ lx m q) (hmax : ∀ q ∈ P, q = c0 ∨ lx q c0) (hp' : ∀ q ∈ P, lx q p) : ∃ r, p :: popB (c0 :: r0) p = p :: r ∧ Ch (P ++ [p]) m p r := by
  obtain ⟨c, r, e, z⟩ := pop_ok (P := P) (p := p) r0 c0 h.conv h.la (fun x hx => hp' x (h.sub x hx)) fun q hq hl => by
    rcases hmax q hq with rfl | k
    · exact (lx_irr hl).elim
    · exact (lx_irr (lx_trans hl k)).elim
  have cP : c ∈ P := h.sub c (z.sub c (.head _))
  have lcp := hp' c cP
  refine ⟨c :: r, by rw [e], ?_, fun q hq => ?_, ?_, fun x hx => ?_⟩
  · cases r with
    | nil => exact lcp
    | cons a r => exact ⟨lcp, z.stop a rfl, z.conv⟩
  · rcases List.mem_append.mp hq with hq | hq
    · refine ⟨?_, z.la q hq⟩
      rcases lx_tri q c with k | rfl | k
      · cases r with
        | nil =>
          exfalso
          have hb : c = m := by rw [← h.bot, ← z.bot]; rfl
          rcases hm q hq with e | e
          · rw [e, hb] at k
            exact lx_irr k
          · rw [hb] at k
            exact lx_irr (lx_trans k e)
        | cons a r =>
          have k1 := (z.la q hq).1
          rw [ori_cr3] at k1
          have k2 := z.stop a rfl
          have la := z.conv.tail.1
          have := cr_tr (lx_hp k) (lx_hp la) (lx_hp lcp) k1 (Int.le_of_lt k2)
          rw [ori_cr2, cr_anti]
          unfold cr d2 at *
          grind
      · rw [ori_cr2]
        unfold cr d2
        grind
      · rw [ori_cr2]
        exact z.inv q hq k
    · rw [List.mem_singleton.mp hq]
      refine ⟨?_, la_new r c z.conv lcp z.stop⟩
      unfold ori
      grind
  · show G.bot c r = m
    rw [z.bot, h.bot]
  · rcases List.mem_cons.mp hx with rfl | hx
    · exact List.mem_append.mpr (.inr (.head _))
    · exact List.mem_append.mpr (.inl (h.sub x (z.sub x hx)))
def scan : List GP → List GP → List GP
  | st, [] => st
  | st, p :: ps => scan (p :: popB st p) ps
def Up (us : List GP) : Prop := us.Pairwise lx
theorem scan_ok {m : GP} : ∀ (ps P : List GP) (c0 : GP) (r0 : List GP), Ch P m c0 r0 → (∀ q ∈ P, q = m ∨ lx m q) → (∀ q ∈ P, q = c0 ∨ lx q c0) → (∀ q ∈ P, ∀ p ∈ ps, lx q p) → Up ps →
    ∃ c r, scan (c0 :: r0) ps = c :: r ∧ Ch (P ++ ps) m c r ∧ ∀ q ∈ P ++ ps, q = c ∨ lx q c
  | [], P, c0, r0, h, _, hmax, _, _ => ⟨c0, r0, rfl, by rw [List.append_nil]; exact h, by rw [List.append_nil]; exact hmax⟩
  | p :: ps, P, c0, r0, h, hm, hmax, hps, hu => by
    have hu' := List.pairwise_cons.mp hu
    obtain ⟨r, e, z⟩ := ch_push h hm hmax fun q hq => hps q hq p (.head _)
    have hm' : ∀ q ∈ P ++ [p], q = m ∨ lx m q := fun q hq => by
      rcases List.mem_append.mp hq with hq | hq
      · exact hm q hq
      · rw [List.mem_singleton.mp hq]
        have hc0 := h.sub c0 (.head _)
        rcases hm c0 hc0 with e | e
        · exact .inr (by rw [← e]; exact hps c0 hc0 p (.head _))
        · exact .inr (lx_trans e (hps c0 hc0 p (.head _)))
    have hmax' : ∀ q ∈ P ++ [p], q = p ∨ lx q p := fun q hq => by
      rcases List.mem_append.mp hq with hq | hq
      · exact .inr (hps q hq p (.head _))
      · exact .inl (List.mem_singleton.mp hq)
    have hps' : ∀ q ∈ P ++ [p], ∀ x ∈ ps, lx q x := fun q hq x hx => by
      rcases List.mem_append.mp hq with hq | hq
      · exact hps q hq x (.tail _ hx)
      · rw [List.mem_singleton.mp hq]
        exact hu'.1 x hx
    obtain ⟨c, r', e2, z2, z3⟩ := scan_ok ps (P ++ [p]) p r z hm' hmax' hps' hu'.2
    rw [List.append_assoc] at z2 z3
    refine ⟨c, r', ?_, z2, z3⟩
    show scan (p :: popB (c0 :: r0) p) ps = _
    rw [e]
    exact e2
theorem scan_ch {m : GP} {us : List GP} (hu : Up (m :: us)) : ∃ c r, scan [] (m :: us) = c :: r ∧ Ch (m :: us) m c r ∧ ∀ q ∈ m :: us, q = c ∨ lx q c := by
  have hu' := List.pairwise_cons.mp hu
  exact scan_ok us [m] m [] ⟨trivial, fun q _ => trivial, rfl, fun x hx => hx⟩ (fun q hq => .inl (List.mem_singleton.mp hq)) (fun q hq => .inl (List.mem_singleton.mp hq)) (fun q hq p hp => by rw [List.mem_singleton.mp hq]; exact hu'.1 p hp) hu'.2
/-! the other way around -/
def ng (a : GP) : GP := (-a.1, -a.2)
theorem ng_ng (a : GP) : ng (ng a) = a := by
  unfold ng
  simp
theorem ori_ng (a b c : GP) : ori (ng a) (ng b) (ng c) = ori a b c := by
  unfold ori ng
  grind
theorem lx_ng {a b : GP} : lx (ng a) (ng b) ↔ lx b a := by
  unfold lx ng
  simp only []
  omega
theorem popB_ng : ∀ (st : List GP) (p : GP), popB (st.map ng) (ng p) = (popB st p).map ng
  | [], p => rfl
  | [a], p => rfl
  | b :: a :: r, p => by
    show (if 0 < ori (ng a) (ng b) (ng p) then ng b :: ng a :: r.map ng else popB ((a :: r).map ng) (ng p)) = (if 0 < ori a b p then b :: a :: r else popB (a :: r) p).map ng
    rw [ori_ng, popB_ng (a :: r) p]
    split <;> rfl
theorem scan_ng : ∀ (ps st : List GP), scan (st.map ng) (ps.map ng) = (scan st ps).map ng
  | [], st => rfl
  | p :: ps, st => by
    show scan (ng p :: popB (st.map ng) (ng p)) (ps.map ng) = (scan (p :: popB st p) ps).map ng
    rw [popB_ng, ← scan_ng ps]
    rfl
/-- as side does it: all but the last -/
def sideF (ps : List GP) : List GP := (scan [] ps).tail.reverse
def hull (us : List GP) : List GP := if us.length = 1 then us else sideF us ++ sideF us.reverse
/-! how far a chain reaches -/
theorem edge_x {b c q : GP} (h1 : lx b q) (h2 : lx q c) (h : 0 ≤ ori b c q) : q.1 ≤ b.1 ∨ q.1 ≤ c.1 := by
  rcases Int.lt_or_le b.1 q.1 with k1 | k1
  · rcases Int.lt_or_le c.1 q.1 with k2 | k2
    · exfalso
      have hy : 0 ≤ c.2 - b.2 := by unfold lx at *; omega
      have hcy : b.2 = c.2 → False := fun e => by unfold lx at *; omega
      have hpos : 0 < c.2 - b.2 := by
        rcases Int.lt_or_le 0 (c.2 - b.2) with z | z
        · exact z
        · exact (hcy (by omega)).elim
      rcases Int.lt_or_le c.1 b.1 with k3 | k3
      · have e := ori_cr2 b c q
        rw [e] at h
        unfold cr d2 at h
        have m1 := Int.mul_nonpos_of_nonpos_of_nonneg (show c.1 - b.1 ≤ 0 by omega) (show 0 ≤ q.2 - b.2 by unfold lx at h1; omega)
        have m2 := Int.mul_pos hpos (show 0 < q.1 - b.1 by omega)
        simp only [] at h
        omega
      · unfold ori at h
        have m1 := Int.mul_nonpos_of_nonneg_of_nonpos (show 0 ≤ c.1 - b.1 by omega) (show q.2 - c.2 ≤ 0 by unfold lx at h2; omega)
        have m2 := Int.mul_pos hpos (show 0 < q.1 - c.1 by omega)
        omega
    · exact .inr k2
  · exact .inl k1
theorem chain_x {q : GP} : ∀ (r : List GP) (c : GP), Conv (c :: r) → LA q (c :: r) → (q = bot c r ∨ lx (bot c r) q) → (q = c ∨ lx q c) → ∃ t ∈ c :: r, q.1 ≤ t.1
  | [], c, _, _, h1, h2 => ⟨c, .head _, by
      rcases h2 with rfl | h2
      · exact Int.le_refl _
      · rcases h1 with e | e
        · have e : q = c := e
          rw [e]
          exact Int.le_refl _
        · have e : lx c q := e
          exact (lx_irr (lx_trans e h2)).elim⟩
  | b :: r, c, hc, hl, h1, h2 => by
    rcases h2 with rfl | h2
    · exact ⟨q, .head _, Int.le_refl _⟩
    rcases lx_tri q b with k | rfl | k
    · obtain ⟨t, ht, hx⟩ := chain_x r b hc.tail.2 hl.2 h1 (.inr k)
      exact ⟨t, .tail _ ht, hx⟩
    · exact ⟨q, .tail _ (.head _), Int.le_refl _⟩
    · rcases edge_x k h2 hl.1 with e | e
      · exact ⟨b, .tail _ (.head _), e⟩
      · exact ⟨c, .head _, e⟩
/-- the two chains of the hull -/
structure Two (us : List GP) (m M : GP) (rS rT : List GP) : Prop where
  s : scan [] us = M :: rS
  t : scan [] us.reverse = m :: rT
  cs : Ch us m M rS
  ct : Ch (us.map ng) (ng M) (ng m) (rT.map ng)
  lo : ∀ q ∈ us, q = m ∨ lx m q
  hi : ∀ q ∈ us, q = M ∨ lx q M
theorem Ch.congr {P P' : List GP} {m c : GP} {r : List GP} (h : Ch P m c r) (e : ∀ q, q ∈ P' ↔ q ∈ P) : Ch P' m c r := ⟨h.conv, fun q hq => h.la q ((e q).mp hq), h.bot, fun x hx => (e x).mpr (h.sub x hx)⟩
theorem two_of {us : List GP} (hu : Up us) (hne : us ≠ []) : ∃ m M rS rT, Two us m M rS rT := by
  obtain ⟨m, us', rfl⟩ : ∃ m us', us = m :: us' := by
    cases us with
    | nil => exact absurd rfl hne
    | cons m us' => exact ⟨m, us', rfl⟩
  obtain ⟨M, rS, e1, c1, h1⟩ := scan_ch hu
  have hr : Up ((m :: us').reverse.map ng) := by
    show List.Pairwise lx _
    rw [List.pairwise_map, List.pairwise_reverse]
    exact hu.imp fun h => lx_ng.mpr h
  obtain ⟨x, xs, hx⟩ : ∃ x xs, (m :: us').reverse = x :: xs := by
    cases z : (m :: us').reverse with
    | nil => simp at z
    | cons x xs => exact ⟨x, xs, rfl⟩
  rw [hx, List.map_cons] at hr
  obtain ⟨n, rT, e2, c2, h2⟩ := scan_ch hr
  have e3 : scan [] (m :: us').reverse = ng n :: rT.map ng := by
    have e4 := scan_ng (x :: xs) []
    rw [List.map_nil, List.map_cons, e2] at e4
    rw [hx]
    have e5 := congrArg (List.map ng) e4
    rw [List.map_map, List.map_cons] at e5
    rw [e5]
    refine (List.map_id'' (fun a => ng_ng a) _).symm.trans ?_
    rfl
  have hmem : ∀ q, q ∈ m :: us' ↔ q ∈ x :: xs := fun q => by rw [← hx, List.mem_reverse]
  have lo : ∀ q ∈ m :: us', q = m ∨ lx m q := fun q hq => by
    rcases List.mem_cons.mp hq with e | e
    · exact .inl e
    · exact .inr ((List.pairwise_cons.mp hu).1 q e)
  have hn : ng n = m := by
    have k1 : ng n ∈ m :: us' := by
      have : n ∈ (x :: xs).map ng := c2.sub n (.head _)
      obtain ⟨y, hy, rfl⟩ := List.mem_map.mp this
      rw [ng_ng]
      exact (hmem y).mpr hy
    have k2 : ng m ∈ ng x :: xs.map ng := List.mem_map.mpr ⟨m, (hmem m).mp (.head _), rfl⟩
    rcases h2 _ k2 with e | e
    · rw [← e, ng_ng]
    · rcases lo _ k1 with e' | e'
      · exact e'
      · exfalso
        have e6 : lx (ng n) m := by
          rw [← ng_ng m]
          have := lx_ng.mpr e
          rw [ng_ng] at this
          rw [ng_ng]
          exact this
        exact lx_irr (lx_trans e' e6)
  have hxM : x = M := by
    have k1 : x ∈ m :: us' := (hmem x).mpr (.head _)
    have k2 : M ∈ m :: us' := c1.sub M (.head _)
    rcases h1 x k1 with e | e
    · exact e
    · exfalso
      rcases List.mem_cons.mp ((hmem M).mp k2) with z | z
      · rw [z] at e
        exact lx_irr e
      · have := (List.pairwise_cons.mp hr).1 (ng M) (List.mem_map.mpr ⟨M, z, rfl⟩)
        exact lx_irr (lx_trans e (lx_ng.mp this))
  refine ⟨m, M, rS, rT.map ng, ⟨e1, by rw [e3, hn], c1, ?_, lo, h1⟩⟩
  have e7 : (rT.map ng).map ng = rT := by
    rw [List.map_map]
    exact List.map_id'' (fun a => ng_ng a) _
  have en : ng m = n := by rw [← hn, ng_ng]
  rw [e7, en, ← hxM]
  refine c2.congr fun q => ?_
  rw [show ng x :: xs.map ng = (x :: xs).map ng from rfl]
  constructor
  · intro h
    obtain ⟨y, hy, rfl⟩ := List.mem_map.mp h
    exact List.mem_map.mpr ⟨y, (hmem y).mp hy, rfl⟩
  · intro h
    obtain ⟨y, hy, rfl⟩ := List.mem_map.mp h
    exact List.mem_map.mpr ⟨y, (hmem y).mpr hy, rfl⟩
theorem Two.eq {us : List GP} {m M : GP} {rS rT : List GP} (h : Two us m M rS rT) (hl : us.length ≠ 1) : hull us = rS.reverse ++ rT.reverse := by
  unfold hull sideF
  rw [if_neg hl, h.s, h.t]
  rfl
theorem Two.mM {us : List GP} {m M : GP} {rS rT : List GP} (h : Two us m M rS rT) (hu : Up us) (hl : 2 ≤ us.length) : lx m M := by
  have hm : m ∈ us := by
    have := h.ct.sub (ng m) (.head _)
    obtain ⟨y, hy, e⟩ := List.mem_map.mp this
    rw [← ng_ng m, ← e, ng_ng]
    exact hy
  have hM : M ∈ us := h.cs.sub M (.head _)
  rcases h.hi m hm with e | e
  · exfalso
    cases us with
    | nil => simp at hl
    | cons a us =>
      cases us with
      | nil => simp at hl
      | cons b us =>
        have hab := (List.pairwise_cons.mp hu).1 b (.head _)
        have h1 := h.lo a (.head _)
        have h2 := h.hi a (.head _)
        have h3 := h.lo b (.tail _ (.head _))
        have h4 := h.hi b (.tail _ (.head _))
        rw [e] at h1 h3
        rcases h4 with e4 | e4
        · rcases h1 with e1 | e1
          · rw [e1, e4] at hab
            exact lx_irr hab
          · rw [e4] at hab
            exact lx_irr (lx_trans e1 hab)
        · rcases h3 with e3 | e3
          · rw [e3] at e4
            exact lx_irr e4
          · exact lx_irr (lx_trans e3 e4)
  · exact e
/-- both chains lie in the hull -/
theorem Two.mem {us : List GP} {m M : GP} {rS rT : List GP} (h : Two us m M rS rT) (hu : Up us) (hl : 2 ≤ us.length) : (∀ x ∈ M :: rS, x ∈ hull us) ∧ (∀ x ∈ m :: rT, x ∈ hull us) ∧ m ∈ rS ∧ M ∈ rT := by
  have hmM := h.mM hu hl
  have hne : m ≠ M := fun e => by rw [e] at hmM; exact lx_irr hmM
  have e := h.eq (by omega)
  have mS : m ∈ rS := by
    have := bot_mem rS M
    rw [h.cs.bot] at this
    rcases List.mem_cons.mp this with z | z
    · exact absurd z hne
    · exact z
  have MT : M ∈ rT := by
    have := bot_mem (rT.map ng) (ng m)
    rw [h.ct.bot] at this
    rcases List.mem_cons.mp this with z | z
    · exfalso
      have := congrArg ng z
      rw [ng_ng, ng_ng] at this
      exact hne this.symm
    · obtain ⟨y, hy, e2⟩ := List.mem_map.mp z
      rw [← ng_ng M, ← e2, ng_ng]
      exact hy
  refine ⟨fun x hx => ?_, fun x hx => ?_, mS, MT⟩
  · rw [e, List.mem_append, List.mem_reverse, List.mem_reverse]
    rcases List.mem_cons.mp hx with rfl | hx
    · exact .inr MT
    · exact .inl hx
  · rw [e, List.mem_append, List.mem_reverse, List.mem_reverse]
    rcases List.mem_cons.mp hx with rfl | hx
    · exact .inl mS
    · exact .inr hx
theorem Two.sub {us : List GP} {m M : GP} {rS rT : List GP} (h : Two us m M rS rT) (hl : us.length ≠ 1) : ∀ x ∈ hull us, x ∈ us := by
  intro x hx
  rw [h.eq hl, List.mem_append, List.mem_reverse, List.mem_reverse] at hx
  rcases hx with hx | hx
  · exact h.cs.sub x (.tail _ hx)
  · have := h.ct.sub (ng x) (.tail _ (List.mem_map.mpr ⟨x, hx, rfl⟩))
    obtain ⟨y, hy, e⟩ := List.mem_map.mp this
    rw [← ng_ng x, ← e, ng_ng]
    exact hy
theorem hull_sub {us : List GP} (hu : Up us) (hne : us ≠ []) : ∀ x ∈ hull us, x ∈ us := by
  by_cases hl : us.length = 1
  · intro x hx
    unfold hull at hx
    rw [if_pos hl] at hx
    exact hx
  · obtain ⟨m, M, rS, rT, h⟩ := two_of hu hne
    exact h.sub hl
/-- how far the hull reaches -/
theorem hull_ext {us : List GP} (hu : Up us) (hne : us ≠ []) {q : GP} (hq : q ∈ us) : (∃ t ∈ hull us, q.1 ≤ t.1) ∧ (∃ t ∈ hull us, t.1 ≤ q.1) ∧ (∃ t ∈ hull us, t.2 ≤ q.2) ∧ ∃ t ∈ hull us, q.2 ≤ t.2 := by
  by_cases hl : us.length = 1
  · have e : hull us = us := if_pos hl
    rw [e]
    exact ⟨⟨q, hq, Int.le_refl _⟩, ⟨q, hq, Int.le_refl _⟩, ⟨q, hq, Int.le_refl _⟩, ⟨q, hq, Int.le_refl _⟩⟩
  · have hl2 : 2 ≤ us.length := by
      have : us.length ≠ 0 := fun z => hne (List.length_eq_zero_iff.mp z)
      omega
    obtain ⟨m, M, rS, rT, h⟩ := two_of hu hne
    obtain ⟨k1, k2, k3, k4⟩ := h.mem hu hl2
    refine ⟨?_, ?_, ⟨m, k2 m (.head _), ?_⟩, ⟨M, k1 M (.head _), ?_⟩⟩
    · obtain ⟨t, ht, hx⟩ := chain_x rS M h.cs.conv (h.cs.la q hq) (by rw [h.cs.bot]; exact h.lo q hq) (h.hi q hq)
      exact ⟨t, k1 t ht, hx⟩
    · have hq' : ng q ∈ us.map ng := List.mem_map.mpr ⟨q, hq, rfl⟩
      obtain ⟨t, ht, hx⟩ := chain_x (q := ng q) (rT.map ng) (ng m) h.ct.conv (h.ct.la _ hq') (by
        rw [h.ct.bot]
        rcases h.hi q hq with e | e
        · exact .inl (by rw [e])
        · exact .inr (lx_ng.mpr e)) (by
        rcases h.lo q hq with e | e
        · exact .inl (by rw [e])
        · exact .inr (lx_ng.mpr e))
      have ht' : t ∈ (m :: rT).map ng := ht
      obtain ⟨y, hy, rfl⟩ := List.mem_map.mp ht'
      refine ⟨y, k2 y hy, ?_⟩
      unfold ng at hx
      simp only [] at hx
      omega
    · rcases h.lo q hq with e | e
      · rw [e]
        exact Int.le_refl _
      · unfold lx at e
        omega
    · rcases h.hi q hq with e | e
      · rw [e]
        exact Int.le_refl _
      · unfold lx at e
        omega
theorem hull_ne {us : List GP} (hu : Up us) (hne : us ≠ []) : hull us ≠ [] := by
  intro e
  obtain ⟨q, hq⟩ : ∃ q, q ∈ us := by
    cases us with
    | nil => exact absurd rfl hne
    | cons a us => exact ⟨a, .head _⟩
  obtain ⟨⟨t, ht, _⟩, _⟩ := hull_ext hu hne hq
  rw [e] at ht
  cases ht
local macro_rules | `(tactic| walk_at "z1") => `(tactic| first
  | with_reducible refine z_max2 ?_
  | with_reducible refine z_min2 ?_
  | with_reducible refine z_tru ?_)
def sp_turns_left (K : PySem.W.Frag) : Sp := fun vs H Q _ => ∃ (u v w : V) (a b c : GP), vs = [u, v, w] ∧ Dp K H u (gD a) ∧ Dp K H v (gD b) ∧ Dp K H w (gD c) ∧ Gm a ∧ Gm b ∧ Gm c ∧ Q (.bl (decide (0 < ori a b c))) H
section
theorem ok_turns_left {P : Program} {w : World} {K : PySem.W.Frag} {mg : Str → Option Value} {base : Heap} {A : Nat → Addr} {D : Nat → FuncData} (T : Txt K mg A D) : FnOk P w K mg base (L2.CX P w) 1 (A 2) (D 2) ["a", "b", "c"] (sp_turns_left K) := by
  refine T.F_turns_left.okX sc_turns_left (fun vs H Q E h => ?_) (fun cdv A' outer s H vs Q E hr h => ?_)
  · obtain ⟨u, v, w', a, b, c, rfl, _⟩ := h
    rfl
  obtain ⟨u, v, w', a, b, c, rfl, d1, d2, d3, ga, gb, gc, q⟩ := h
  refine ⟨_, (pss_one (ps_ret (pe_cmpR op_gt (pe_op op_mulW (pe_op op_sub (pe_ix ix_tup (pv 1) pe_int (fun _ _ => rfl)) (pe_ix ix_tup (pv 0) pe_int (fun _ _ => rfl))) (pe_op op_sub (pe_ix ix_tup (pv 2) pe_int (fun _ _ => rfl)) (pe_ix ix_tup (pv 1) pe_int (fun _ _ => rfl)))) (pe_op op_mulW (pe_op op_sub (pe_ix ix_tup (pv 1) pe_int (fun _ _ => rfl)) (pe_ix ix_tup (pv 0) pe_int (fun _ _ => rfl))) (pe_op op_sub (pe_ix ix_tup (pv 2) pe_int (fun _ _ => rfl)) (pe_ix ix_tup (pv 1) pe_int (fun _ _ => rfl)))) (nomark _)))), ?_⟩
  obtain ⟨p1, rfl, h1⟩ := dp_g d1
  obtain ⟨p2, rfl, h2⟩ := dp_g d2
  obtain ⟨p3, rfl, h3⟩ := dp_g d3
  walk_at "z"
  refine z_I (gm_mul (gm_sub gb.1 ga.1) (gm_sub gc.2 gb.2)) ?_
  walk_at "z"
  refine z_I (gm_mul (gm_sub gb.2 ga.2) (gm_sub gc.1 gb.1)) ?_
  walk_at "z"
  rw [show decide (0 < ori a b c) = decide ((b.2 - a.2) * (c.1 - b.1) < (b.1 - a.1) * (c.2 - b.2)) from decide_eq_decide.mpr (by unfold ori; omega)] at q
  exact q
end
section
variable {K : PySem.W.Frag} {H : Hp}
theorem Gs.unapp : ∀ {ws : List V} {zs : List GP} {c : GP}, Gs K H ws (zs ++ [c]) → ∃ wd w, ws = wd ++ [w] ∧ Gs K H wd zs ∧ Dp K H w (gD c)
  | [], [], _, h => h.elim
  | [], _ :: _, _, h => h.elim
  | [w], [], c, h => ⟨[], w, rfl, trivial, h.1⟩
  | w :: w2 :: ws, [], c, h => h.2.elim
  | w :: ws, z :: zs, c, h => by
    obtain ⟨wd, w2, e, h1, h2⟩ := Gs.unapp h.2
    exact ⟨w :: wd, w2, by rw [e]; rfl, ⟨h.1, h1⟩, h2⟩
end
theorem at_last (wd : List V) (w : V) : atI (wd ++ [w]) (-1) = some w := atI_last wd w
theorem at_last2 (wd : List V) (v w : V) : atI (wd ++ [v] ++ [w]) (-2) = some v := by
  have e : ixN (wd ++ [v] ++ [w]).length (-2) = some wd.length := by
    rw [List.length_append, List.length_append, List.length_singleton, List.length_singleton]
    unfold ixN
    simp
    omega
  unfold atI
  rw [e]
  simp
theorem scan_app : ∀ (ps st : List GP) (p : GP), scan st (ps ++ [p]) = p :: popB (scan st ps) p
  | [], st, p => rfl
  | a :: ps, st, p => scan_app ps (a :: popB st a) p
theorem popB_short {st : List GP} {p : GP} (h : st.length < 2) : popB st p = st := by
  cases st with
  | nil => rfl
  | cons b st =>
    cases st with
    | nil => rfl
    | cons a st =>
      simp only [List.length_cons] at h
      omega
theorem popB_sub : ∀ (st : List GP) (p : GP), ∀ x ∈ popB st p, x ∈ st
  | [], p, x, hx => hx
  | [a], p, x, hx => hx
  | b :: a :: r, p, x, hx => by
    have hx : x ∈ (if 0 < ori a b p then b :: a :: r else popB (a :: r) p) := hx
    split at hx
    · exact hx
    · exact .tail _ (popB_sub (a :: r) p x hx)
theorem popB_len : ∀ (st : List GP) (p : GP), (popB st p).length ≤ st.length
  | [], p => Nat.le_refl _
  | [a], p => Nat.le_refl _
  | b :: a :: r, p => by
    show (if 0 < ori a b p then b :: a :: r else popB (a :: r) p).length ≤ _
    split
    · exact Nat.le_refl _
    · exact Nat.le_succ_of_le (popB_len (a :: r) p)
theorem scan_len : ∀ (ps st : List GP), (scan st ps).length ≤ st.length + ps.length
  | [], st => Nat.le_refl _
  | p :: ps, st => by
    have h1 := scan_len ps (p :: popB st p)
    have h2 := popB_len st p
    show (scan (p :: popB st p) ps).length ≤ _
    simp only [List.length_cons] at *
    omega
theorem scan_sub : ∀ (ps st : List GP), ∀ x ∈ scan st ps, x ∈ st ∨ x ∈ ps
  | [], st, x, hx => .inl hx
  | p :: ps, st, x, hx => by
    rcases scan_sub ps (p :: popB st p) x hx with h | h
    · rcases List.mem_cons.mp h with rfl | h
      · exact .inr (.head _)
      · exact .inl (popB_sub st p x h)
    · exact .inr (.tail _ h)
def lenAt (l : Addr) : L2.St → Hp → Nat := fun _ H => match H l with
  | some (.lst xs) => xs.length
  | _ => 0
theorem lenAt_of {l : Addr} {σ : L2.St} {H : Hp} {xs : List V} (h : H l = some (.lst xs)) : lenAt l σ H = xs.length := by
  unfold lenAt
  rw [h]
theorem cut_init (wd : List V) (w : V) : cutV (wd ++ [w]) none (some (-1)) = wd := by
  unfold cutV
  have e : HT.sIx (wd ++ [w]).length (wd ++ [w]).length (some (-1)) = wd.length := by
    show (if (-1 : Int) < 0 then ((-1 : Int) + ((wd ++ [w]).length : Int)).toNat else min (-1 : Int).toNat (wd ++ [w]).length) = _
    rw [if_pos (by decide), List.length_append, List.length_singleton]
    omega
  rw [e, HT.sIx_none]
  simp
def sp_side (K : PySem.W.Frag) : Sp := fun vs H Q _ => ∃ (p : Addr) (ws : List V) (ps : List GP), vs = [.ref p] ∧ H p = some (.lst ws) ∧ Gs K H ws ps ∧ (∀ z ∈ ps, Gm z) ∧ ps.length ≤ 100 ∧ ps ≠ [] ∧
  ∀ a H' us, H a = none → Same H H' → H' a = some (.lst us) → Gs K H' us (sideF ps) → Q (.ref a) H'
section
theorem ok_side {P : Program} {w : World} {K : PySem.W.Frag} {mg : Str → Option Value} {base : Heap} {A : Nat → Addr} {D : Nat → FuncData} (T : Txt K mg A D) : FnOk P w K mg base (L2.CX P w) 2 (A 1) (D 1) ["points"] (sp_side K) := by
  refine T.F_side.okX sc_side (fun vs H Q E h => ?_) (fun cdv A' outer s H vs Q E hr h => ?_)
  · obtain ⟨p, ws, ps, rfl, _⟩ := h
    rfl
  obtain ⟨p, ws, ps, rfl, hp, g, gm, hl, hne, q⟩ := h
  refine ⟨_, (pss_cons (ps_set (i := 1) sc_side.nd rfl (.inl rfl) (pe_lst pa_nil))
  (pss_cons (ps_for (passes_of rfl) rfl (pi_list (pv 0)) (pg_name (i := 2) sc_side.nd rfl (.inl rfl))
  (pss_cons (ps_while (passes_of rfl) (PW.pt (pw_and (pt_cmpR op_ge (pe_callB Z.c_len (by rfl) T.z_len (by decide +kernel) (pa_cons (pv 1) pa_nil)) pe_int (nomark _)) (pw_and1 (pt_not (pt_val (pe_call (ok_turns_left T) (hr.mono (by decide)) (by rfl) T.m_turns_left T.F_turns_left.kp T.b_turns_left .nil (passes_call (takes_of rfl rfl rfl rfl) (fun _ _ _ _ h => h)) (pa_cons (pe_ix ix_list (pv 1) (pe_un un_neg pe_int) (fun _ _ => rfl)) (pa_cons (pe_ix ix_list (pv 1) (pe_un un_neg pe_int) (fun _ _ => rfl)) (pa_cons (pv 2) pa_nil)))))))))
  (pss_one (ps_expr (pe_bm0 PySem.F.plainAttrs_list PySem.F.slot_list_pop PySem.F.type_list_pop mt_pop (pv 1)))))
  (pss_one (ps_expr (pe_bm PySem.F.plainAttrs_list PySem.F.slot_list_append PySem.F.type_list_append mt_append (pv 1) (pa_cons (pv 2) pa_nil))))))
  (pss_one (ps_ret (pe_slice sl_list (pv 1) po_none (po_some (pe_un un_neg pe_int))))))), ?_⟩
  have lw := g.len
  walk_at "z"
  intro l H1 f1 s1 e1
  walk_at "z"
  refine z_forL (fun R q => by walk_at "z"; exact q) (.inl (.inl (s1 _ _ hp))) (fun i σ' H' => Same H H' ∧ ∃ (u : Option V) (vs : List V) (zs : List GP), σ' = [some (.ref p), some (.ref l), u] ∧ H' l = some (.lst vs) ∧ Gs K H' vs zs ∧ zs = (scan [] (ps.take i)).reverse) ⟨s1, _, [], [], rfl, e1, trivial, rfl⟩
    (fun i σ' H' _ h => .inl (.inl (h.1 _ _ hp))) ?_ ?_
  · rintro i x σ' H2 hx ⟨s2, u, vs, zs, rfl, e2, g2, hz⟩
    obtain ⟨c, hc, dc⟩ := g.getv hx
    have hil := (List.getElem?_eq_some_iff.mp hc).1
    have tk : ps.take (i + 1) = ps.take i ++ [c] := by rw [List.take_add_one, hc]; rfl
    have gc := gm c (List.mem_of_getElem? hc)
    have hsub : ∀ x ∈ scan [] (ps.take i), Gm x := fun x hx => by
      rcases scan_sub _ _ x hx with h | h
      · cases h
      · exact gm x (List.mem_of_mem_take h)
    have hsl : (scan [] (ps.take i)).length ≤ 100 := by
      have := scan_len (ps.take i) []
      rw [List.length_take] at this
      simp at this
      omega
    generalize hst : scan [] (ps.take i) = st0 at hz hsub hsl
    walk_at "z"
    refine z_while (fun σ' H' => Same H H' ∧ ∃ (vs : List V) (st : List GP), σ' = [some (.ref p), some (.ref l), some x] ∧ H' l = some (.lst vs) ∧ Gs K H' vs st.reverse ∧ popB st c = popB st0 c ∧ (∀ x ∈ st, Gm x) ∧ st.length ≤ 100) (lenAt l) ⟨s2, vs, st0, rfl, e2, by rw [← hz]; exact g2, rfl, hsub, hsl⟩ ?_
    rintro σ' H3 ⟨s3, vs3, st, rfl, e3, g3, hpop, hgm, hl3⟩
    have lv := g3.len
    rw [List.length_reverse] at lv
    rw [lenAt_of e3]
    refine z_known (decide (¬ popB st c = st)) (fun R h => ?_) ?_
    · walk_at "z"
      cases st with
      | nil =>
        have : vs3 = [] := List.length_eq_zero_iff.mp lv
        subst this
        refine z_if (fun k => absurd k (by decide)) (fun _ => ?_)
        exact h
      | cons b st =>
        cases st with
        | nil =>
          refine z_if (fun k => absurd k (by rw [lv]; show ¬ (2 : Int) ≤ ((1 : Nat) : Int); omega)) (fun _ => ?_)
          rw [show decide (¬ popB [b] c = [b]) = false from decide_eq_false (fun z => z rfl)] at h
          exact h
        | cons a r =>
          refine z_if (fun k => ?_) (fun k => absurd (show (2 : Int) ≤ (vs3.length : Int) by rw [lv]; simp only [List.length_cons]; omega) k)
          have g3' := g3
          rw [List.reverse_cons, List.reverse_cons] at g3'
          obtain ⟨wd, wb, rfl, g4, db⟩ := g3'.unapp
          obtain ⟨we, wa, rfl, g5, da⟩ := g4.unapp
          walk_at "z"
          refine z_ixL (.inl (.inl e3)) (at_last2 we wa wb) ?_
          walk_at "z"
          refine z_ixL (.inl (.inl e3)) (at_last _ wb) ?_
          walk_at "z"
          refine ⟨wa, wb, x, a, b, c, rfl, da, db, dp_mono s3 dc, hgm a (.tail _ (.head _)), hgm b (.head _), gc, ?_⟩
          walk_at "z"
          have e : (!decide (0 < ori a b c)) = decide (¬ popB (b :: a :: r) c = b :: a :: r) := by
            have ep : popB (b :: a :: r) c = if 0 < ori a b c then b :: a :: r else popB (a :: r) c := rfl
            by_cases k2 : 0 < ori a b c
            · rw [ep, if_pos k2]
              simp [k2]
            · have hne : popB (a :: r) c ≠ b :: a :: r := fun z => by
                have := congrArg List.length z
                have h2 := popB_len (a :: r) c
                rw [this] at h2
                simp only [List.length_cons] at h2
                omega
              rw [ep, if_neg k2]
              simp [k2, hne]
          rw [e]
          exact h
    · refine z_wb (fun k => ?_) (fun k => ?_)
      · cases st with
        | nil => exact absurd rfl k
        | cons b st =>
          cases st with
          | nil => exact absurd rfl k
          | cons a r =>
            have ep : popB (b :: a :: r) c = if 0 < ori a b c then b :: a :: r else popB (a :: r) c := rfl
            have k2 : ¬ 0 < ori a b c := fun z => k (by rw [ep, if_pos z])
            rw [ep, if_neg k2] at hpop
            rw [List.reverse_cons] at g3
            obtain ⟨wd, wb, rfl, g4, db⟩ := g3.unapp
            walk_at "z"
            refine z_bm0L (fun R q => by walk_at "z"; exact q) e3 ?_
            refine z_pop e3 ?_
            refine ⟨⟨fun y o h => ?_, wd, a :: r, rfl, upd_same, ?_, hpop, fun y hy => hgm y (.tail _ hy), by simp only [List.length_cons] at hl3 ⊢; omega⟩, ?_⟩
            · rw [upd_ne (ne_of_none h f1)]
              exact s3 _ _ h
            · have kk : Kp l H3 (upd H3 l (.lst wd)) := fun y o hy h => by
                rw [upd_ne hy]
                exact h
              exact g4.kp kk e3
            · rw [lenAt_of upd_same, List.length_append, List.length_singleton]
              omega
      · have hst2 : popB st c = st := Decidable.not_not.mp k
        walk_at "z"
        refine z_bmL (fun R q => by walk_at "z"; exact q) e3 ?_
        walk_at "z"
        refine z_append e3 (by omega) ?_
        refine ⟨fun y o h => ?_, _, vs3 ++ [x], st.reverse ++ [c], rfl, upd_same, ?_, ?_⟩
        · rw [upd_ne (ne_of_none h f1)]
          exact s3 _ _ h
        · have kk : Kp l H3 (upd H3 l (.lst (vs3 ++ [x]))) := fun y o hy h => by
            rw [upd_ne hy]
            exact h
          exact Gs.kp kk e3 (g3.app (gs_one (dp_mono s3 dc)))
        · rw [tk, scan_app, hst, ← hpop, hst2, List.reverse_cons]
  · rintro σ' H2 ⟨s2, u, vs, zs, rfl, e2, g2, hz⟩
    rw [lw, List.take_length] at hz
    walk_at "z"
    refine ⟨_, rfl, ?_⟩
    have hn : (scan [] ps).length ≤ 100 := by
      have := scan_len ps []
      simp at this
      omega
    generalize hst0 : scan [] ps = st at hz hn
    subst hz
    have lv := g2.len
    cases st with
    | nil =>
      -- there is at least one point
      exfalso
      obtain ⟨pz, hpz⟩ : ∃ z, ps.getLast? = some z := by
        cases h : ps.getLast? with
        | none => exact absurd (List.getLast?_eq_none_iff.mp h) hne
        | some z => exact ⟨z, rfl⟩
      obtain ⟨pi, e⟩ := List.getLast?_eq_some_iff.mp hpz
      rw [e, scan_app] at hst0
      cases hst0
    | cons c r =>
      rw [List.reverse_cons] at g2
      obtain ⟨wd, w, rfl, g3, _⟩ := g2.unapp
      walk_at "z"
      refine z_slL (.inl (.inl e2)) (ys := wd) (cut_init wd w) fun a H3 f3 s3 e3 => ?_
      refine q a H3 wd (fresh_of s2 f3) (s2.trans s3) e3 ?_
      unfold sideF
      rw [hst0]
      exact g3.mono s3
end
/-- the points of zs, once each, in the order of the program -/
structure Set (zs us : List GP) : Prop where
  up : Up us
  mem : ∀ q, q ∈ us ↔ q ∈ zs
def sp_corners (K : PySem.W.Frag) : Sp := fun vs H Q _ => ∃ (p : Addr) (ws : List V) (zs bs : List GP), vs = [.ref p] ∧ H p = some (.lst ws) ∧ Gs K H ws zs ∧ (∀ z ∈ zs, Gm z) ∧ zs ≠ [] ∧ bs.length ≤ 60 ∧ (∀ z ∈ zs, z ∈ bs) ∧
  ∀ a H' vs us, H a = none → Same H H' → H' a = some (.lst vs) → Gs K H' vs (hull us) → Set zs us → us.length ≤ 60 → Q (.ref a) H'
theorem plt_lx {a b : Int × Int} (h : Sc.plt a b) : lx (a.2, a.1) (b.2, b.1) := h
section
theorem ok_corners {P : Program} {w : World} {K : PySem.W.Frag} {mg : Str → Option Value} {base : Heap} {A : Nat → Addr} {D : Nat → FuncData} (T : Txt K mg A D) : FnOk P w K mg base (L2.CX P w) 3 (A 0) (D 0) ["points"] (sp_corners K) := by
  refine T.F_corners.okX sc_corners (fun vs H Q E h => ?_) (fun cdv A' outer s H vs Q E hr h => ?_)
  · obtain ⟨p, ws, zs, bs, rfl, _⟩ := h
    rfl
  obtain ⟨p, ws, zs, bs, rfl, hp, g, gm, hne, hbl, hbs, q⟩ := h
  refine ⟨_, (pss_cons (ps_set (i := 1) sc_corners.nd rfl (.inl rfl) (pe_callB (Sc.cr_sortedP2 rfl) (by rfl) T.z_sorted (by decide +kernel) (pa_cons (Sc.pe_setT hr.units (own := [("point", 2)]) (g := gName 2) (tt := tYes) rfl sc_corners.nd (pi_list (pv 0)) (blkOk_by (N := ["points", "heights_first", "point", "upwards", "y", "x"]) (sc := defScope s_corners) (by decide +kernel)) (fun _ _ _ _ _ => pg_name (i := 2) sc_corners.nd rfl (Or.inl rfl)) (fun _ _ _ _ _ => pts_nil) (fun _ _ _ _ _ => (pe_tup (pa_cons (pe_ix (show IxR _ (rIxT K) from ix_tup) (pv 2) pe_int (fun _ _ => rfl)) (pa_cons (pe_ix (show IxR _ (rIxT K) from ix_tup) (pv 2) pe_int (fun _ _ => rfl)) pa_nil))))) pa_nil)))
  (pss_cons (ps_setLc (i := 3) (own := [("y", 4), ("x", 5)]) (g := gTup K 2 (gCons (gName 4) (gCons (gName 5) gNil))) (tt := tYes) rfl sc_corners.nd rfl rfl (sw_true rfl rfl rfl (by decide +kernel)) (pi_list (pv 1)) (blkOk_by (N := ["points", "heights_first", "point", "upwards", "y", "x"]) (sc := defScope s_corners) (by decide +kernel)) (fun _ _ _ _ _ => pg_tup (by rfl) (pgs_cons (pg_name (i := 4) sc_corners.nd rfl (Or.inl rfl)) (pgs_cons (pg_name (i := 5) sc_corners.nd rfl (Or.inl rfl)) pgs_nil))) (fun _ _ _ _ _ => pts_nil) (fun _ _ _ _ _ => (pe_tup (pa_cons (pv 5) (pa_cons (pv 4) pa_nil)))))
  (pss_cons (ps_if (pt_cmpR op_eq (pe_callB Z.c_len (by rfl) T.z_len (by decide +kernel) (pa_cons (pv 3) pa_nil)) pe_int (nomark _))
  (pss_one (ps_ret (pv 3)))
  pss_nil)
  (pss_one (ps_ret (pe_op op_cat (pe_call (ok_side T) (hr.mono (by decide)) (by rfl) T.m_side T.F_side.kp T.b_side .nil (passes_call (takes_of rfl rfl rfl rfl) (fun _ _ _ _ h => h)) (pa_cons (pv 3) pa_nil)) (pe_call (ok_side T) (hr.mono (by decide)) (by rfl) T.m_side T.F_side.kp T.b_side .nil (passes_call (takes_of rfl rfl rfl rfl) (fun _ _ _ _ h => h)) (pa_cons (pe_revL (pv 3)) pa_nil)))))))), ?_⟩
  walk_at "z"
  refine Sc.z_setE ?_
  walk_at "z"
  have lw := g.len
  refine Sc.z_setPr (zs.map fun z => (z.2, z.1)) (by rw [List.length_map, lw]) (bs.map fun z => [z.2, z.1]) (by rw [List.length_map]; omega) (fun z hz => ?_) hp (fun _ => rfl) (fun i x z H' hx hz s' R k => ?_) fun D H1 L f1 s1 e1 nd hL hz => ?_
  · obtain ⟨y, hy, rfl⟩ := List.mem_map.mp hz
    exact List.mem_map.mpr ⟨y, hbs y hy, rfl⟩
  · obtain ⟨c, hc, dc⟩ := g.getv hx
    rw [List.getElem?_map, hc] at hz
    cases hz
    obtain ⟨pc, rfl, hpc⟩ := dp_g (dp_mono s' dc)
    walk_at "z"
    exact fun t H'' f s h => k t H'' f s h
  walk_at "z"
  refine Sc.z_sortedPr e1 hL hz fun ts us0 a H2 hlen hts hpw hmem hle f2 s2 e2 => ?_
  -- the points, lowest first
  have hus : Set zs (us0.map fun z => (z.2, z.1)) := by
    refine ⟨?_, fun q => ?_⟩
    · show List.Pairwise lx _
      rw [List.pairwise_map]
      exact hpw.imp plt_lx
    · constructor
      · intro h
        obtain ⟨y, hy, rfl⟩ := List.mem_map.mp h
        obtain ⟨x, hx, rfl⟩ := List.mem_map.mp ((hmem y).mp hy)
        exact hx
      · intro h
        exact List.mem_map.mpr ⟨(q.2, q.1), (hmem _).mpr (List.mem_map.mpr ⟨q, h, rfl⟩), rfl⟩
  have hlt : ts.length ≤ 60 := by
    have := Sc.nodup_len nd (m := bs.map fun z => [z.2, z.1]) fun k hk => by
      obtain ⟨r, hr, rfl⟩ := List.mem_map.mp hk
      obtain ⟨_, z', hz', e⟩ := hL r hr
      obtain ⟨y, hy, rfl⟩ := List.mem_map.mp hz'
      rw [e]
      exact List.mem_map.mpr ⟨y, hbs y hy, rfl⟩
    rw [List.length_map, List.length_map] at this
    omega
  walk_at "z"
  refine z_lcE ?_
  walk_at "z"
  refine z_lcG (by rw [List.length_map]; omega) (.inl (.inl e2)) (fun i D acc H' => Same H2 H' ∧ H2 D = none ∧ Gs K H' acc ((us0.map fun z => (z.2, z.1)).take i)) (fun D H' f s _ => ⟨s, f, trivial⟩) (fun i D acc H' h => .inl (.inl (h.1 _ _ e2)))
    (fun i x D acc H' hx hl hD ⟨s', fD, ga⟩ => ?_) (fun D acc H3 f3 hl e3 ⟨s3, _, ga⟩ => ?_)
  · rw [List.getElem?_map] at hx
    cases hj : ts[i]? with
    | none => rw [hj] at hx; cases hx
    | some t =>
    rw [hj] at hx
    cases hx
    obtain ⟨u, hu⟩ : ∃ u, us0[i]? = some u := ⟨_, List.getElem?_eq_getElem (by rw [← hlen]; exact (List.getElem?_eq_some_iff.mp hj).1)⟩
    have ht := s' _ _ (hts i t u hj hu)
    walk_at "z"
    refine ⟨rfl, ?_⟩
    walk_at "z"
    intro t2 H4 f4 s4 h4
    have hD4 := s4 _ _ hD
    refine z_lcB hD4 hl (by have := (List.getElem?_eq_some_iff.mp hj).1; omega) fun H5 hD5 k5 e5 => ⟨fun b o h => ?_, fD, ?_⟩
    · rw [e5 b (ne_of_none h fD)]
      exact s4 _ _ (s' _ _ h)
    · rw [List.take_add_one, List.getElem?_map, hu]
      exact Gs.kp k5 hD4 ((ga.mono s4).app (gs_one (dp_mkg h4)))
  rw [show (ts.map V.ref).length = (us0.map fun z => (z.2, z.1)).length by rw [List.length_map, List.length_map, hlen], List.take_length] at ga
  generalize hU : us0.map (fun z => (z.2, z.1)) = us at hus ga
  have lu : us.length ≤ 60 := by rw [← hU, List.length_map, ← hlen]; exact hlt
  have la := ga.len
  have sH3 : Same H H3 := (s1.trans s2).trans s3
  have gmu : ∀ z ∈ us, Gm z := fun z hz => gm z ((hus.mem z).mp hz)
  have hneu : us ≠ [] := fun e => by
    subst e
    cases zs with
    | nil => exact hne rfl
    | cons z zs => exact absurd ((hus.mem z).mpr (.head _)) (by simp)
  walk_at "z"
  refine z_if (fun c => ?_) (fun c => ?_)
  · walk_at "z"
    refine q D H3 acc us (fresh_of (s1.trans s2) f3) sH3 e3 ?_ hus lu
    unfold hull
    rw [if_pos (by omega)]
    exact ga
  · walk_at "z"
    refine ⟨D, acc, us, rfl, e3, ga, gmu, by omega, hneu, fun a1 H4 v1 f4 s4 e4 g4 => ?_⟩
    walk_at "z"
    refine z_revL ?_
    walk_at "z"
    refine z_revE (.inl (.inl (s4 _ _ e3))) fun a2 H5 f5 s5 e5 => ?_
    refine ⟨a2, acc.reverse, us.reverse, rfl, e5, (ga.mono (s4.trans s5)).rev, fun z hz => gmu z (List.mem_reverse.mp hz), by rw [List.length_reverse]; omega, by simpa using hneu, fun a3 H6 v3 f6 s6 e6 g6 => ?_⟩
    have s46 := s5.trans s6
    have l1 := g4.len
    have l3 := g6.len
    have lsc := fun (ps : List GP) (h : ps.length ≤ 60) => show (sideF ps).length ≤ 60 by
      have := scan_len ps []
      unfold sideF
      rw [List.length_reverse, List.length_tail]
      simp at this
      omega
    have k1 := lsc us lu
    have k2 := lsc us.reverse (by rw [List.length_reverse]; exact lu)
    refine z_cat (s46 _ _ e4) e6 (by omega) fun a4 H7 f7 s7 e7 => ?_
    refine q a4 H7 (v1 ++ v3) us (fresh_of ((sH3.trans s4).trans s46) f7) (((sH3.trans s4).trans s46).trans s7) e7 ?_ hus lu
    unfold hull
    rw [if_neg (by omega)]
    exact ((g4.mono s46).mono s7).app (g6.mono s7)
end
/-! ### the hull goes around -/
theorem cr_id1 (u v w : GP) : v.1 * cr u w = w.1 * cr u v + u.1 * cr v w := by
  unfold cr
  grind
/-- parallel directions -/
theorem par_sign {u v w : GP} (hu : hp u) (hv : hp v) (h : cr u v = 0) (k : 0 ≤ cr u w) : 0 ≤ cr v w := by
  by_cases c : 0 < u.2
  · refine pos_of c ?_
    have e := cr_id2 u v w
    rw [h, Int.mul_zero, Int.zero_add] at e
    rw [← e]
    exact Int.mul_nonneg (hp_up hv) k
  · have c0 : u.2 = 0 := by have := hp_up hu; omega
    have u1 : 0 < u.1 := by
      rcases hu with z | z
      · omega
      · exact z.2
    have v2 : v.2 = 0 := by
      unfold cr at h
      rw [c0, Int.zero_mul, Int.sub_zero] at h
      rcases Int.mul_eq_zero.mp h with z | z
      · omega
      · exact z
    have v1 : 0 < v.1 := by
      rcases hv with z | z
      · omega
      · exact z.2
    refine pos_of u1 ?_
    have e := cr_id1 u v w
    rw [h, Int.mul_zero, Int.zero_add] at e
    rw [← e]
    exact Int.mul_nonneg (Int.le_of_lt v1) k
theorem ori_cyc (a b c : GP) : ori a b c = ori b c a := by
  unfold ori
  grind
theorem ori_rev (a b c : GP) : ori c b a = - ori a b c := by
  unfold ori
  grind
/-- the chain by places, from below -/
theorem rev_last {c : GP} {r : List GP} {i : Nat} {a : GP} (h : (c :: r).reverse[i]? = some a) : r.reverse[i]? = some a ∨ (i = r.length ∧ a = c) := by
  rw [List.reverse_cons] at h
  rcases Nat.lt_or_ge i r.reverse.length with k | k
  · rw [List.getElem?_append_left k] at h
    exact .inl h
  · rw [List.getElem?_append_right k] at h
    have : i - r.reverse.length = 0 := by
      have := (List.getElem?_eq_some_iff.mp h).1
      simp at this
      rw [List.length_reverse] at *
      omega
    rw [this] at h
    cases h
    rw [List.length_reverse] at *
    exact .inr ⟨by omega, rfl⟩
theorem rev_len {r : List GP} {i : Nat} {a : GP} (h : r.reverse[i]? = some a) : i < r.length := by
  have := (List.getElem?_eq_some_iff.mp h).1
  rwa [List.length_reverse] at this
theorem LA.at {q : GP} : ∀ {st : List GP} {i : Nat} {a b : GP}, LA q st → st.reverse[i]? = some a → st.reverse[i + 1]? = some b → 0 ≤ ori a b q
  | [], i, a, b, _, h, _ => by simp at h
  | [c], i, a, b, _, h1, h2 => by
    have := rev_len h2
    simp at this
  | c :: b' :: r, i, a, b, h, h1, h2 => by
    rcases rev_last h2 with k | ⟨k1, k2⟩
    · rcases rev_last h1 with k' | ⟨k1, k2⟩
      · exact LA.at h.2 k' k
      · have := rev_len k
        simp at this k1
        omega
    · rcases rev_last h1 with k' | ⟨k3, k4⟩
      · rcases rev_last k' with k5 | ⟨_, k6⟩
        · have := rev_len k5
          simp at k1
          omega
        · rw [k2, k6]
          exact h.1
      · omega
theorem Conv.at : ∀ {st : List GP} {i : Nat} {a b c : GP}, Conv st → st.reverse[i]? = some a → st.reverse[i + 1]? = some b → st.reverse[i + 2]? = some c → 0 < ori a b c
  | [], i, a, b, c, _, h, _, _ => by simp at h
  | [x], i, a, b, c, _, h1, h2, _ => by
    have := rev_len h2
    simp at this
  | [x, y], i, a, b, c, _, h1, h2, h3 => by
    have := rev_len h3
    simp at this
    omega
  | z :: y :: x :: r, i, a, b, c, h, h1, h2, h3 => by
    rcases rev_last h3 with k | ⟨k1, k2⟩
    · have := rev_len k
      simp only [List.length_cons] at this
      rcases rev_last h2 with l | ⟨l1, _⟩
      · rcases rev_last h1 with l' | ⟨l1, _⟩
        · exact Conv.at h.2.2 l' l k
        · simp only [List.length_cons] at *; omega
      · simp only [List.length_cons] at *; omega
    · rcases rev_last h2 with l | ⟨l1, _⟩
      · rcases rev_last h1 with l' | ⟨m1, _⟩
        · rcases rev_last l with n | ⟨n1, n2⟩
          · have := rev_len n
            simp only [List.length_cons] at *
            omega
          · rcases rev_last l' with o | ⟨o1, _⟩
            · rcases rev_last o with p | ⟨_, p2⟩
              · have := rev_len p
                simp only [List.length_cons] at *
                omega
              · rw [k2, n2, p2]
                exact h.2.1
            · omega
        · omega
      · omega
theorem Conv.up : ∀ {st : List GP}, Conv st → Up st.reverse
  | [], _ => .nil
  | c :: r, h => by
    rw [List.reverse_cons]
    refine List.pairwise_append.mpr ⟨?_, List.pairwise_singleton _ _, fun a ha b hb => ?_⟩
    · cases r with
      | nil => exact .nil
      | cons b r => exact Conv.up h.tail.2
    · rw [List.mem_singleton.mp hb]
      exact Conv.le h a (List.mem_reverse.mp ha)
theorem rev_0 : ∀ (r : List GP) (c : GP), (c :: r).reverse[0]? = some (bot c r)
  | [], c => rfl
  | b :: r, c => by
    rw [List.reverse_cons, List.getElem?_append_left (by simp)]
    exact rev_0 r b
theorem rev_top (r : List GP) (c : GP) : (c :: r).reverse[r.length]? = some c := by
  rw [List.reverse_cons, List.getElem?_append_right (by simp)]
  simp
/-- where the right chain meets the left one -/
theorem join_top {P : List GP} {m M : GP} {rS rT : List GP} {a c : GP} (hS : Ch P m M rS) (hT : Ch (P.map ng) (ng M) (ng m) rT) (hmM : lx m M) (hn : 3 ≤ rS.length + rT.length)
    (ha : (M :: rS).reverse[rS.length - 1]? = some a) (hl : 1 ≤ rS.length) (hc : (ng m :: rT).reverse[1]? = some (ng c)) : 0 < ori a M c := by
  have hM0 : (ng m :: rT).reverse[0]? = some (ng M) := by rw [rev_0, hT.bot]
  have hMt := rev_top rS M
  have hMt' : (M :: rS).reverse[rS.length - 1 + 1]? = some M := by rw [Nat.sub_add_cancel hl]; exact hMt
  have back : ∀ {q : GP}, ng q ∈ P.map ng → q ∈ P := fun {q} h => by
    obtain ⟨y, hy, e⟩ := List.mem_map.mp h
    rw [← ng_ng q, ← e, ng_ng]
    exact hy
  have laS : ∀ q ∈ P, 0 ≤ ori a M q := fun q hq => (hS.la q hq).at ha hMt'
  have laT : ∀ q ∈ P, 0 ≤ ori M c q := fun q hq => by
    have := (hT.la (ng q) (List.mem_map.mpr ⟨q, hq, rfl⟩)).at hM0 hc
    rwa [ori_ng] at this
  have cP : c ∈ P := back (hT.sub _ (List.mem_reverse.mp (List.mem_of_getElem? hc)))
  have laM : lx a M := by
    have := hS.conv.up
    obtain ⟨i1, e1⟩ := List.getElem?_eq_some_iff.mp ha
    obtain ⟨i2, e2⟩ := List.getElem?_eq_some_iff.mp hMt
    have := (List.pairwise_iff_getElem.mp this) _ _ i1 i2 (by omega)
    rwa [e1, e2] at this
  have lcM : lx c M := by
    have := hT.conv.up
    obtain ⟨i1, e1⟩ := List.getElem?_eq_some_iff.mp hM0
    obtain ⟨i2, e2⟩ := List.getElem?_eq_some_iff.mp hc
    have := (List.pairwise_iff_getElem.mp this) _ _ i1 i2 (by omega)
    rw [e1, e2] at this
    exact lx_ng.mp this
  rcases Int.lt_or_le 0 (ori a M c) with z | z
  · exact z
  exfalso
  have h0 : ori a M c = 0 := Int.le_antisymm z (laS c cP)
  have par : cr (d2 a M) (d2 c M) = 0 := by
    rw [ori_cr] at h0
    unfold cr d2 at *
    grind
  have par' : cr (d2 c M) (d2 a M) = 0 := by rw [cr_anti, par]; rfl
  -- all points lie on one line
  have flat : ∀ q ∈ P, ori a M q = 0 ∧ ori M c q = 0 := fun q hq => by
    have h1 := laS q hq
    have h2 := laT q hq
    have h3 : 0 ≤ cr (d2 c M) (d2 M q) := par_sign (lx_hp laM) (lx_hp lcM) par h1
    have h4 : ori M c q = - cr (d2 c M) (d2 M q) := by
      unfold ori cr d2
      grind
    have h5 : ori M c q = 0 := by omega
    have h6 : 0 ≤ - ori a M q := by
      have h7 : cr (d2 c M) (d2 q M) = 0 := by
        unfold cr d2 at *
        unfold ori at h5
        grind
      have h8 := par_sign (w := d2 q M) (lx_hp lcM) (lx_hp laM) par' (by omega)
      rw [ori_cr]
      have e : cr (d2 a M) (d2 q M) = - cr (d2 a M) (d2 M q) := by
        unfold cr d2
        grind
      omega
    exact ⟨by omega, h5⟩
  rcases Nat.lt_or_ge rS.length 2 with k | k
  · -- the left chain turns
    obtain ⟨c', hc'⟩ : ∃ c', (ng m :: rT).reverse[2]? = some c' := ⟨_, List.getElem?_eq_getElem (by simp; omega)⟩
    have := hT.conv.at hM0 hc hc'
    rw [← ng_ng c', ori_ng] at this
    have := (flat (ng c') (back (by rw [ng_ng]; exact hT.sub _ (List.mem_reverse.mp (List.mem_of_getElem? hc'))))).2
    omega
  · obtain ⟨a', ha'⟩ : ∃ a', (M :: rS).reverse[rS.length - 2]? = some a' := ⟨_, List.getElem?_eq_getElem (by simp; omega)⟩
    have := hS.conv.at ha' (show (M :: rS).reverse[rS.length - 2 + 1]? = some a by rw [show rS.length - 2 + 1 = rS.length - 1 by omega]; exact ha) (show (M :: rS).reverse[rS.length - 2 + 2]? = some M by rw [show rS.length - 2 + 2 = rS.length by omega]; exact hMt)
    have e := (flat a' (hS.sub _ (List.mem_reverse.mp (List.mem_of_getElem? ha')))).1
    rw [ori_cyc] at this
    omega
/-- a point between lies on one chain only -/
theorem apart {P : List GP} {m M x s t u : GP} {rS rT : List GP} {i j : Nat} (hS : Ch P m M rS) (hT : Ch (P.map ng) (ng M) (ng m) rT)
    (h1 : (M :: rS).reverse[i]? = some s) (h2 : (M :: rS).reverse[i + 1]? = some x) (h3 : (M :: rS).reverse[i + 2]? = some u)
    (h4 : (ng m :: rT).reverse[j]? = some (ng x)) (h5 : (ng m :: rT).reverse[j + 1]? = some (ng t)) : False := by
  have sP : s ∈ P := hS.sub _ (List.mem_reverse.mp (List.mem_of_getElem? h1))
  have uP : u ∈ P := hS.sub _ (List.mem_reverse.mp (List.mem_of_getElem? h3))
  have turn := hS.conv.at h1 h2 h3
  have la : ∀ q ∈ P, 0 ≤ ori x t q := fun q hq => by
    have := (hT.la (ng q) (List.mem_map.mpr ⟨q, hq, rfl⟩)).at h4 h5
    rwa [ori_ng] at this
  have up := hS.conv.up
  obtain ⟨i1, e1⟩ := List.getElem?_eq_some_iff.mp h1
  obtain ⟨i2, e2⟩ := List.getElem?_eq_some_iff.mp h2
  obtain ⟨i3, e3⟩ := List.getElem?_eq_some_iff.mp h3
  have l1 := (List.pairwise_iff_getElem.mp up) _ _ i1 i2 (by omega)
  have l2 := (List.pairwise_iff_getElem.mp up) _ _ i2 i3 (by omega)
  rw [e1, e2] at l1
  rw [e2, e3] at l2
  obtain ⟨j1, f1⟩ := List.getElem?_eq_some_iff.mp h4
  obtain ⟨j2, f2⟩ := List.getElem?_eq_some_iff.mp h5
  have l3 := (List.pairwise_iff_getElem.mp hT.conv.up) _ _ j1 j2 (by omega)
  rw [f1, f2] at l3
  have l3 := lx_ng.mp l3
  have k1 := la s sP
  have k2 := la u uP
  have a1 : 0 ≤ cr (d2 x u) (d2 t x) := by
    unfold ori at k2
    unfold cr d2
    grind
  have a2 : 0 ≤ cr (d2 t x) (d2 s x) := by
    unfold ori at k1
    unfold cr d2
    grind
  have a3 := cr_tr (lx_hp l2) (lx_hp l3) (lx_hp l1) a1 a2
  rw [cr_anti] at a3
  rw [ori_cr] at turn
  omega
/-- there is one chain only -/
theorem ch_one : ∀ (r r' : List GP) (c : GP), Conv (c :: r) → Conv (c :: r') → bot c r = bot c r' → (∀ x ∈ c :: r', LA x (c :: r)) → (∀ x ∈ c :: r, LA x (c :: r')) → r = r'
  | [], [], _, _, _, _, _, _ => rfl
  | [], b :: r', c, _, h', e, _, _ => by
    exfalso
    have e : c = bot b r' := e
    have := Conv.le h' (bot b r') (bot_mem r' b)
    rw [← e] at this
    exact lx_irr this
  | b :: r, [], c, h, _, e, _, _ => by
    exfalso
    have e : bot b r = c := e
    have := Conv.le h (bot b r) (bot_mem r b)
    rw [e] at this
    exact lx_irr this
  | b :: r, b' :: r', c, h, h', e, l, l' => by
    have lb := h.tail.1
    have lb' := h'.tail.1
    have e1 : 0 ≤ ori b c b' := (l b' (.tail _ (.head _))).1
    have e2 : 0 ≤ ori b' c b := (l' b (.tail _ (.head _))).1
    have e3 : ori b' c b = - ori b c b' := by
      unfold ori
      grind
    have e4 : ori b c b' = 0 := by omega
    have main : ∀ {b b' : GP} {r r' : List GP}, Conv (c :: b :: r) → Conv (c :: b' :: r') → bot b r = bot b' r' → (∀ x ∈ c :: b :: r, LA x (c :: b' :: r')) → ori b c b' = 0 → lx b b' → False := by
      intro b b' r r' h h' e l' e4 k
      have lb' := h'.tail.1
      cases r' with
      | nil =>
        have e : bot b r = b' := e
        rcases Conv.bot h.tail.2 b (.head _) with z | z
        · rw [← z] at e
          rw [e] at k
          exact lx_irr k
        · rw [e] at z
          exact lx_irr (lx_trans k z)
      | cons a' r' =>
        have t := h'.turn
        have k1 := (l' b (.tail _ (.head _))).2.1
        have la' := h'.tail.2.tail.1
        have a1 : 0 ≤ cr (d2 b b') (d2 a' b') := by
          unfold ori at k1
          unfold cr d2
          grind
        have a2 := cr_tr2 (lx_hp k) (lx_hp la') (lx_hp lb') a1 t
        unfold ori at e4
        unfold cr d2 at a2
        grind
    rcases lx_tri b b' with k | rfl | k
    · exact (main h h' e l' e4 k).elim
    · refine congrArg (b :: ·) (ch_one r r' b h.tail.2 h'.tail.2 e (fun x hx => (l x (.tail _ hx)).2) fun x hx => (l' x (.tail _ hx)).2)
    · exact (main h' h e.symm l (by rw [e3, e4]; rfl) k).elim
theorem cyc_at {A B : List GP} {m M a b : GP} {k : Nat} (hA : A[0]? = some m) (hB : B[0]? = some M) (hk : k < (A ++ B).length) (ha : (A ++ B)[k]? = some a) (hb : (A ++ B)[(k + 1) % (A ++ B).length]? = some b) :
    (k < A.length ∧ (A ++ [M])[k]? = some a ∧ (A ++ [M])[k + 1]? = some b) ∨ (A.length ≤ k ∧ (B ++ [m])[k - A.length]? = some a ∧ (B ++ [m])[k - A.length + 1]? = some b) := by
  have lA : 0 < A.length := (List.getElem?_eq_some_iff.mp hA).1
  have lB : 0 < B.length := (List.getElem?_eq_some_iff.mp hB).1
  rw [List.length_append] at hk hb
  rcases Nat.lt_or_ge k A.length with c | c
  · refine .inl ⟨c, ?_, ?_⟩
    · rw [List.getElem?_append_left c] at ha ⊢
      exact ha
    · rw [Nat.mod_eq_of_lt (by omega)] at hb
      rcases Nat.lt_or_ge (k + 1) A.length with d | d
      · rw [List.getElem?_append_left d] at hb ⊢
        exact hb
      · rw [List.getElem?_append_right d] at hb ⊢
        have e : k + 1 - A.length = 0 := by omega
        rw [e] at hb ⊢
        rw [hB] at hb
        exact hb
  · refine .inr ⟨c, ?_, ?_⟩
    · rw [List.getElem?_append_right c] at ha
      rw [List.getElem?_append_left (by omega)]
      exact ha
    · rcases Nat.lt_or_ge (k + 1) (A.length + B.length) with d | d
      · rw [Nat.mod_eq_of_lt d, List.getElem?_append_right (by omega)] at hb
        rw [List.getElem?_append_left (by omega), ← hb]
        congr 1
        omega
      · have e : k + 1 = A.length + B.length := by omega
        rw [e, Nat.mod_self, List.getElem?_append_left lA, hA] at hb
        rw [List.getElem?_append_right (by omega), show k - A.length + 1 - B.length = 0 by omega, ← hb]
        rfl
/-- found goes around the points us -/
structure Around (us h : List GP) : Prop where
  ne : h ≠ []
  nodup : h.Nodup
  sub : ∀ x ∈ h, x ∈ us
  first : ∀ a, h[0]? = some a → ∀ q ∈ us, q = a ∨ lx a q
  last : h.length < 3 → ∀ a, h[h.length - 1]? = some a → ∀ q ∈ us, q = a ∨ lx q a
  turn : ∀ k a b c, 2 < h.length → k < h.length → h[k]? = some a → h[(k + 1) % h.length]? = some b → h[(k + 2) % h.length]? = some c → 0 < ori a b c
  edge : ∀ k a b, k < h.length → h[k]? = some a → h[(k + 1) % h.length]? = some b → ∀ q ∈ us, 0 ≤ ori a b q
theorem Two.flip {us : List GP} {m M : GP} {rS rT : List GP} (h : Two us m M rS rT) : Ch ((us.map ng).map ng) (ng (ng m)) (ng (ng M)) rS := by
  rw [ng_ng, ng_ng, show (us.map ng).map ng = us by rw [List.map_map]; exact List.map_id'' (fun a => ng_ng a) _]
  exact h.cs
theorem ngv {B : List GP} {m a : GP} {j : Nat} : ((m :: B).reverse)[j]? = some a ↔ ((ng m :: B.map ng).reverse)[j]? = some (ng a) := by
  rw [← List.map_cons, ← List.map_reverse, List.getElem?_map]
  constructor
  · intro h
    rw [h]
    rfl
  · intro h
    cases z : (m :: B).reverse[j]? with
    | none => rw [z] at h; cases h
    | some x =>
      rw [z] at h
      have h : ng x = ng a := Option.some.inj h
      rw [← ng_ng x, h, ng_ng]
theorem hull_around {us : List GP} (hu : Up us) (hne : us ≠ []) : Around us (hull us) := by
  by_cases hl : us.length = 1
  · have e : hull us = us := if_pos hl
    obtain ⟨m, rfl⟩ := List.length_eq_one_iff.mp hl
    rw [e]
    refine ⟨hne, (List.pairwise_singleton _ _ : List.Nodup [m]), fun x hx => hx, fun a ha q hq => ?_, fun _ a ha q hq => ?_, fun k a b c h => absurd h (by simp), fun k a b hk ha hb q hq => ?_⟩
    · cases ha
      exact .inl (List.mem_singleton.mp hq)
    · cases ha
      exact .inl (List.mem_singleton.mp hq)
    · have hk : k = 0 := by simpa using hk
      subst hk
      cases ha
      have hb : some m = some b := by simpa using hb
      cases hb
      rw [List.mem_singleton.mp hq]
      unfold ori
      grind
  · have hl2 : 2 ≤ us.length := by
      have : us.length ≠ 0 := fun z => hne (List.length_eq_zero_iff.mp z)
      omega
    obtain ⟨m, M, rS, rT, h⟩ := two_of hu hne
    obtain ⟨_, _, mS, MT⟩ := h.mem hu hl2
    have hmM := h.mM hu hl2
    have hsub := h.sub hl
    have lS : 0 < rS.length := List.length_pos_of_mem mS
    have lT : 0 < rT.length := List.length_pos_of_mem MT
    have c10 : (M :: rS).reverse[0]? = some m := by rw [rev_0, h.cs.bot]
    have c20 : (m :: rT).reverse[0]? = some M := ngv.mpr (by rw [rev_0, h.ct.bot])
    have hA : rS.reverse[0]? = some m := by
      rw [List.reverse_cons, List.getElem?_append_left (by simpa using lS)] at c10
      exact c10
    have hB : rT.reverse[0]? = some M := by
      rw [List.reverse_cons, List.getElem?_append_left (by simpa using lT)] at c20
      exact c20
    have eS := List.reverse_cons (a := M) (as := rS)
    have eT := List.reverse_cons (a := m) (as := rT)
    have at1 : ∀ {k : Nat} {a b : GP}, k < (rS.reverse ++ rT.reverse).length → (rS.reverse ++ rT.reverse)[k]? = some a → (rS.reverse ++ rT.reverse)[(k + 1) % (rS.reverse ++ rT.reverse).length]? = some b →
        (k < rS.length ∧ (M :: rS).reverse[k]? = some a ∧ (M :: rS).reverse[k + 1]? = some b) ∨ (rS.length ≤ k ∧ (m :: rT).reverse[k - rS.length]? = some a ∧ (m :: rT).reverse[k - rS.length + 1]? = some b) := fun hk ha hb => by
      have := cyc_at hA hB hk ha hb
      rw [← eS, ← eT, List.length_reverse] at this
      exact this
    have len : (rS.reverse ++ rT.reverse).length = rS.length + rT.length := by rw [List.length_append, List.length_reverse, List.length_reverse]
    have back : ∀ {q : GP}, q ∈ us → ng q ∈ us.map ng := fun {q} hq => List.mem_map.mpr ⟨q, hq, rfl⟩
    have upT : ∀ {i j : Nat} {a b : GP}, (m :: rT).reverse[i]? = some a → (m :: rT).reverse[j]? = some b → i < j → lx b a := fun {i j a b} hi hj c => by
      obtain ⟨i1, e1⟩ := List.getElem?_eq_some_iff.mp (ngv.mp hi)
      obtain ⟨i2, e2⟩ := List.getElem?_eq_some_iff.mp (ngv.mp hj)
      have := (List.pairwise_iff_getElem.mp h.ct.conv.up) _ _ i1 i2 c
      rw [e1, e2] at this
      exact lx_ng.mp this
    have topT : (m :: rT).reverse[rT.length]? = some m := rev_top rT m
    rw [h.eq hl]
    rw [h.eq hl] at hsub
    refine ⟨?_, ?_, hsub, fun a ha q hq => ?_, fun hn a ha q hq => ?_, fun k a b c hn hk ha hb hc => ?_, fun k a b hk ha hb q hq => ?_⟩
    · intro z
      have := congrArg List.length z
      rw [len, List.length_nil] at this
      omega
    · refine List.nodup_append.mpr ⟨?_, ?_, ?_⟩
      · have := h.cs.conv.up
        rw [eS] at this
        exact (List.pairwise_append.mp this).1.imp fun {a b} (h : _) (e : a = b) => by subst e; exact lx_irr h
      · have := h.ct.conv.up
        rw [← List.map_cons, ← List.map_reverse, eT] at this
        have := List.pairwise_map.mp this
        exact (List.pairwise_append.mp this).1.imp fun {a b} (h : _) (e : a = b) => by subst e; exact lx_irr h
      · intro x hx y hy e
        subst e
        obtain ⟨i, hi⟩ := List.mem_iff_getElem?.mp hx
        obtain ⟨j, hj⟩ := List.mem_iff_getElem?.mp hy
        have li := (List.getElem?_eq_some_iff.mp hi).1
        have lj := (List.getElem?_eq_some_iff.mp hj).1
        rw [List.length_reverse] at li lj
        have hi' : (M :: rS).reverse[i]? = some x := by
          rw [eS, List.getElem?_append_left (by simpa using li)]
          exact hi
        have hj' : (m :: rT).reverse[j]? = some x := by
          rw [eT, List.getElem?_append_left (by simpa using lj)]
          exact hj
        cases i with
        | zero =>
          rw [hA] at hi
          cases hi
          exact lx_irr (upT hj' topT lj)
        | succ i =>
          obtain ⟨s, hs⟩ : ∃ s, (M :: rS).reverse[i]? = some s := ⟨_, List.getElem?_eq_getElem (by simp; omega)⟩
          obtain ⟨u, hu⟩ : ∃ s, (M :: rS).reverse[i + 2]? = some s := ⟨_, List.getElem?_eq_getElem (by simp; omega)⟩
          obtain ⟨t, ht⟩ : ∃ s, (m :: rT).reverse[j + 1]? = some s := ⟨_, List.getElem?_eq_getElem (by simp; omega)⟩
          exact apart h.cs h.ct hs hi' hu (ngv.mp hj') (ngv.mp ht)
    · rw [List.getElem?_append_left (by simpa using lS), hA] at ha
      cases ha
      exact h.lo q hq
    · rw [len] at hn ha
      rw [List.getElem?_append_right (by rw [List.length_reverse]; omega), List.length_reverse, show rS.length + rT.length - 1 - rS.length = 0 by omega, hB] at ha
      cases ha
      exact h.hi q hq
    · have hc' : (rS.reverse ++ rT.reverse)[((k + 1) % (rS.reverse ++ rT.reverse).length + 1) % (rS.reverse ++ rT.reverse).length]? = some c := by
        rw [Nat.mod_add_mod]
        exact hc
      have hk' : (k + 1) % (rS.reverse ++ rT.reverse).length < (rS.reverse ++ rT.reverse).length := Nat.mod_lt _ (by omega)
      rcases at1 hk ha hb with ⟨k1, a1, b1⟩ | ⟨k1, a1, b1⟩
      · have ek : (k + 1) % (rS.reverse ++ rT.reverse).length = k + 1 := Nat.mod_eq_of_lt (by rw [len]; omega)
        rw [ek] at hk' hb hc'
        rcases at1 hk' hb hc' with ⟨k2, a2, b2⟩ | ⟨k2, a2, b2⟩
        · exact h.cs.conv.at a1 b1 b2
        · have ek2 : k + 1 - rS.length = 0 := by omega
          rw [ek2] at a2 b2
          rw [c20] at a2
          cases a2
          refine join_top h.cs h.ct hmM ?_ (a := a) (c := c) ?_ lS (ngv.mp b2)
          · rw [List.length_map]
            rw [len] at hn
            omega
          · rw [show rS.length - 1 = k by omega]
            exact a1
      · rcases Nat.lt_or_ge (k + 1) (rS.reverse ++ rT.reverse).length with d | d
        · have ek : (k + 1) % (rS.reverse ++ rT.reverse).length = k + 1 := Nat.mod_eq_of_lt d
          rw [ek] at hk' hb hc'
          rcases at1 hk' hb hc' with ⟨k2, a2, b2⟩ | ⟨k2, a2, b2⟩
          · omega
          · rw [show k + 1 - rS.length = k - rS.length + 1 by omega] at a2 b2
            have := h.ct.conv.at (ngv.mp a1) (ngv.mp a2) (ngv.mp b2)
            rwa [ori_ng] at this
        · have ek : (k + 1) % (rS.reverse ++ rT.reverse).length = 0 := by
            rw [show k + 1 = (rS.reverse ++ rT.reverse).length by omega, Nat.mod_self]
          rw [ek] at hk' hb hc'
          rcases at1 hk' hb hc' with ⟨k2, a2, b2⟩ | ⟨k2, a2, b2⟩
          · rw [c10] at a2
            cases a2
            have := join_top h.ct h.flip (lx_ng.mpr hmM) (a := ng a) (c := ng c) ?_ ?_ ?_ ?_
            · rwa [ori_ng] at this
            · rw [List.length_map]
              rw [len] at hn
              omega
            · rw [List.length_map]
              refine ngv.mp ?_
              rw [show rT.length - 1 = k - rS.length by rw [len] at *; omega]
              exact a1
            · rw [List.length_map]
              exact lT
            · rw [ng_ng, ng_ng]
              exact b2
          · omega
    · rcases at1 hk ha hb with ⟨k1, a1, b1⟩ | ⟨k1, a1, b1⟩
      · exact (h.cs.la q hq).at a1 b1
      · have := (h.ct.la (ng q) (back hq)).at (ngv.mp a1) (ngv.mp b1)
        rwa [ori_ng] at this
theorem up_one : ∀ {us us' : List GP}, Up us → Up us' → (∀ q, q ∈ us ↔ q ∈ us') → us = us'
  | [], [], _, _, _ => rfl
  | [], b :: us', _, _, e => by
    have := (e b).mpr (.head _)
    cases this
  | a :: us, [], _, _, e => by
    have := (e a).mp (.head _)
    cases this
  | a :: us, b :: us', h, h', e => by
    have k := List.pairwise_cons.mp h
    have k' := List.pairwise_cons.mp h'
    have hab : a = b := by
      rcases List.mem_cons.mp ((e a).mp (.head _)) with z | z
      · exact z
      · rcases List.mem_cons.mp ((e b).mpr (.head _)) with y | y
        · exact y.symm
        · exact (lx_irr (lx_trans (k.1 _ y) (k'.1 _ z))).elim
    subst hab
    refine congrArg (a :: ·) (up_one k.2 k'.2 fun q => ?_)
    constructor
    · intro hq
      rcases List.mem_cons.mp ((e q).mp (.tail _ hq)) with z | z
      · rw [z] at hq
        exact (lx_irr (k.1 _ hq)).elim
      · exact z
    · intro hq
      rcases List.mem_cons.mp ((e q).mpr (.tail _ hq)) with z | z
      · rw [z] at hq
        exact (lx_irr (k'.1 _ hq)).elim
      · exact z
/-- the corners of points that hold the corners, and only points of the first -/
theorem hull_again {us us' : List GP} (hu : Up us) (hne : us ≠ []) (hu' : Up us') (h1 : ∀ q ∈ hull us, q ∈ us') (h2 : ∀ q ∈ us', q ∈ us) : hull us' = hull us := by
  by_cases hl : us.length = 1
  · have e : hull us = us := if_pos hl
    rw [e] at h1
    rw [up_one hu' hu fun q => ⟨h2 q, h1 q⟩]
  · have hl2 : 2 ≤ us.length := by
      have : us.length ≠ 0 := fun z => hne (List.length_eq_zero_iff.mp z)
      omega
    obtain ⟨m, M, rS, rT, h⟩ := two_of hu hne
    obtain ⟨k1, k2, mS, MT⟩ := h.mem hu hl2
    have hmM := h.mM hu hl2
    have mh := h1 m (k1 m (.tail _ mS))
    have Mh := h1 M (k1 M (.head _))
    have hne' : us' ≠ [] := fun e => by rw [e] at mh; cases mh
    have hl' : us'.length ≠ 1 := fun z => by
      obtain ⟨x, rfl⟩ := List.length_eq_one_iff.mp z
      rw [List.mem_singleton] at mh Mh
      rw [mh, Mh] at hmM
      exact lx_irr hmM
    obtain ⟨m', M', rS', rT', h'⟩ := two_of hu' hne'
    have hm' : m' ∈ us' := by
      have := h'.ct.sub (ng m') (.head _)
      obtain ⟨y, hy, e⟩ := List.mem_map.mp this
      rw [← ng_ng m', ← e, ng_ng]
      exact hy
    have hM' : M' ∈ us' := h'.cs.sub M' (.head _)
    have em : m' = m := by
      rcases h.lo m' (h2 _ hm') with e | e
      · exact e
      · rcases h'.lo m mh with e' | e'
        · exact e'.symm
        · exact (lx_irr (lx_trans e e')).elim
    have eM : M' = M := by
      rcases h.hi M' (h2 _ hM') with e | e
      · exact e
      · rcases h'.hi M Mh with e' | e'
        · exact e'.symm
        · exact (lx_irr (lx_trans e e')).elim
    subst em
    subst eM
    have c1 := ch_one rS' rS M' h'.cs.conv h.cs.conv (by rw [h.cs.bot, h'.cs.bot]) (fun x hx => h'.cs.la x (h1 x (k1 x hx))) fun x hx => h.cs.la x (h2 x (h'.cs.sub x hx))
    have c2 := ch_one (rT'.map ng) (rT.map ng) (ng m') h'.ct.conv h.ct.conv (by rw [h.ct.bot, h'.ct.bot]) (fun x hx => by
        have hx : x ∈ (m' :: rT).map ng := hx
        obtain ⟨y, hy, rfl⟩ := List.mem_map.mp hx
        exact h'.ct.la _ (List.mem_map.mpr ⟨y, h1 y (k2 y hy), rfl⟩)) fun x hx => by
        have := h'.ct.sub x hx
        obtain ⟨y, hy, rfl⟩ := List.mem_map.mp this
        exact h.ct.la _ (List.mem_map.mpr ⟨y, h2 y hy, rfl⟩)
    have c3 : rT' = rT := by
      have := congrArg (List.map ng) c2
      rw [List.map_map, List.map_map] at this
      exact (List.map_id'' (fun a => ng_ng a) rT').symm.trans (this.trans (List.map_id'' (fun a => ng_ng a) rT))
    rw [h.eq hl, h'.eq hl', c1, c3]
/-! ### what holds at the corners holds at the points -/
theorem edge_lin {b c q : GP} {u v w : Int} (hu : u ≤ 0) (h1 : lx b q) (h2 : lx q c) (h : 0 ≤ ori b c q) (fb : 0 ≤ u * b.1 + v * b.2 + w) (fc : 0 ≤ u * c.1 + v * c.2 + w) : 0 ≤ u * q.1 + v * q.2 + w := by
  have hb : 0 ≤ q.2 - b.2 := by unfold lx at h1; omega
  have hc : 0 ≤ c.2 - q.2 := by unfold lx at h2; omega
  rcases Int.lt_or_le 0 (c.2 - b.2) with k | k
  · refine pos_of k ?_
    have e : (c.2 - b.2) * (u * q.1 + v * q.2 + w) = (c.2 - q.2) * (u * b.1 + v * b.2 + w) + (q.2 - b.2) * (u * c.1 + v * c.2 + w) + (-u) * ori b c q := by
      unfold ori
      grind
    rw [e]
    have m1 := Int.mul_nonneg hc fb
    have m2 := Int.mul_nonneg hb fc
    have m3 := Int.mul_nonneg (show 0 ≤ -u by omega) h
    omega
  · have e1 : q.2 = b.2 := by omega
    have e2 : c.2 = b.2 := by omega
    have k1 : 0 < q.1 - b.1 := by unfold lx at h1; omega
    have k2 : 0 < c.1 - q.1 := by unfold lx at h2; omega
    refine pos_of (show 0 < c.1 - b.1 by omega) ?_
    have e : (c.1 - b.1) * (u * q.1 + v * q.2 + w) = (c.1 - q.1) * (u * b.1 + v * b.2 + w) + (q.1 - b.1) * (u * c.1 + v * c.2 + w) := by
      rw [e1, e2]
      grind
    rw [e]
    have m1 := Int.mul_nonneg (Int.le_of_lt k2) fb
    have m2 := Int.mul_nonneg (Int.le_of_lt k1) fc
    omega
theorem chain_lin {q : GP} {u v w : Int} (hu : u ≤ 0) : ∀ (r : List GP) (c : GP), Conv (c :: r) → LA q (c :: r) → (q = bot c r ∨ lx (bot c r) q) → (q = c ∨ lx q c) → (∀ t ∈ c :: r, 0 ≤ u * t.1 + v * t.2 + w) → 0 ≤ u * q.1 + v * q.2 + w
  | [], c, _, _, h1, h2, f => by
    rcases h2 with rfl | h2
    · exact f _ (.head _)
    · rcases h1 with e | e
      · have e : q = c := e
        rw [e]
        exact f c (.head _)
      · have e : lx c q := e
        exact (lx_irr (lx_trans e h2)).elim
  | b :: r, c, hc, hl, h1, h2, f => by
    rcases h2 with rfl | h2
    · exact f _ (.head _)
    rcases lx_tri q b with k | rfl | k
    · exact chain_lin hu r b hc.tail.2 hl.2 h1 (.inr k) fun t ht => f t (.tail _ ht)
    · exact f _ (.tail _ (.head _))
    · exact edge_lin hu k h2 hl.1 (f b (.tail _ (.head _))) (f c (.head _))
theorem hull_lin {us : List GP} (hu : Up us) (hne : us ≠ []) {u v w : Int} (f : ∀ t ∈ hull us, 0 ≤ u * t.1 + v * t.2 + w) : ∀ q ∈ us, 0 ≤ u * q.1 + v * q.2 + w := by
  intro q hq
  by_cases hl : us.length = 1
  · have e : hull us = us := if_pos hl
    rw [e] at f
    exact f q hq
  · have hl2 : 2 ≤ us.length := by
      have : us.length ≠ 0 := fun z => hne (List.length_eq_zero_iff.mp z)
      omega
    obtain ⟨m, M, rS, rT, h⟩ := two_of hu hne
    obtain ⟨k1, k2, _, _⟩ := h.mem hu hl2
    rcases Int.le_total u 0 with c | c
    · exact chain_lin c rS M h.cs.conv (h.cs.la q hq) (by rw [h.cs.bot]; exact h.lo q hq) (h.hi q hq) fun t ht => f t (k1 t ht)
    · have hq' : ng q ∈ us.map ng := List.mem_map.mpr ⟨q, hq, rfl⟩
      have := chain_lin (q := ng q) (u := -u) (v := -v) (w := w) (by omega) (rT.map ng) (ng m) h.ct.conv (h.ct.la _ hq') (by
        rw [h.ct.bot]
        rcases h.hi q hq with e | e
        · exact .inl (by rw [e])
        · exact .inr (lx_ng.mpr e)) (by
        rcases h.lo q hq with e | e
        · exact .inl (by rw [e])
        · exact .inr (lx_ng.mpr e)) (fun t ht => by
        have ht' : t ∈ (m :: rT).map ng := ht
        obtain ⟨y, hy, rfl⟩ := List.mem_map.mp ht'
        have := f y (k2 y hy)
        unfold ng
        simp only [Int.neg_mul_neg]
        exact this)
      unfold ng at this
      simp only [Int.neg_mul_neg] at this
      exact this
theorem hull_lohi {us : List GP} (hu : Up us) (hne : us ≠ []) : (∃ m ∈ hull us, ∀ q ∈ us, q = m ∨ lx m q) ∧ ∃ M ∈ hull us, ∀ q ∈ us, q = M ∨ lx q M := by
  by_cases hl : us.length = 1
  · have e : hull us = us := if_pos hl
    obtain ⟨m, rfl⟩ := List.length_eq_one_iff.mp hl
    rw [e]
    exact ⟨⟨m, .head _, fun q hq => .inl (List.mem_singleton.mp hq)⟩, ⟨m, .head _, fun q hq => .inl (List.mem_singleton.mp hq)⟩⟩
  · have hl2 : 2 ≤ us.length := by
      have : us.length ≠ 0 := fun z => hne (List.length_eq_zero_iff.mp z)
      omega
    obtain ⟨m, M, rS, rT, h⟩ := two_of hu hne
    obtain ⟨k1, k2, _, _⟩ := h.mem hu hl2
    exact ⟨⟨m, k2 m (.head _), h.lo⟩, ⟨M, k1 M (.head _), h.hi⟩⟩
def add (a z : GP) : GP := (a.1 + z.1, a.2 + z.2)
theorem lx_add {a x y : GP} (h : lx x y) : lx (add a x) (add a y) := by
  unfold lx add at *
  simp only []
  omega
theorem lx_le {a b c : GP} (h : b = a ∨ lx a b) (k : c = b ∨ lx b c) : c = a ∨ lx a c := by
  rcases h with rfl | h
  · exact k
  · rcases k with rfl | k
    · exact .inr h
    · exact .inr (lx_trans h k)
theorem lx_ge {a b c : GP} (h : b = a ∨ lx b a) (k : c = b ∨ lx c b) : c = a ∨ lx c a := by
  rcases h with rfl | h
  · exact k
  · rcases k with rfl | k
    · exact .inr h
    · exact .inr (lx_trans k h)
/-- around the sums of the corners: around the sums of the points -/
theorem around_up {us U us' h : List GP} {p q : GP} (hU : Up U) (hne : U ≠ []) (ar : Around us h) (h1 : ∀ t ∈ hull U, add p t ∈ us ∧ add q t ∈ us) (h2 : ∀ y ∈ us', ∃ x ∈ U, y = add p x ∨ y = add q x) (h3 : ∀ y ∈ us, y ∈ us') : Around us' h := by
  obtain ⟨⟨m, mh, hm⟩, ⟨M, Mh, hM⟩⟩ := hull_lohi hU hne
  refine ⟨ar.ne, ar.nodup, fun x hx => h3 x (ar.sub x hx), fun a ha y hy => ?_, fun hn a ha y hy => ?_, ar.turn, fun k a b hk ha hb y hy => ?_⟩
  · obtain ⟨x, hx, e⟩ := h2 y hy
    rcases e with rfl | rfl
    · refine lx_le (ar.first a ha _ (h1 m mh).1) ?_
      rcases hm x hx with rfl | e
      · exact .inl rfl
      · exact .inr (lx_add e)
    · refine lx_le (ar.first a ha _ (h1 m mh).2) ?_
      rcases hm x hx with rfl | e
      · exact .inl rfl
      · exact .inr (lx_add e)
  · obtain ⟨x, hx, e⟩ := h2 y hy
    rcases e with rfl | rfl
    · refine lx_ge (ar.last hn a ha _ (h1 M Mh).1) ?_
      rcases hM x hx with rfl | e
      · exact .inl rfl
      · exact .inr (lx_add e)
    · refine lx_ge (ar.last hn a ha _ (h1 M Mh).2) ?_
      rcases hM x hx with rfl | e
      · exact .inl rfl
      · exact .inr (lx_add e)
  · have lin : ∀ s : GP, (∀ t ∈ hull U, add s t ∈ us) → ∀ x ∈ U, 0 ≤ ori a b (add s x) := fun s hs x hx => by
      have := hull_lin (u := -(b.2 - a.2)) (v := b.1 - a.1) (w := (b.1 - a.1) * (s.2 - b.2) - (b.2 - a.2) * (s.1 - b.1)) hU hne (fun t ht => by
        have := ar.edge k a b hk ha hb _ (hs t ht)
        unfold ori add at this
        grind) x hx
      unfold ori add
      grind
    obtain ⟨x, hx, e⟩ := h2 y hy
    rcases e with rfl | rfl
    · exact lin p (fun t ht => (h1 t ht).1) x hx
    · exact lin q (fun t ht => (h1 t ht).2) x hx
/-! ### one list only goes around -/
def dt (u v : GP) : Int := u.1 * v.1 + u.2 * v.2
theorem sq_nonneg' (a : Int) : 0 ≤ a * a := by
  rcases Int.le_total 0 a with h | h
  · exact Int.mul_nonneg h h
  · exact Int.mul_nonneg_of_nonpos_of_nonpos h h
theorem dt_pos {u : GP} (h : u ≠ (0, 0)) : 0 < dt u u := by
  have h1 := sq_nonneg' u.1
  have h2 := sq_nonneg' u.2
  unfold dt
  rcases Int.lt_or_le 0 (u.1 * u.1 + u.2 * u.2) with k | k
  · exact k
  · exfalso
    have a1 : u.1 * u.1 = 0 := by omega
    have a2 : u.2 * u.2 = 0 := by omega
    exact h (Prod.ext ((Int.mul_eq_zero.mp a1).elim id id) ((Int.mul_eq_zero.mp a2).elim id id))
theorem par_id {u v w : GP} (h : cr u v = 0) : dt u u * cr w v = dt u v * cr w u := by
  have e : dt u u * cr w v - dt u v * cr w u = cr u v * dt u w := by
    unfold dt cr
    grind
  rw [h, Int.zero_mul] at e
  omega
theorem par_v {u v : GP} (h : cr u v = 0) : dt u u * v.1 = dt u v * u.1 ∧ dt u u * v.2 = dt u v * u.2 := by
  constructor
  · have e : dt u u * v.1 - dt u v * u.1 = - (cr u v * u.2) := by
      unfold dt cr
      grind
    rw [h, Int.zero_mul] at e
    omega
  · have e : dt u u * v.2 - dt u v * u.2 = cr u v * u.1 := by
      unfold dt cr
      grind
    rw [h, Int.zero_mul] at e
    omega
theorem hp_ne {u : GP} (h : hp u) : u ≠ (0, 0) := by
  rintro rfl
  unfold hp at h
  omega
theorem hp_same {u v : GP} (hu : hp u) (hv : hp v) (h : cr u v = 0) : 0 < dt u v := by
  obtain ⟨e1, e2⟩ := par_v h
  have pu := dt_pos (hp_ne hu)
  rcases Int.lt_or_le 0 (dt u v) with k | k
  · exact k
  exfalso
  rcases hu with z | ⟨z1, z2⟩
  · have m1 : dt u v * u.2 ≤ 0 := Int.mul_nonpos_of_nonpos_of_nonneg k (Int.le_of_lt z)
    rcases hv with y | ⟨y1, y2⟩
    · have := Int.mul_pos pu y
      omega
    · rw [y1, Int.mul_zero] at e2
      rcases Int.mul_eq_zero.mp e2.symm with x | x
      · rw [x, Int.zero_mul] at e1
        have := Int.mul_pos pu y2
        omega
      · omega
  · rw [z1, Int.mul_zero] at e2
    have m1 : dt u v * u.1 ≤ 0 := Int.mul_nonpos_of_nonpos_of_nonneg k (Int.le_of_lt z2)
    rcases hv with y | ⟨y1, y2⟩
    · have := Int.mul_pos pu y
      omega
    · have := Int.mul_pos pu y2
      omega
theorem d2_ne {a b : GP} (h : a ≠ b) : d2 a b ≠ (0, 0) := by
  intro e
  have e1 := congrArg Prod.fst e
  have e2 := congrArg Prod.snd e
  unfold d2 at e1 e2
  exact h (Prod.ext (by simp at e1; omega) (by simp at e2; omega))
/-- b' lies on the line of a and b, on the side of b -/
theorem Around.side {us h : List GP} (ar : Around us h) {k : Nat} {a b b' : GP} (hk : k < h.length) (ha : h[k]? = some a) (hb : h[(k + 1) % h.length]? = some b) (hab : a ≠ b) (hb' : b' ∈ us) (hab' : a ≠ b') (c : cr (d2 a b) (d2 a b') = 0) : 0 < dt (d2 a b) (d2 a b') := by
  have am := ar.sub a (List.mem_of_getElem? ha)
  have bm := ar.sub b (List.mem_of_getElem? hb)
  rcases Nat.lt_or_ge 2 h.length with n3 | n2
  · obtain ⟨p, hp'⟩ : ∃ p, h[(k + (h.length - 1)) % h.length]? = some p := ⟨_, List.getElem?_eq_getElem (Nat.mod_lt _ (by omega))⟩
    have i1 : ((k + (h.length - 1)) % h.length + 1) % h.length = k := by
      rw [Nat.mod_add_mod, show k + (h.length - 1) + 1 = k + h.length by omega, Nat.add_mod_right, Nat.mod_eq_of_lt hk]
    have i2 : ((k + (h.length - 1)) % h.length + 2) % h.length = (k + 1) % h.length := by
      rw [Nat.mod_add_mod, show k + (h.length - 1) + 2 = k + 1 + h.length by omega, Nat.add_mod_right]
    have t := ar.turn _ p a b n3 (Nat.mod_lt _ (by omega)) hp' (by rw [i1]; exact ha) (by rw [i2]; exact hb)
    have e := ar.edge _ p a (Nat.mod_lt _ (by omega)) hp' (by rw [i1]; exact ha) b' hb'
    rw [ori_cr] at t e
    have pu := dt_pos (d2_ne hab)
    have id := par_id (w := d2 p a) c
    rcases Int.lt_or_le 0 (dt (d2 a b) (d2 a b')) with z | z
    · exact z
    · exfalso
      have m1 := Int.mul_nonneg (Int.le_of_lt pu) e
      rcases Int.lt_or_le (dt (d2 a b) (d2 a b')) 0 with y | y
      · have m2 := Int.mul_neg_of_neg_of_pos y t
        omega
      · have y0 : dt (d2 a b) (d2 a b') = 0 := by omega
        obtain ⟨v1, v2⟩ := par_v c
        rw [y0, Int.zero_mul] at v1 v2
        have w1 := (Int.mul_eq_zero.mp v1).resolve_left (by omega)
        have w2 := (Int.mul_eq_zero.mp v2).resolve_left (by omega)
        exact d2_ne hab' (Prod.ext w1 w2)
  · -- two corners
    have hn : h.length = 2 := by
      have : h.length ≠ 1 := fun z => by
        have hk0 : k = 0 := by omega
        rw [hk0] at ha
        rw [z, Nat.mod_one, ha] at hb
        exact hab (Option.some.inj hb)
      omega
    rw [hn] at hb hk
    have k01 : k = 0 ∨ k = 1 := by omega
    rcases k01 with rfl | rfl
    · have f := ar.first a ha
      have l1 := (f b bm).resolve_left fun e => hab e.symm
      have l2 := (f b' hb').resolve_left fun e => hab' e.symm
      exact hp_same (lx_hp l1) (lx_hp l2) c
    · have f := ar.last (by omega) a (by rw [hn]; exact ha)
      have l1 := (f b bm).resolve_left fun e => hab e.symm
      have l2 := (f b' hb').resolve_left fun e => hab' e.symm
      have := hp_same (lx_hp l1) (lx_hp l2) (by unfold cr d2 at *; grind)
      unfold dt d2 at *
      grind
/-- no point beyond b -/
theorem Around.near {us h : List GP} (ar : Around us h) {k : Nat} {a b b' : GP} (hk : k < h.length) (ha : h[k]? = some a) (hb : h[(k + 1) % h.length]? = some b) (hab : a ≠ b) (hb' : b' ∈ us) (c : cr (d2 a b) (d2 a b') = 0) : dt (d2 a b) (d2 b b') ≤ 0 := by
  have am := ar.sub a (List.mem_of_getElem? ha)
  have bm := ar.sub b (List.mem_of_getElem? hb)
  have c' : cr (d2 a b) (d2 b b') = 0 := by
    unfold cr d2 at *
    grind
  refine Int.not_lt.mp fun z => ?_
  rcases Nat.lt_or_ge 2 h.length with n3 | n2
  · obtain ⟨q, hq⟩ : ∃ p, h[(k + 2) % h.length]? = some p := ⟨_, List.getElem?_eq_getElem (Nat.mod_lt _ (by omega))⟩
    have t := ar.turn k a b q n3 hk ha hb hq
    have e := ar.edge ((k + 1) % h.length) b q (Nat.mod_lt _ (by omega)) hb (by rw [Nat.mod_add_mod]; exact hq) b' hb'
    rw [ori_cr] at t
    rw [ori_cr2] at e
    have pu := dt_pos (d2_ne hab)
    have id := par_id (w := d2 b q) c'
    rw [cr_anti (d2 a b) (d2 b q)] at id
    have m1 := Int.mul_nonneg (Int.le_of_lt pu) e
    have m2 := Int.mul_pos z t
    rw [Int.mul_neg] at id
    omega
  · have hn : h.length = 2 := by
      have : h.length ≠ 1 := fun z => by
        have hk0 : k = 0 := by omega
        rw [hk0] at ha
        rw [z, Nat.mod_one, ha] at hb
        exact hab (Option.some.inj hb)
      omega
    have hne : b' ≠ b := fun e => by
      rw [e] at z
      unfold dt d2 at z
      grind
    rw [hn] at hb hk
    have k01 : k = 0 ∨ k = 1 := by omega
    rcases k01 with rfl | rfl
    · have f := ar.first a ha
      have g := ar.last (by omega) b (by rw [hn]; exact hb)
      have l1 := (f b bm).resolve_left fun e => hab e.symm
      have l2 := (g b' hb').resolve_left hne
      have := hp_same (lx_hp l1) (lx_hp l2) (by unfold cr d2 at *; grind)
      unfold dt d2 at *
      grind
    · have f := ar.last (by omega) a (by rw [hn]; exact ha)
      have g := ar.first b hb
      have l1 := (f b bm).resolve_left fun e => hab e.symm
      have l2 := (g b' hb').resolve_left hne
      have := hp_same (lx_hp l1) (lx_hp l2) (by unfold cr d2 at *; grind)
      unfold dt d2 at *
      grind
theorem same_next {us h h' : List GP} (ar : Around us h) (ar' : Around us h') {k k' : Nat} {a b b' : GP} (hk : k < h.length) (ha : h[k]? = some a) (hb : h[(k + 1) % h.length]? = some b)
    (hk' : k' < h'.length) (ha' : h'[k']? = some a) (hb' : h'[(k' + 1) % h'.length]? = some b') (hab : a ≠ b) (hab' : a ≠ b') : b = b' := by
  have bm := ar.sub b (List.mem_of_getElem? hb)
  have bm' := ar'.sub b' (List.mem_of_getElem? hb')
  have e1 := ar.edge k a b hk ha hb b' bm'
  have e2 := ar'.edge k' a b' hk' ha' hb' b bm
  rw [ori_cr2] at e1 e2
  have c : cr (d2 a b) (d2 a b') = 0 := by
    rw [cr_anti (d2 a b) (d2 a b')] at e2
    omega
  have c' : cr (d2 a b') (d2 a b) = 0 := by rw [cr_anti, c]; rfl
  have s := ar.side hk ha hb hab bm' hab' c
  have n1 := ar.near hk ha hb hab bm' c
  have n2 := ar'.near hk' ha' hb' hab' bm c'
  have pu := dt_pos (d2_ne hab)
  obtain ⟨v1, v2⟩ := par_v c
  -- u.v <= u.u and u.v >= v.v, so v = u
  have f1 : dt (d2 a b) (d2 a b') ≤ dt (d2 a b) (d2 a b) := by
    unfold dt d2 at *
    grind
  have f2 : dt (d2 a b') (d2 a b) ≤ dt (d2 a b') (d2 a b') := by
    unfold dt d2 at *
    grind
  have f3 : dt (d2 a b) (d2 a b) * dt (d2 a b') (d2 a b') = dt (d2 a b) (d2 a b') * dt (d2 a b) (d2 a b') := by
    have e : dt (d2 a b) (d2 a b) * dt (d2 a b') (d2 a b') - dt (d2 a b) (d2 a b') * dt (d2 a b) (d2 a b') = cr (d2 a b) (d2 a b') * cr (d2 a b) (d2 a b') := by
      unfold dt cr
      grind
    rw [c, Int.zero_mul] at e
    omega
  have f4 : dt (d2 a b') (d2 a b) = dt (d2 a b) (d2 a b') := by
    unfold dt
    grind
  rw [f4] at f2
  have f5 := Int.mul_le_mul_of_nonneg_left f2 (Int.le_of_lt pu)
  rw [f3] at f5
  have f6 : dt (d2 a b) (d2 a b) ≤ dt (d2 a b) (d2 a b') := Int.le_of_mul_le_mul_right f5 s
  have f7 : dt (d2 a b) (d2 a b') = dt (d2 a b) (d2 a b) := by omega
  rw [f7] at v1 v2
  have w1 := Int.eq_of_mul_eq_mul_left (by omega) v1
  have w2 := Int.eq_of_mul_eq_mul_left (by omega) v2
  unfold d2 at w1 w2
  simp only [] at w1 w2
  exact Prod.ext (by omega) (by omega)
theorem cyc_ne {h : List GP} (nd : h.Nodup) {i j : Nat} {a b : GP} (ha : h[i]? = some a) (hb : h[j]? = some b) (c : i ≠ j) : a ≠ b := fun e => by
  subst e
  obtain ⟨h1, e1⟩ := List.getElem?_eq_some_iff.mp ha
  obtain ⟨h2, e2⟩ := List.getElem?_eq_some_iff.mp hb
  rcases Nat.lt_or_gt_of_ne c with k | k
  · exact (List.pairwise_iff_getElem.mp nd) _ _ h1 h2 k (e1.trans e2.symm)
  · exact (List.pairwise_iff_getElem.mp nd) _ _ h2 h1 k (e2.trans e1.symm)
theorem Around.len1 {us h h' : List GP} (ar : Around us h) (ar' : Around us h') (n : h.length = 1) : h'.length = 1 := by
  obtain ⟨m, rfl⟩ := List.length_eq_one_iff.mp n
  have f := ar.first m rfl
  have g := ar.last (by simp) m rfl
  have all : ∀ q ∈ us, q = m := fun q hq => by
    rcases f q hq with e | e
    · exact e
    · rcases g q hq with e' | e'
      · exact e'
      · exact (lx_irr (lx_trans e e')).elim
  have pos : 0 < h'.length := List.length_pos_iff.mpr ar'.ne
  rcases Nat.lt_or_ge 1 h'.length with c | c
  · exfalso
    obtain ⟨a, ha⟩ : ∃ a, h'[0]? = some a := ⟨_, List.getElem?_eq_getElem pos⟩
    obtain ⟨b, hb⟩ : ∃ a, h'[1]? = some a := ⟨_, List.getElem?_eq_getElem c⟩
    exact cyc_ne ar'.nodup ha hb (by omega) ((all a (ar'.sub a (List.mem_of_getElem? ha))).trans (all b (ar'.sub b (List.mem_of_getElem? hb))).symm)
  · omega
theorem Around.first_one {us h h' : List GP} (ar : Around us h) (ar' : Around us h') {a a' : GP} (ha : h[0]? = some a) (ha' : h'[0]? = some a') : a = a' := by
  rcases ar.first a ha a' (ar'.sub a' (List.mem_of_getElem? ha')) with e | e
  · exact e.symm
  · rcases ar'.first a' ha' a (ar.sub a (List.mem_of_getElem? ha)) with e' | e'
    · exact e'
    · exact (lx_irr (lx_trans e e')).elim
theorem Around.agree {us h h' : List GP} (ar : Around us h) (ar' : Around us h') : ∀ k, k < h.length → k < h'.length → h[k]? = h'[k]?
  | 0, h1, h2 => by
    obtain ⟨a, ha⟩ : ∃ a, h[0]? = some a := ⟨_, List.getElem?_eq_getElem h1⟩
    obtain ⟨b, hb⟩ : ∃ a, h'[0]? = some a := ⟨_, List.getElem?_eq_getElem h2⟩
    rw [ha, hb, ar.first_one ar' ha hb]
  | k + 1, h1, h2 => by
    have ih := ar.agree ar' k (by omega) (by omega)
    obtain ⟨a, ha⟩ : ∃ a, h[k]? = some a := ⟨_, List.getElem?_eq_getElem (by omega)⟩
    obtain ⟨b, hb⟩ : ∃ a, h[k + 1]? = some a := ⟨_, List.getElem?_eq_getElem h1⟩
    obtain ⟨b', hb'⟩ : ∃ a, h'[k + 1]? = some a := ⟨_, List.getElem?_eq_getElem h2⟩
    have ha' : h'[k]? = some a := by rw [← ih]; exact ha
    have := same_next ar ar' (by omega) ha (by rw [Nat.mod_eq_of_lt h1]; exact hb) (by omega) ha' (by rw [Nat.mod_eq_of_lt h2]; exact hb') (cyc_ne ar.nodup ha hb (by omega)) (cyc_ne ar'.nodup ha' hb' (by omega))
    rw [hb, hb', this]
theorem Around.len_le {us h h' : List GP} (ar : Around us h) (ar' : Around us h') : h'.length ≤ h.length := by
  have pos : 0 < h.length := List.length_pos_iff.mpr ar.ne
  have pos' : 0 < h'.length := List.length_pos_iff.mpr ar'.ne
  refine Nat.not_lt.mp fun c => ?_
  rcases Nat.lt_or_ge 1 h.length with n | n
  · obtain ⟨a, ha⟩ : ∃ a, h[h.length - 1]? = some a := ⟨_, List.getElem?_eq_getElem (by omega)⟩
    obtain ⟨m, hm⟩ : ∃ a, h[0]? = some a := ⟨_, List.getElem?_eq_getElem pos⟩
    obtain ⟨m', hm'⟩ : ∃ a, h'[0]? = some a := ⟨_, List.getElem?_eq_getElem pos'⟩
    obtain ⟨b', hb'⟩ : ∃ a, h'[h.length]? = some a := ⟨_, List.getElem?_eq_getElem c⟩
    have ha' : h'[h.length - 1]? = some a := by rw [← ar.agree ar' _ (by omega) (by omega)]; exact ha
    have e := ar.first_one ar' hm hm'
    have i1 : h.length - 1 + 1 = h.length := by omega
    have := same_next ar ar' (by omega) ha (by rw [i1, Nat.mod_self]; exact hm) (by omega) ha' (by rw [i1, Nat.mod_eq_of_lt c]; exact hb') (cyc_ne ar.nodup ha hm (by omega)) (cyc_ne ar'.nodup ha' hb' (by omega))
    exact cyc_ne ar'.nodup hb' hm' (by omega) (this.symm.trans e)
  · have := ar.len1 ar' (by omega)
    omega
theorem around_one {us h h' : List GP} (ar : Around us h) (ar' : Around us h') : h = h' := by
  have l := Nat.le_antisymm (ar'.len_le ar) (ar.len_le ar')
  refine List.ext_getElem? fun k => ?_
  rcases Nat.lt_or_ge k h.length with c | c
  · exact ar.agree ar' k c (by omega)
  · rw [List.getElem?_eq_none c, List.getElem?_eq_none (by omega)]
/-! ### corners on a parabola, moved by a matrix -/
def par (a b c d x : Int) : GP := (a * x + b * x * x, c * x + d * x * x)
theorem ori_par (a b c d x y z : Int) : ori (par a b c d x) (par a b c d y) (par a b c d z) = (a * d - b * c) * ((y - x) * (z - x) * (z - y)) := by
  unfold ori par
  grind
theorem par_inj {a b c d x y : Int} (hD : 0 < a * d - b * c) (h : par a b c d x = par a b c d y) : x = y := by
  have e1 := congrArg Prod.fst h
  have e2 := congrArg Prod.snd h
  unfold par at e1 e2
  simp only [] at e1 e2
  have e : (a * d - b * c) * (x - y) = 0 := by grind
  rcases Int.mul_eq_zero.mp e with z | z <;> omega
/-- mv and s of the bases -/
def mvs (mv : GP) (s : Nat) (z : GP) : GP := (s * z.1 + mv.1, s * z.2 + mv.2)
def Cmb (bs : List GP) (mv : GP) (s : Nat) (q : GP) : Prop := ∀ u v w : Int, (∀ b ∈ bs, 0 ≤ u * b.1 + v * b.2 + w) → 0 ≤ u * (q.1 - mv.1) + v * (q.2 - mv.2) + s * w
theorem cmb0 (bs : List GP) (mv : GP) : Cmb bs mv 0 mv := fun u v w _ => by
  rw [Int.sub_self, Int.sub_self]
  simp
theorem cmb1 {bs : List GP} {mv q b : GP} {s : Nat} (h : Cmb bs mv s q) (hb : b ∈ bs) : Cmb bs mv (s + 1) (q.1 + b.1, q.2 + b.2) := fun u v w f => by
  have h1 := h u v w f
  have h2 := f b hb
  have e : u * (q.1 + b.1 - mv.1) + v * (q.2 + b.2 - mv.2) + ((s + 1 : Nat) : Int) * w = (u * (q.1 - mv.1) + v * (q.2 - mv.2) + s * w) + (u * b.1 + v * b.2 + w) := by
    rw [Int.natCast_add]
    grind
  show 0 ≤ u * (q.1 + b.1 - mv.1) + v * (q.2 + b.2 - mv.2) + ((s + 1 : Nat) : Int) * w
  omega
theorem cmb_mvs {bs : List GP} {mv b : GP} {s : Nat} (hb : b ∈ bs) : Cmb bs mv s (mvs mv s b) := fun u v w f => by
  have h := Int.mul_nonneg (show (0 : Int) ≤ (s : Int) by omega) (f b hb)
  unfold mvs
  simp only []
  grind
theorem ori_mvs (mv p r q : GP) (s : Nat) : ori (mvs mv s p) (mvs mv s r) q = (s : Int) * (-(r.2 - p.2) * (q.1 - mv.1) + (r.1 - p.1) * (q.2 - mv.2) + s * ((r.2 - p.2) * p.1 - (r.1 - p.1) * p.2)) := by
  unfold ori mvs
  grind
theorem lx_mvs {mv p r : GP} {s : Nat} (hs : 1 ≤ s) : lx (mvs mv s p) (mvs mv s r) ↔ lx p r := by
  have hs' : (0 : Int) < (s : Int) := by omega
  have lt : ∀ x y : Int, (s : Int) * x < s * y ↔ x < y := fun x y => Int.mul_lt_mul_left hs'
  have eq : ∀ x y : Int, (s : Int) * x = s * y ↔ x = y := fun x y => ⟨fun h => Int.eq_of_mul_eq_mul_left (by omega) h, fun h => by rw [h]⟩
  unfold lx mvs
  simp only []
  have := lt p.1 r.1
  have := lt p.2 r.2
  have := eq p.2 r.2
  omega
theorem mvs_inj {mv p r : GP} {s : Nat} (hs : 1 ≤ s) (h : mvs mv s p = mvs mv s r) : p = r := by
  rcases lx_tri p r with k | k | k
  · have := (lx_mvs (mv := mv) hs).mpr k
    rw [h] at this
    exact (lx_irr this).elim
  · exact k
  · have := (lx_mvs (mv := mv) hs).mpr k
    rw [h] at this
    exact (lx_irr this).elim
/-- the lowest base is the lowest of all -/
theorem cmb_low {bs : List GP} {mv m q : GP} {s : Nat} (hb : ∀ b ∈ bs, Gb 1000000 b) (hm : Gb 1000000 m) (h : ∀ b ∈ bs, b = m ∨ lx m b) (c : Cmb bs mv s q) : q = mvs mv s m ∨ lx (mvs mv s m) q := by
  have h1 := c 0 1 (-m.2) fun b hb' => by
    rcases h b hb' with e | e
    · rw [e]
      omega
    · unfold lx at e
      omega
  have h2 := c 1 10000000 (-(m.1 + 10000000 * m.2)) fun b hb' => by
    have g := hb b hb'
    unfold Gb at g hm
    rcases h b hb' with e | e
    · rw [e]
      omega
    · unfold lx at e
      omega
  have e3 : (s : Int) * -(m.1 + 10000000 * m.2) = -((s : Int) * m.1) - 10000000 * ((s : Int) * m.2) := by grind
  have e4 : (s : Int) * -m.2 = -((s : Int) * m.2) := by grind
  rw [e3] at h2
  rw [e4] at h1
  unfold mvs lx
  simp only []
  generalize (s : Int) * m.1 = X at *
  generalize (s : Int) * m.2 = Y at *
  rcases Int.lt_trichotomy (Y + mv.2) q.2 with k | k | k
  · exact .inr (.inl k)
  · rcases Int.lt_trichotomy (X + mv.1) q.1 with l | l | l
    · exact .inr (.inr ⟨k, l⟩)
    · exact .inl (Prod.ext l.symm k.symm)
    · omega
  · omega
theorem cmb_high {bs : List GP} {mv m q : GP} {s : Nat} (hb : ∀ b ∈ bs, Gb 1000000 b) (hm : Gb 1000000 m) (h : ∀ b ∈ bs, b = m ∨ lx b m) (c : Cmb bs mv s q) : q = mvs mv s m ∨ lx q (mvs mv s m) := by
  have h1 := c 0 (-1) (m.2) fun b hb' => by
    rcases h b hb' with e | e
    · rw [e]
      omega
    · unfold lx at e
      omega
  have h2 := c (-1) (-10000000) (m.1 + 10000000 * m.2) fun b hb' => by
    have g := hb b hb'
    unfold Gb at g hm
    rcases h b hb' with e | e
    · rw [e]
      omega
    · unfold lx at e
      omega
  have e3 : (s : Int) * (m.1 + 10000000 * m.2) = ((s : Int) * m.1) + 10000000 * ((s : Int) * m.2) := by grind
  rw [e3] at h2
  unfold mvs lx
  simp only []
  generalize (s : Int) * m.1 = X at *
  generalize (s : Int) * m.2 = Y at *
  rcases Int.lt_trichotomy (Y + mv.2) q.2 with k | k | k
  · omega
  · rcases Int.lt_trichotomy (X + mv.1) q.1 with l | l | l
    · omega
    · exact .inl (Prod.ext l.symm k.symm)
    · exact .inr (.inr ⟨k.symm, l⟩)
  · exact .inr (.inl k)
/-! increasing places -/
def Inc (xs : List Int) : Prop := xs.Pairwise (· < ·)
theorem Inc.lt {xs : List Int} (h : Inc xs) {i j : Nat} {x y : Int} (hx : xs[i]? = some x) (hy : xs[j]? = some y) (c : i < j) : x < y := by
  obtain ⟨h1, e1⟩ := List.getElem?_eq_some_iff.mp hx
  obtain ⟨h2, e2⟩ := List.getElem?_eq_some_iff.mp hy
  have := (List.pairwise_iff_getElem.mp h) _ _ h1 h2 c
  rw [e1, e2] at this
  exact this
theorem Inc.le {xs : List Int} (h : Inc xs) {i j : Nat} {x y : Int} (hx : xs[i]? = some x) (hy : xs[j]? = some y) (c : i ≤ j) : x ≤ y := by
  rcases Nat.lt_or_eq_of_le c with k | k
  · exact Int.le_of_lt (h.lt hx hy k)
  · subst k
    rw [hx] at hy
    cases hy
    exact Int.le_refl _
theorem Inc.edge {xs : List Int} (h : Inc xs) {j : Nat} {x x' y : Int} (hj : j < xs.length) (hx : xs[j]? = some x) (hx' : xs[(j + 1) % xs.length]? = some x') (hy : y ∈ xs) : 0 ≤ (x' - x) * (y - x) * (y - x') := by
  obtain ⟨i, hi⟩ := List.mem_iff_getElem?.mp hy
  have il := (List.getElem?_eq_some_iff.mp hi).1
  rcases Nat.lt_or_ge (j + 1) xs.length with c | c
  · rw [Nat.mod_eq_of_lt c] at hx'
    have l := h.lt hx hx' (Nat.lt_succ_self j)
    rcases Nat.lt_or_ge j i with k | k
    · have a1 := h.le hx' hi k
      have a2 := h.lt hx hi k
      exact Int.mul_nonneg (Int.mul_nonneg (by omega) (by omega)) (by omega)
    · have a1 := h.le hi hx k
      rw [Int.mul_assoc]
      exact Int.mul_nonneg (by omega) (Int.mul_nonneg_of_nonpos_of_nonpos (by omega) (by omega))
  · have e : j + 1 = xs.length := by omega
    rw [e, Nat.mod_self] at hx'
    have a1 := h.le hx' hi (Nat.zero_le _)
    have a2 := h.le hi hx (by omega)
    exact Int.mul_nonneg (Int.mul_nonneg_of_nonpos_of_nonpos (by omega) (by omega)) (by omega)
theorem Inc.turn {xs : List Int} (h : Inc xs) {j : Nat} {x x' y : Int} (hn : 2 < xs.length) (hj : j < xs.length) (hx : xs[j]? = some x) (hx' : xs[(j + 1) % xs.length]? = some x') (hy : xs[(j + 2) % xs.length]? = some y) : 0 < (x' - x) * (y - x) * (y - x') := by
  rcases Nat.lt_or_ge (j + 2) xs.length with c | c
  · rw [Nat.mod_eq_of_lt (by omega)] at hx' hy
    have a1 := h.lt hx hx' (by omega)
    have a2 := h.lt hx' hy (by omega)
    exact Int.mul_pos (Int.mul_pos (by omega) (by omega)) (by omega)
  · rcases Nat.lt_or_ge (j + 1) xs.length with d | d
    · rw [Nat.mod_eq_of_lt d] at hx'
      rw [show j + 2 = xs.length by omega, Nat.mod_self] at hy
      have a1 := h.lt hx hx' (by omega)
      have a2 := h.lt hy hx (by omega)
      rw [Int.mul_assoc]
      exact Int.mul_pos (by omega) (Int.mul_pos_of_neg_of_neg (by omega) (by omega))
    · rw [show j + 1 = xs.length by omega, Nat.mod_self] at hx'
      rw [show j + 2 = xs.length + 1 by omega, Nat.add_mod_left, Nat.mod_eq_of_lt (by omega)] at hy
      have a1 := h.lt hx' hy (by omega)
      have a2 := h.lt hy hx (by omega)
      exact Int.mul_pos (Int.mul_pos_of_neg_of_neg (by omega) (by omega)) (by omega)
theorem rot_get {α : Type} {P : List α} {f k : Nat} (hf : f ≤ P.length) (hk : k < P.length) : (P.drop f ++ P.take f)[k]? = P[(f + k) % P.length]? := by
  rcases Nat.lt_or_ge (f + k) P.length with c | c
  · rw [List.getElem?_append_left (by rw [List.length_drop]; omega), List.getElem?_drop, Nat.mod_eq_of_lt c]
  · rw [List.getElem?_append_right (by rw [List.length_drop]; omega), List.length_drop, List.getElem?_take]
    rw [if_pos (by omega), Nat.mod_eq_sub_mod c, Nat.mod_eq_of_lt (by omega)]
    congr 1
    omega
theorem planted_around {a b c d : Int} {xs : List Int} {mv : GP} {s f : Nat} {us : List GP} (hD : 0 < a * d - b * c) (hx : Inc xs) (hs : 1 ≤ s) (hbd : ∀ x ∈ xs, Gb 1000000 (par a b c d x)) (hf : f < xs.length)
    (low : ∀ m, xs[f]? = some m → ∀ x ∈ xs, par a b c d x = par a b c d m ∨ lx (par a b c d m) (par a b c d x))
    (hus : ∀ q ∈ us, Cmb (xs.map (par a b c d)) mv s q) (hP : ∀ x ∈ xs, mvs mv s (par a b c d x) ∈ us) :
    Around us ((xs.map fun x => mvs mv s (par a b c d x)).drop f ++ (xs.map fun x => mvs mv s (par a b c d x)).take f) := by
  generalize hPe : (xs.map fun x => mvs mv s (par a b c d x)) = P
  have lP : P.length = xs.length := by rw [← hPe, List.length_map]
  have lE : (P.drop f ++ P.take f).length = xs.length := by rw [List.length_append, List.length_drop, List.length_take]; omega
  have getP : ∀ {j : Nat} {p : GP}, P[j]? = some p → ∃ x, xs[j]? = some x ∧ p = mvs mv s (par a b c d x) := fun {j p} h => by
    rw [← hPe, List.getElem?_map] at h
    cases z : xs[j]? with
    | none => rw [z] at h; cases h
    | some x => rw [z] at h; exact ⟨x, rfl, (Option.some.inj h).symm⟩
  have getE : ∀ {k : Nat} {p : GP}, k < xs.length → (P.drop f ++ P.take f)[k]? = some p → ∃ x, xs[(f + k) % xs.length]? = some x ∧ p = mvs mv s (par a b c d x) := fun {k p} hk h => by
    rw [rot_get (by omega) (by omega), lP] at h
    exact getP h
  have bsd : ∀ b' ∈ xs.map (par a b c d), Gb 1000000 b' := fun b' hb' => by
    obtain ⟨x, hx', rfl⟩ := List.mem_map.mp hb'
    exact hbd x hx'
  have nd : P.Nodup := by
    rw [← hPe]
    show List.Pairwise (· ≠ ·) _
    rw [List.pairwise_map]
    refine hx.imp fun {x y} (l : x < y) e => ?_
    have := par_inj hD (mvs_inj hs e)
    omega
  refine ⟨fun e => ?_, ?_, fun q hq => ?_, fun p hp' q hq => ?_, fun hn p hp' q hq => ?_, fun k p r t hn hk hp' hr ht => ?_, fun k p r hk hp' hr q hq => ?_⟩
  · have := congrArg List.length e
    rw [lE, List.length_nil] at this
    omega
  · have : (P.take f ++ P.drop f).Nodup := by rw [List.take_append_drop]; exact nd
    exact (List.perm_append_comm.nodup_iff).mp this
  · have : q ∈ P := by
      rcases List.mem_append.mp hq with h | h
      · exact List.mem_of_mem_drop h
      · exact List.mem_of_mem_take h
    rw [← hPe] at this
    obtain ⟨x, hx', rfl⟩ := List.mem_map.mp this
    exact hP x hx'
  · obtain ⟨m, hm, rfl⟩ := getE (by omega) hp'
    rw [Nat.add_zero, Nat.mod_eq_of_lt hf] at hm
    exact cmb_low bsd (hbd m (List.mem_of_getElem? hm)) (fun b' hb' => by
      obtain ⟨x, hx', rfl⟩ := List.mem_map.mp hb'
      exact low m hm x hx') (hus q hq)
  · rw [lE] at hn hp'
    obtain ⟨m, hm, rfl⟩ := getE (by omega) hp'
    refine cmb_high bsd (hbd m (List.mem_of_getElem? hm)) (fun b' hb' => ?_) (hus q hq)
    obtain ⟨x, hx', rfl⟩ := List.mem_map.mp hb'
    obtain ⟨i, hi⟩ := List.mem_iff_getElem?.mp hx'
    have il := (List.getElem?_eq_some_iff.mp hi).1
    by_cases e : i = (f + (xs.length - 1)) % xs.length
    · rw [← e, hi] at hm
      cases hm
      exact .inl rfl
    · -- two bases, x the lower one
      have h2 : xs.length = 2 := by
        have : xs.length ≠ 1 := fun z => by
          rw [z, Nat.mod_one] at e
          omega
        omega
      have ef : i = f := by
        rw [h2] at e il hf
        rcases (show f = 0 ∨ f = 1 by omega) with rfl | rfl
        · have : i ≠ 1 := e
          omega
        · have : i ≠ 0 := e
          omega
      rw [ef] at hi
      rcases low x hi m (List.mem_of_getElem? hm) with e1 | e1
      · exact .inl e1.symm
      · exact .inr e1
  · rw [lE] at hn hk hr ht
    obtain ⟨x, hx1, rfl⟩ := getE hk hp'
    obtain ⟨y, hy1, rfl⟩ := getE (Nat.mod_lt _ (by omega)) hr
    obtain ⟨z, hz1, rfl⟩ := getE (Nat.mod_lt _ (by omega)) ht
    have t := hx.turn (j := (f + k) % xs.length) hn (Nat.mod_lt _ (by omega)) hx1 (by rw [Nat.mod_add_mod, Nat.add_assoc]; rw [Nat.add_mod_mod] at hy1; exact hy1) (by rw [Nat.mod_add_mod, Nat.add_assoc]; rw [Nat.add_mod_mod] at hz1; exact hz1)
    have e : ori (mvs mv s (par a b c d x)) (mvs mv s (par a b c d y)) (mvs mv s (par a b c d z)) = (s : Int) * s * ori (par a b c d x) (par a b c d y) (par a b c d z) := by
      generalize par a b c d x = X
      generalize par a b c d y = Y
      generalize par a b c d z = Z
      unfold ori mvs
      grind
    rw [e, ori_par]
    exact Int.mul_pos (Int.mul_pos (by omega) (by omega)) (Int.mul_pos hD t)
  · rw [lE] at hk hr
    obtain ⟨x, hx1, rfl⟩ := getE hk hp'
    obtain ⟨y, hy1, rfl⟩ := getE (Nat.mod_lt _ (by omega)) hr
    rw [ori_mvs]
    refine Int.mul_nonneg (by omega) (hus q hq _ _ _ fun b' hb' => ?_)
    obtain ⟨z, hz, rfl⟩ := List.mem_map.mp hb'
    have t := hx.edge (j := (f + k) % xs.length) (Nat.mod_lt _ (by omega)) hx1 (by rw [Nat.mod_add_mod, Nat.add_assoc]; rw [Nat.add_mod_mod] at hy1; exact hy1) hz
    have e := ori_par a b c d x y z
    have := Int.mul_nonneg (Int.le_of_lt hD) t
    rw [← e] at this
    generalize par a b c d x = X at *
    generalize par a b c d y = Y at *
    generalize par a b c d z = Z at *
    unfold ori at this
    grind
def sp__law_is_point (K : PySem.W.Frag) : Sp := fun vs H Q _ => ∃ (v : V) (z : GP), vs = [v] ∧ Dp K H v (gD z) ∧ Q (.bl true) H
section
theorem ok__law_is_point {P : Program} {w : World} {K : PySem.W.Frag} {mg : Str → Option Value} {base : Heap} {A : Nat → Addr} {D : Nat → FuncData} (T : Txt K mg A D) : FnOk P w K mg base (L2.CX P w) 2 (A 7) (D 7) ["actual"] (sp__law_is_point K) := by
  refine T.F__law_is_point.okX sc__law_is_point (fun vs H Q E h => ?_) (fun cdv A' outer s H vs Q E hr h => ?_)
  · obtain ⟨v, z, rfl, _⟩ := h
    rfl
  obtain ⟨v, z, rfl, dv, q⟩ := h
  refine ⟨_, (pss_cons (ps_if (PW.pt (pw_or (pt_not (pt_val (pe_callB call_isi (by rfl) T.z_isinstance (by decide +kernel) (pa_cons (pv 0) (pa_cons (pe_bltn (v := .ty "tuple") (by rfl) T.z_tuple (by decide +kernel) rfl) pa_nil))))) (pw_or1 (pt_cmpR op_ne (pe_callB Z.c_len (by rfl) T.z_len (by decide +kernel) (pa_cons (pv 0) pa_nil)) pe_int (nomark _)))))
  (pss_one (ps_ret pe_bl))
  pss_nil)
  (pss_one (ps_ret (pe_and (pe_call (ok__law_is_integer T) (hr.mono (by decide)) (by rfl) T.m__law_is_integer T.F__law_is_integer.kp T.b__law_is_integer .nil (passes_call (takes_of rfl rfl rfl rfl) (fun _ _ _ _ h => h)) (pa_cons (pe_ix ix_tup (pv 0) pe_int (fun _ _ => rfl)) pa_nil)) (pe_one (pe_call (ok__law_is_integer T) (hr.mono (by decide)) (by rfl) T.m__law_is_integer T.F__law_is_integer.kp T.b__law_is_integer .nil (passes_call (takes_of rfl rfl rfl rfl) (fun _ _ _ _ h => h)) (pa_cons (pe_ix ix_tup (pv 0) pe_int (fun _ _ => rfl)) pa_nil))))))), ?_⟩
  obtain ⟨p, rfl, h⟩ := dp_g dv
  walk_at "z"
  exact q
end
/-- drawn bases -/
def sp__law_bases (K : PySem.W.Frag) : Sp := fun vs H Q _ => ∃ (p : Addr) (H0 : Hp), vs = [.ref p] ∧ Sd H0 H p ∧
  ∀ (q : Addr) (ws : List V) (a b c d : Int) (xs : List Int) (H' : Hp), H q = none → q ≠ p → H' q = some (.lst ws) → Gs K H' ws (xs.map (par a b c d)) → 0 < a * d - b * c → Inc xs → 1 ≤ xs.length → xs.length ≤ 24 → (∀ x ∈ xs, Gb 1000000 (par a b c d x)) → Sd H0 H' p → Kp p H H' → Q (.ref q) H'
section
theorem ok__law_bases {P : Program} {w : World} {K : PySem.W.Frag} {mg : Str → Option Value} {base : Heap} {A : Nat → Addr} {D : Nat → FuncData} (T : Txt K mg A D) : FnOk P w K mg base (L2.CX P w) 2 (A 8) (D 8) ["stream"] (sp__law_bases K) := by
  refine T.F__law_bases.okX sc__law_bases (fun vs H Q E h => ?_) (fun cdv A' outer s H vs Q E hr h => ?_)
  · obtain ⟨p, H0, rfl, _⟩ := h
    rfl
  obtain ⟨p, H0, rfl, S, q⟩ := h
  refine ⟨_, (pss_cons (ps_set (i := 1) sc__law_bases.nd rfl (.inl rfl) (pe_op op_add (pe_call (ok__law_draw T) (hr.mono (by decide)) (by rfl) T.m__law_draw T.F__law_draw.kp T.b__law_draw .nil (passes_call (takes_of rfl rfl rfl rfl) (fun _ _ _ _ h => h)) (pa_cons (pv 0) (pa_cons pe_int pa_nil))) pe_int))
  (Evl.pss_cut (ps_if (pt_cmpR op_eq (pe_call (ok__law_draw T) (hr.mono (by decide)) (by rfl) T.m__law_draw T.F__law_draw.kp T.b__law_draw .nil (passes_call (takes_of rfl rfl rfl rfl) (fun _ _ _ _ h => h)) (pa_cons (pv 0) (pa_cons pe_int pa_nil))) pe_int (nomark _))
  (pss_one (ps_set (i := 1) sc__law_bases.nd rfl (.inl rfl) (pe_op op_add (pe_call (ok__law_draw T) (hr.mono (by decide)) (by rfl) T.m__law_draw T.F__law_draw.kp T.b__law_draw .nil (passes_call (takes_of rfl rfl rfl rfl) (fun _ _ _ _ h => h)) (pa_cons (pv 0) (pa_cons pe_int pa_nil))) pe_int)))
  pss_nil)
  (pss_cons (ps_set (i := 2) sc__law_bases.nd rfl (.inl rfl) (pe_op op_sub (pe_call (ok__law_draw T) (hr.mono (by decide)) (by rfl) T.m__law_draw T.F__law_draw.kp T.b__law_draw .nil (passes_call (takes_of rfl rfl rfl rfl) (fun _ _ _ _ h => h)) (pa_cons (pv 0) (pa_cons pe_int pa_nil))) pe_int))
  (pss_cons (ps_set (i := 3) sc__law_bases.nd rfl (.inl rfl) (pe_op op_sub (pe_call (ok__law_draw T) (hr.mono (by decide)) (by rfl) T.m__law_draw T.F__law_draw.kp T.b__law_draw .nil (passes_call (takes_of rfl rfl rfl rfl) (fun _ _ _ _ h => h)) (pa_cons (pv 0) (pa_cons pe_int pa_nil))) pe_int))
  (pss_cons (ps_set (i := 4) sc__law_bases.nd rfl (.inl rfl) (pe_op op_sub (pe_call (ok__law_draw T) (hr.mono (by decide)) (by rfl) T.m__law_draw T.F__law_draw.kp T.b__law_draw .nil (passes_call (takes_of rfl rfl rfl rfl) (fun _ _ _ _ h => h)) (pa_cons (pv 0) (pa_cons pe_int pa_nil))) pe_int))
  (pss_cons (ps_set (i := 5) sc__law_bases.nd rfl (.inl rfl) (pe_op op_sub (pe_call (ok__law_draw T) (hr.mono (by decide)) (by rfl) T.m__law_draw T.F__law_draw.kp T.b__law_draw .nil (passes_call (takes_of rfl rfl rfl rfl) (fun _ _ _ _ h => h)) (pa_cons (pv 0) (pa_cons pe_int pa_nil))) pe_int))
  (pss_cons (ps_set (i := 6) sc__law_bases.nd rfl (.inl rfl) (pe_op op_sub (pe_call (ok__law_draw T) (hr.mono (by decide)) (by rfl) T.m__law_draw T.F__law_draw.kp T.b__law_draw .nil (passes_call (takes_of rfl rfl rfl rfl) (fun _ _ _ _ h => h)) (pa_cons (pv 0) (pa_cons pe_int pa_nil))) pe_int))
  (Evl.pss_cut (ps_if (pt_cmpR op_lt (pe_op op_sub (pe_op op_mulW (pv 3) (pv 6)) (pe_op op_mulW (pv 4) (pv 5))) pe_int (nomark _))
  (pss_one (ps_asg (pe_tup (pa_cons (pv 5) (pa_cons (pv 6) (pa_cons (pv 3) (pa_cons (pv 4) pa_nil))))) (pg_tup (by rfl) (pgs_cons (pg_name (i := 3) sc__law_bases.nd rfl (.inl rfl)) (pgs_cons (pg_name (i := 4) sc__law_bases.nd rfl (.inl rfl)) (pgs_cons (pg_name (i := 5) sc__law_bases.nd rfl (.inl rfl)) (pgs_cons (pg_name (i := 6) sc__law_bases.nd rfl (.inl rfl)) pgs_nil)))))))
  pss_nil)
  (Evl.pss_cut (ps_if (pt_cmpR op_eq (pe_op op_sub (pe_op op_mulW (pv 3) (pv 6)) (pe_op op_mulW (pv 4) (pv 5))) pe_int (nomark _))
  (pss_one (ps_asg (pe_tup (pa_cons pe_int (pa_cons pe_int (pa_cons pe_int (pa_cons pe_int pa_nil))))) (pg_tup (by rfl) (pgs_cons (pg_name (i := 3) sc__law_bases.nd rfl (.inl rfl)) (pgs_cons (pg_name (i := 4) sc__law_bases.nd rfl (.inl rfl)) (pgs_cons (pg_name (i := 5) sc__law_bases.nd rfl (.inl rfl)) (pgs_cons (pg_name (i := 6) sc__law_bases.nd rfl (.inl rfl)) pgs_nil)))))))
  pss_nil)
  (pss_cons (ps_set (i := 7) sc__law_bases.nd rfl (.inl rfl) (pe_lst pa_nil))
  (pss_cons (ps_for (passes_of rfl) rfl (pi_range1 (by rfl) T.z_range (pa_cons (pv 1) pa_nil)) (pg_name (i := 8) sc__law_bases.nd rfl (.inl rfl))
  (pss_cons (ps_expr (pe_bm PySem.F.plainAttrs_list PySem.F.slot_list_append PySem.F.type_list_append mt_append (pv 7) (pa_cons (pe_tup (pa_cons (pe_op op_add (pe_op op_mulW (pv 3) (pv 2)) (pe_op op_mulW (pe_op op_mulW (pv 4) (pv 2)) (pv 2))) (pa_cons (pe_op op_add (pe_op op_mulW (pv 5) (pv 2)) (pe_op op_mulW (pe_op op_mulW (pv 6) (pv 2)) (pv 2))) pa_nil))) pa_nil)))
  (pss_one (ps_set (i := 2) sc__law_bases.nd rfl (.inl rfl) (pe_op op_add (pe_op op_add (pv 2) pe_int) (pe_call (ok__law_draw T) (hr.mono (by decide)) (by rfl) T.m__law_draw T.F__law_draw.kp T.b__law_draw .nil (passes_call (takes_of rfl rfl rfl rfl) (fun _ _ _ _ h => h)) (pa_cons (pv 0) (pa_cons pe_int pa_nil))))))))
  (pss_one (ps_ret (pv 7)))))))))))))), ?_⟩
  walk_at "z"
  refine nx S (by decide) (lt1000 (by decide)) fun co H1 co0 co1 S1 e1 => ?_
  walk_at "z"
  refine z_cut (fun σ' H' => ∃ n : Nat, σ' = [some (.ref p), some (.int (n : Int)), none, none, none, none, none, none, none] ∧ 1 ≤ n ∧ n ≤ 24 ∧ Sd H0 H' p ∧ ∀ b, b ≠ p → H' b = H b) ?_ ?_
  · walk_at "z"
    refine nx S1 (by decide) (lt1000 (by decide)) fun d H3 _ _ S3 e3 => ?_
    walk_at "z"
    refine z_if (fun _ => ?_) (fun _ => ?_)
    · walk_at "z"
      refine nx S3 (by decide) (lt1000 (by decide)) fun d' H4 _ _ S4 e4 => ?_
      walk_at "z"
      exact ⟨(d' + 1).toNat, by rw [show (((d' + 1).toNat : Nat) : Int) = d' + 1 by omega]; rfl, by omega, by omega, S4, fun b h => (e4 b h).trans ((e3 b h).trans (e1 b h))⟩
    · walk_at "z"
      exact ⟨(co + 1).toNat, by rw [show (((co + 1).toNat : Nat) : Int) = co + 1 by omega]; rfl, by omega, by omega, S3, fun b h => (e3 b h).trans (e1 b h)⟩
  clear S1 e1 co0 co1
  clear co
  rintro σ' H1 ⟨n, rfl, n1, n24, S1, e1⟩
  walk_at "z"
  refine nx S1 (by decide) (lt1000 (by decide)) fun x0 H2 x00 x01 S2 e2 => ?_
  walk_at "z"
  refine nx S2 (by decide) (lt1000 (by decide)) fun a H3 a0 a1 S3 e3 => ?_
  walk_at "z"
  refine nx S3 (by decide) (lt1000 (by decide)) fun b H4 b0 b1 S4 e4 => ?_
  walk_at "z"
  refine nx S4 (by decide) (lt1000 (by decide)) fun c H5 c0 c1 S5 e5 => ?_
  walk_at "z"
  refine nx S5 (by decide) (lt1000 (by decide)) fun d H6 d0 d1 S6 e6 => ?_
  have k6 : Kp p H H6 := (((((kp_eq e1).trans' (kp_eq e2)).trans' (kp_eq e3)).trans' (kp_eq e4)).trans' (kp_eq e5)).trans' (kp_eq e6)
  clear e1 e2 e3 e4 e5 e6 S1 S2 S3 S4 S5
  walk_at "z"
  have small : ∀ {u v : Int}, u.natAbs ≤ 3 → v.natAbs ≤ 3 → CMulW u v := fun hu hv => wide_mul (a := 32) (b := 32) (by omega) (by omega) (by decide) (by decide) (by decide)
  refine z_cut (fun σ' H' => Same H6 H' ∧ ∃ a b c d : Int, σ' = [some (.ref p), some (.int (n : Int)), some (.int (x0 - 20)), some (.int a), some (.int b), some (.int c), some (.int d), none, none] ∧ a.natAbs ≤ 3 ∧ b.natAbs ≤ 3 ∧ c.natAbs ≤ 3 ∧ d.natAbs ≤ 3 ∧ 0 ≤ a * d - b * c) ?_ ?_
  · walk_at "z"
    refine z_I (small (by omega) (by omega)) ?_
    walk_at "z"
    refine z_I (small (by omega) (by omega)) ?_
    walk_at "z"
    refine z_if (fun k => ?_) (fun k => ?_)
    · walk_at "z"
      intro t H7 f7 s7 h7
      walk_at "z"
      exact ⟨s7, _, _, _, _, rfl, by omega, by omega, by omega, by omega, by
        rw [Int.mul_comm (c - 3) (b - 3), Int.mul_comm (d - 3) (a - 3)]
        omega⟩
    · walk_at "z"
      exact ⟨Same.refl _, _, _, _, _, rfl, by omega, by omega, by omega, by omega, by omega⟩
  clear a0 a1 b0 b1 c0 c1 d0 d1
  clear a b c d
  rintro σ' H7 ⟨s7, a, b, c, d, rfl, la, lb, lc, ld, hdet⟩
  have S7 := S6.mono s7
  have k7 := k6.trans' (kp_of s7)
  clear S6 k6 s7
  walk_at "z"
  refine z_cut (fun σ' H' => Same H7 H' ∧ ∃ a b c d : Int, σ' = [some (.ref p), some (.int (n : Int)), some (.int (x0 - 20)), some (.int a), some (.int b), some (.int c), some (.int d), none, none] ∧ a.natAbs ≤ 3 ∧ b.natAbs ≤ 3 ∧ c.natAbs ≤ 3 ∧ d.natAbs ≤ 3 ∧ 0 < a * d - b * c) ?_ ?_
  · walk_at "z"
    refine z_I (small (by omega) (by omega)) ?_
    walk_at "z"
    refine z_I (small (by omega) (by omega)) ?_
    walk_at "z"
    refine z_if (fun k => ?_) (fun k => ?_)
    · walk_at "z"
      intro t H8 f8 s8 h8
      walk_at "z"
      exact ⟨s8, _, _, _, _, rfl, by decide, by decide, by decide, by decide, by decide⟩
    · walk_at "z"
      exact ⟨Same.refl _, _, _, _, _, rfl, la, lb, lc, ld, by omega⟩
  clear la lb lc ld hdet
  clear a b c d
  rintro σ' H8 ⟨s8, a, b, c, d, rfl, la, lb, lc, ld, hdet⟩
  have S8 := S7.mono s8
  have k8 := k7.trans' (kp_of s8)
  clear S7 k7 s8
  walk_at "z"
  intro l H9 f9 s9 h9
  have S9 := S8.mono s9
  have nl := S8.ne0 f9
  have k9 := k8.trans' (kp_of s9)
  have fl : H l = none := kp_none k8 f9 nl
  have l0 := S8.none0 f9
  clear f9 s9 S8 k8 S
  -- the size of a product
  have big : ∀ {u v : Int} {m k : Nat}, u.natAbs ≤ m → v.natAbs ≤ k → (u * v).natAbs ≤ m * k := fun hu hv => by
    rw [Int.natAbs_mul]
    exact Nat.mul_le_mul hu hv
  have bd : ∀ x : Int, x.natAbs ≤ 200 → Gb 1000000 (par a b c d x) := fun x hx => by
    have e1 := big la hx
    have e2 := big (big lb hx) hx
    have e3 := big lc hx
    have e4 := big (big ld hx) hx
    unfold par Gb
    simp only []
    omega
  walk_at "z"
  refine z_forR1 n (by omega) (fun R q => by walk_at "z"; exact q) (fun i σ' H' => Sd H0 H' p ∧ Kp p H H' ∧ ∃ (ws : List V) (xs : List Int) (x : Int) (w8 : Option V), σ' = [some (.ref p), some (.int (n : Int)), some (.int x), some (.int a), some (.int b), some (.int c), some (.int d), some (.ref l), w8] ∧ H' l = some (.lst ws) ∧ Gs K H' ws (xs.map (par a b c d)) ∧ xs.length = i ∧ Inc xs ∧ x.natAbs ≤ 20 + 4 * i ∧ ∀ y ∈ xs, y < x ∧ y.natAbs ≤ 200)
    ⟨S9, k9, [], [], _, _, rfl, h9, trivial, rfl, .nil, by omega, fun y hy => by cases hy⟩ ?_ ?_
  · rintro i σ' H10 hi ⟨S10, k10, ws, xs, x, w8, rfl, hl10, g10, hz, inc, hx, hxs⟩
    have hw : ws.length = i := by rw [g10.len, List.length_map, hz]
    have hx2 : x.natAbs ≤ 200 := by omega
    walk_at "z"
    refine z_bmL (fun R q => by walk_at "z"; exact q) hl10 ?_
    walk_at "z"
    refine z_I (wide_mul (a := 32) (b := 32) (by omega) (by omega) (by decide) (by decide) (by decide)) ?_
    walk_at "z"
    refine z_I (wide_mul (a := 32) (b := 32) (by omega) (by omega) (by decide) (by decide) (by decide)) ?_
    walk_at "z"
    refine z_I (wide_mul (a := 32) (b := 32) (by have := big lb hx2; omega) (by omega) (by decide) (by decide) (by decide)) ?_
    walk_at "z"
    refine z_I (wide_mul (a := 32) (b := 32) (by omega) (by omega) (by decide) (by decide) (by decide)) ?_
    walk_at "z"
    refine z_I (wide_mul (a := 32) (b := 32) (by omega) (by omega) (by decide) (by decide) (by decide)) ?_
    walk_at "z"
    refine z_I (wide_mul (a := 32) (b := 32) (by have := big ld hx2; omega) (by omega) (by decide) (by decide) (by decide)) ?_
    walk_at "z"
    intro t HA fA sA hA
    have hlA := sA _ _ hl10
    walk_at "z"
    refine z_append hlA (by omega) ?_
    have gA : Gs K HA (ws ++ [.ref t]) ((xs ++ [x]).map (par a b c d)) := by
      rw [List.map_append]
      exact (g10.mono sA).app (gs_one (dp_mkg hA))
    have kk : Kp l HA (upd HA l (.lst (ws ++ [.ref t]))) := fun b o hb e => by
      rw [upd_ne hb]
      exact e
    have SB := (S10.mono sA).put (o := .lst (ws ++ [.ref t])) l0 nl
    have kB := kp_put (o := .lst (ws ++ [.ref t])) (k10.trans' (kp_of sA)) fl
    have gB := gA.kp kk hlA
    have hlB : upd HA l (.lst (ws ++ [.ref t])) l = some (.lst (ws ++ [.ref t])) := upd_same
    generalize upd HA l (.lst (ws ++ [.ref t])) = HB at SB kB gB hlB ⊢
    walk_at "z"
    refine nx SB (by decide) (lt1000 (by decide)) fun dx HC dx0 dx1 SC eC => ?_
    obtain ⟨_, _, _, stB⟩ := SB.stm
    walk_at "z"
    refine ⟨SC, kB.trans' (kp_eq eC), ws ++ [.ref t], xs ++ [x], _, _, rfl, by rw [eC _ nl]; exact hlB, gB.kp (kp_eq eC) stB, by simp [hz], ?_, by omega, fun y hy => ?_⟩
    · refine List.pairwise_append.mpr ⟨inc, List.pairwise_singleton _ _, fun y hy z hz' => ?_⟩
      rw [List.mem_singleton.mp hz']
      exact (hxs y hy).1
    · rcases List.mem_append.mp hy with h | h
      · have := hxs y h
        omega
      · rw [List.mem_singleton.mp h]
        omega
  · rintro σ' H10 ⟨S10, k10, ws, xs, x, w8, rfl, hl10, g10, hz, inc, hx, hxs⟩
    walk_at "z"
    exact q l ws a b c d xs H10 fl nl hl10 g10 hdet inc (by omega) (by omega) (fun y hy => bd y (hxs y hy).2) S10 k10
end
def sp__law_from_lowest (K : PySem.W.Frag) : Sp := fun vs H Q _ => ∃ (p : Addr) (ws : List V) (zs : List GP), vs = [.ref p] ∧ H p = some (.lst ws) ∧ Gs K H ws zs ∧ zs ≠ [] ∧ zs.length ≤ 100 ∧
  ∀ (q : Addr) (us : List V) (f : Nat) (H' : Hp), H q = none → Same H H' → H' q = some (.lst us) → Gs K H' us (zs.drop f ++ zs.take f) → f < zs.length → (∀ m, zs[f]? = some m → ∀ z ∈ zs, z = m ∨ lx m z) → Q (.ref q) H'
section
theorem ok__law_from_lowest {P : Program} {w : World} {K : PySem.W.Frag} {mg : Str → Option Value} {base : Heap} {A : Nat → Addr} {D : Nat → FuncData} (T : Txt K mg A D) : FnOk P w K mg base (L2.CX P w) 1 (A 9) (D 9) ["planted"] (sp__law_from_lowest K) := by
  refine T.F__law_from_lowest.okX sc__law_from_lowest (fun vs H Q E h => ?_) (fun cdv A' outer s H vs Q E hr h => ?_)
  · obtain ⟨p, ws, zs, rfl, _⟩ := h
    rfl
  obtain ⟨p, ws, zs, rfl, hp, g, hne, hl, q⟩ := h
  refine ⟨_, (pss_cons (ps_set (i := 1) sc__law_from_lowest.nd rfl (.inl rfl) pe_int)
  (pss_cons (ps_for (passes_of rfl) rfl (pi_range1 (by rfl) T.z_range (pa_cons (pe_callB Z.c_len (by rfl) T.z_len (by decide +kernel) (pa_cons (pv 0) pa_nil)) pa_nil)) (pg_name (i := 2) sc__law_from_lowest.nd rfl (.inl rfl))
  (pss_one (ps_if (pt_cmpR (op_ltT hr.units0) (pe_tup (pa_cons (pe_ix ix_tup (pe_ix ix_list (pv 0) (pv 2) (fun _ _ => rfl)) pe_int (fun _ _ => rfl)) (pa_cons (pe_ix ix_tup (pe_ix ix_list (pv 0) (pv 2) (fun _ _ => rfl)) pe_int (fun _ _ => rfl)) pa_nil))) (pe_tup (pa_cons (pe_ix ix_tup (pe_ix ix_list (pv 0) (pv 1) (fun _ _ => rfl)) pe_int (fun _ _ => rfl)) (pa_cons (pe_ix ix_tup (pe_ix ix_list (pv 0) (pv 1) (fun _ _ => rfl)) pe_int (fun _ _ => rfl)) pa_nil))) (nomark _))
  (pss_one (ps_set (i := 1) sc__law_from_lowest.nd rfl (.inl rfl) (pv 2)))
  pss_nil)))
  (pss_one (ps_ret (pe_op op_cat (pe_slice sl_list (pv 0) (po_some (pv 1)) po_none) (pe_slice sl_list (pv 0) po_none (po_some (pv 1)))))))), ?_⟩
  have lw := g.len
  have pos : 0 < zs.length := List.length_pos_iff.mpr hne
  walk_at "z"
  refine z_forR1 zs.length (by omega) (fun R q => by walk_at "z"; rw [lw]; exact q) (fun i σ' H' => Same H H' ∧ ∃ (f : Nat) (w2 : Option V), σ' = [some (.ref p), some (.int (f : Int)), w2] ∧ f < zs.length ∧ ∀ m, zs[f]? = some m → ∀ z ∈ zs.take i, z = m ∨ lx m z) ⟨Same.refl _, 0, _, rfl, pos, fun m _ z hz => by simp at hz⟩ ?_ ?_
  · rintro i σ' H1 hi ⟨s1, f, w2, rfl, hf, low⟩
    obtain ⟨c, hc⟩ : ∃ c, zs[i]? = some c := ⟨_, List.getElem?_eq_getElem hi⟩
    obtain ⟨m, hm⟩ : ∃ c, zs[f]? = some c := ⟨_, List.getElem?_eq_getElem hf⟩
    have g1 := g.mono s1
    have hp1 := s1 _ _ hp
    obtain ⟨v, hv, dv⟩ := g1.get hc
    obtain ⟨vm, hvm, dvm⟩ := g1.get hm
    obtain ⟨pc, rfl, hpc⟩ := dp_g dv
    obtain ⟨pm, rfl, hpm⟩ := dp_g dvm
    have tk : zs.take (i + 1) = zs.take i ++ [c] := by rw [List.take_add_one, hc]; rfl
    walk_at "z"
    refine z_ixL (.inl (.inl hp1)) (nat_idx hv) ?_
    walk_at "z"
    refine z_ixL (.inl (.inl hp1)) (nat_idx hv) ?_
    walk_at "z"
    intro t1 H2 f2 s2 h2
    have hp2 := s2 _ _ hp1
    have hpm2 := Z.seqT s2 hpm
    walk_at "z"
    refine z_ixL (.inl (.inl hp2)) (nat_idx hvm) ?_
    walk_at "z"
    refine z_ixL (.inl (.inl hp2)) (nat_idx hvm) ?_
    walk_at "z"
    intro t2 H3 f3 s3 h3
    have s13 := (s1.trans s2).trans s3
    refine z_ltP (s3 _ _ h2) h3 ?_
    walk_at "z"
    refine z_if (fun k => ?_) (fun k => ?_)
    · walk_at "z"
      refine ⟨s13, i, _, rfl, hi, fun m' hm' z hz => ?_⟩
      rw [hc] at hm'
      cases hm'
      rw [tk] at hz
      have l : lx c m := k
      rcases List.mem_append.mp hz with h | h
      · rcases low m hm z h with e | e
        · rw [e]
          exact .inr l
        · exact .inr (lx_trans l e)
      · exact .inl (List.mem_singleton.mp h)
    · walk_at "z"
      refine ⟨s13, f, _, rfl, hf, fun m' hm' z hz => ?_⟩
      rw [hm] at hm'
      cases hm'
      rw [tk] at hz
      rcases List.mem_append.mp hz with h | h
      · exact low m hm z h
      · rw [List.mem_singleton.mp h]
        rcases lx_tri c m with l | l | l
        · exact absurd l k
        · exact .inl l
        · exact .inr l
  · rintro σ' H1 ⟨s1, f, w2, rfl, hf, low⟩
    have g1 := g.mono s1
    have hp1 := s1 _ _ hp
    walk_at "z"
    refine ⟨_, rfl, ?_⟩
    walk_at "z"
    refine z_slL (.inl (.inl hp1)) (cut_from (by omega)) fun a2 H2 f2 s2 h2 => ?_
    walk_at "z"
    refine ⟨_, rfl, ?_⟩
    walk_at "z"
    refine z_slL (.inl (.inl (s2 _ _ hp1))) (cut_to (by omega)) fun a3 H3 f3 s3 h3 => ?_
    refine z_cat (s3 _ _ h2) h3 (by simp only [List.length_drop, List.length_take]; omega) fun a4 H4 f4 s4 h4 => ?_
    have s12 := ((s1.trans s2).trans s3)
    rw [List.take_length] at low
    exact q a4 _ f H4 (fresh_of s12 f4) (s12.trans s4) h4 (((g1.drop f).app (g1.take f)).mono ((s2.trans s3).trans s4)) hf low
end
def sp__law_same (K : PySem.W.Frag) : Sp := fun vs H Q _ => ∃ (p r : Addr) (ws us : List V) (zs : List GP), vs = [.ref p, .ref r] ∧ H p = some (.lst ws) ∧ Gs K H ws zs ∧ H r = some (.lst us) ∧ Gs K H us zs ∧ zs.length ≤ 1000 ∧ Q (.bl true) H
section
theorem ok__law_same {P : Program} {w : World} {K : PySem.W.Frag} {mg : Str → Option Value} {base : Heap} {A : Nat → Addr} {D : Nat → FuncData} (T : Txt K mg A D) : FnOk P w K mg base (L2.CX P w) 3 (A 10) (D 10) ["actual", "expected"] (sp__law_same K) := by
  refine T.F__law_same.okX sc__law_same (fun vs H Q E h => ?_) (fun cdv A' outer s H vs Q E hr h => ?_)
  · obtain ⟨p, r, ws, us, zs, rfl, _⟩ := h
    rfl
  obtain ⟨p, r, ws, us, zs, rfl, hp, g, hr', g', hl, q⟩ := h
  refine ⟨_, (pss_cons (ps_if (PW.pt (pw_or (pt_not (pt_val (pe_callB call_isi (by rfl) T.z_isinstance (by decide +kernel) (pa_cons (pv 0) (pa_cons (pe_bltn (v := .ty "list") (by rfl) T.z_list (by decide +kernel) rfl) pa_nil))))) (pw_or1 (pt_cmpR op_ne (pe_callB Z.c_len (by rfl) T.z_len (by decide +kernel) (pa_cons (pv 0) pa_nil)) (pe_callB Z.c_len (by rfl) T.z_len (by decide +kernel) (pa_cons (pv 1) pa_nil)) (nomark _)))))
  (pss_one (ps_ret pe_bl))
  pss_nil)
  (pss_cons (ps_for (passes_of rfl) rfl (pi_range1 (by rfl) T.z_range (pa_cons (pe_callB Z.c_len (by rfl) T.z_len (by decide +kernel) (pa_cons (pv 1) pa_nil)) pa_nil)) (pg_name (i := 2) sc__law_same.nd rfl (.inl rfl))
  (pss_one (ps_if (PW.pt (pw_or (pt_not (pt_val (pe_call (ok__law_is_point T) (hr.mono (by decide)) (by rfl) T.m__law_is_point T.F__law_is_point.kp T.b__law_is_point .nil (passes_call (takes_of rfl rfl rfl rfl) (fun _ _ _ _ h => h)) (pa_cons (pe_ix ix_list (pv 0) (pv 2) (fun _ _ => rfl)) pa_nil)))) (pw_or1 (pt_cmpR (op_neD hr.units) (pe_ix ix_list (pv 0) (pv 2) (fun _ _ => rfl)) (pe_ix ix_list (pv 1) (pv 2) (fun _ _ => rfl)) (nomark _)))))
  (pss_one (ps_ret pe_bl))
  pss_nil)))
  (pss_one (ps_ret pe_bl)))), ?_⟩
  have lw := g.len
  have lu := g'.len
  walk_at "z"
  refine z_if (fun k => absurd k (by rw [lw, lu]; simp)) (fun _ => ?_)
  walk_at "z"
  refine z_forR1 zs.length (by omega) (fun R q => by walk_at "z"; rw [lu]; exact q) (fun i σ' H' => H' = H ∧ ∃ (w2 : Option V), σ' = [some (.ref p), some (.ref r), w2]) ⟨rfl, _, rfl⟩ ?_ ?_
  · rintro i σ' H1 hi ⟨rfl, w2, rfl⟩
    obtain ⟨c, hc⟩ : ∃ c, zs[i]? = some c := ⟨_, List.getElem?_eq_getElem hi⟩
    obtain ⟨v, hv, dv⟩ := g.get hc
    obtain ⟨v', hv', dv'⟩ := g'.get hc
    walk_at "z"
    refine z_ixL (.inl (.inl hp)) (nat_idx hv) ?_
    walk_at "z"
    refine ⟨v, c, rfl, dv, ?_⟩
    walk_at "z"
    refine z_ixL (.inl (.inl hp)) (nat_idx hv) ?_
    walk_at "z"
    refine z_ixL (.inl (.inl hr')) (nat_idx hv') ?_
    refine z_neSame dv dv' (shaped_g _) ?_
    walk_at "z"
    exact ⟨rfl, _, rfl⟩
  · rintro σ' H1 ⟨rfl, w2, rfl⟩
    walk_at "z"
    exact q
end
theorem cmb_gm {bs : List GP} {mv q : GP} {s : Nat} (hb : ∀ b ∈ bs, Gb 1000000 b) (hm : Gb 1000000000000 mv) (hs : s ≤ 4) (h : Cmb bs mv s q) : Gb 10000000000 (q.1 - mv.1, q.2 - mv.2) ∧ Gm q := by
  have h1 := h 1 0 1000000 fun b hb' => by have := hb b hb'; unfold Gb at this; omega
  have h2 := h (-1) 0 1000000 fun b hb' => by have := hb b hb'; unfold Gb at this; omega
  have h3 := h 0 1 1000000 fun b hb' => by have := hb b hb'; unfold Gb at this; omega
  have h4 := h 0 (-1) 1000000 fun b hb' => by have := hb b hb'; unfold Gb at this; omega
  unfold Gm Gb at *
  simp only []
  omega
def sp_law (K : PySem.W.Frag) : Sp := fun vs H Q _ => ∃ (a : Addr) (ns : List Int), vs = [.ref a] ∧ SqL K H a (ns.map V.int) ∧ ns.length ≤ 63 ∧ ∀ H', Q (.bl true) H'
section
theorem ok_law {P : Program} {w : World} {K : PySem.W.Frag} {mg : Str → Option Value} {base : Heap} {A : Nat → Addr} {D : Nat → FuncData} (T : Txt K mg A D) : FnOk P w K mg base CX0 4 (A 11) (D 11) ["script"] (sp_law K) := by
  refine T.F_law.ok sc_law (fun vs H Q E h => ?_) (fun cdv A' outer s H vs Q E hr h => ?_)
  · obtain ⟨l, ns, rfl, _⟩ := h
    rfl
  obtain ⟨l, ns, rfl, hS, _, q⟩ := h
  refine ⟨_, (pss_cons (ps_set (i := 1) sc_law.nd rfl (.inl rfl) (pe_call (ok__law_stream T) (hr.mono (by decide)) (by rfl) T.m__law_stream T.F__law_stream.kp T.b__law_stream .nil passL (pa_cons (pe_call (ok__law_cell T) (hr.mono (by decide)) (by rfl) T.m__law_cell T.F__law_cell.kp T.b__law_cell .nil passL (pa_cons (pv 0) (pa_cons pe_int pa_nil))) pa_nil)))
  (pss_cons (ps_set (i := 2) sc_law.nd rfl (.inl rfl) (pe_call (ok__law_bases T) (hr.mono (by decide)) (by rfl) T.m__law_bases T.F__law_bases.kp T.b__law_bases .nil passL (pa_cons (pv 1) pa_nil)))
  (pss_cons (ps_set (i := 3) sc_law.nd rfl (.inr rfl) (pe_op op_add (pe_call (ok__law_draw T) (hr.mono (by decide)) (by rfl) T.m__law_draw T.F__law_draw.kp T.b__law_draw .nil passL (pa_cons (pv 1) (pa_cons pe_int pa_nil))) pe_int))
  (pss_cons (ps_set (i := 4) sc_law.nd rfl (.inr rfl) (pe_tup (pa_cons (pe_op op_sub (pe_call (ok__law_draw T) (hr.mono (by decide)) (by rfl) T.m__law_draw T.F__law_draw.kp T.b__law_draw .nil passL (pa_cons (pv 1) (pa_cons pe_int pa_nil))) pe_int) (pa_cons (pe_op op_sub (pe_call (ok__law_draw T) (hr.mono (by decide)) (by rfl) T.m__law_draw T.F__law_draw.kp T.b__law_draw .nil passL (pa_cons (pv 1) (pa_cons pe_int pa_nil))) pe_int) pa_nil))))
  (Evl.pss_cut (ps_if (pt_cmpR op_eq (pe_call (ok__law_draw T) (hr.mono (by decide)) (by rfl) T.m__law_draw T.F__law_draw.kp T.b__law_draw .nil passL (pa_cons (pv 1) (pa_cons pe_int pa_nil))) pe_int (nomark _))
  (pss_one (ps_set (i := 4) sc_law.nd rfl (.inr rfl) (pe_tup (pa_cons (pe_op op_sub (pe_call (ok__law_draw T) (hr.mono (by decide)) (by rfl) T.m__law_draw T.F__law_draw.kp T.b__law_draw .nil passL (pa_cons (pv 1) (pa_cons (pe_op op_add (pe_op op_mul pe_int (Z.pe_powc (v := 1000000000000) ⟨by decide, by decide, by decide⟩ (by decide))) pe_int) pa_nil))) (Z.pe_powc (v := 1000000000000) ⟨by decide, by decide, by decide⟩ (by decide))) (pa_cons (pe_op op_sub (pe_call (ok__law_draw T) (hr.mono (by decide)) (by rfl) T.m__law_draw T.F__law_draw.kp T.b__law_draw .nil passL (pa_cons (pv 1) (pa_cons (pe_op op_add (pe_op op_mul pe_int (Z.pe_powc (v := 1000000000000) ⟨by decide, by decide, by decide⟩ (by decide))) pe_int) pa_nil))) (Z.pe_powc (v := 1000000000000) ⟨by decide, by decide, by decide⟩ (by decide))) pa_nil)))))
  pss_nil)
  (pss_cons (ps_setLc (i := 5) (own := [("base", 6)]) (g := gName 6) (tt := tYes) rfl sc_law.nd rfl rfl (sw_true rfl rfl rfl (by decide +kernel)) (pi_list (pv 2)) (blkOk_by (N := ["script", "stream", "bases", "scale", "move", "planted", "base", "points", "point", "k", "part", "expected", "handed"]) (sc := defScope s_law) (by decide +kernel)) (fun _ _ _ _ _ => pg_name (i := 6) sc_law.nd rfl (Or.inl rfl)) (fun _ _ _ _ _ => pts_nil) (fun _ _ _ _ _ => (pe_tup (pa_cons (pe_op op_add (pe_op op_mulW (pv 3) (pe_ix (show IxR _ (rIxT K) from ix_tup) (pv 6) pe_int (fun _ _ => rfl))) (pe_ix (show IxR _ (rIxT K) from ix_tup) (pv 4) pe_int (fun _ _ => rfl))) (pa_cons (pe_op op_add (pe_op op_mulW (pv 3) (pe_ix (show IxR _ (rIxT K) from ix_tup) (pv 6) pe_int (fun _ _ => rfl))) (pe_ix (show IxR _ (rIxT K) from ix_tup) (pv 4) pe_int (fun _ _ => rfl))) pa_nil)))))
  (pss_cons (ps_set (i := 1) sc_law.nd rfl (.inl rfl) (pe_call (ok__law_stream T) (hr.mono (by decide)) (by rfl) T.m__law_stream T.F__law_stream.kp T.b__law_stream .nil passL (pa_cons (pe_call (ok__law_cell T) (hr.mono (by decide)) (by rfl) T.m__law_cell T.F__law_cell.kp T.b__law_cell .nil passL (pa_cons (pv 0) (pa_cons pe_int pa_nil))) pa_nil)))
  (pss_cons (ps_set (i := 7) sc_law.nd rfl (.inl rfl) (pe_lst pa_nil))
  (pss_cons (ps_for PassesOwn.never rfl (pi_list (pv 5)) (pg_name (i := 8) sc_law.nd rfl (.inl rfl))
  (pss_one (ps_expr (pe_bm PySem.F.plainAttrs_list PySem.F.slot_list_insert PySem.F.type_list_insert mt_insertN (pv 7) (pa_cons (pe_call (ok__law_draw T) (hr.mono (by decide)) (by rfl) T.m__law_draw T.F__law_draw.kp T.b__law_draw .nil passL (pa_cons (pv 1) (pa_cons (pe_op op_add (pe_callB Z.c_len (by rfl) T.z_len (by decide +kernel) (pa_cons (pv 7) pa_nil)) pe_int) pa_nil))) (pa_cons (pv 8) pa_nil))))))
  (pss_cons (ps_for PassesOwn.never rfl (pi_range1 (by rfl) T.z_range (pa_cons (pe_call (ok__law_draw T) (hr.mono (by decide)) (by rfl) T.m__law_draw T.F__law_draw.kp T.b__law_draw .nil passL (pa_cons (pv 1) (pa_cons pe_int pa_nil))) pa_nil)) (pg_name (i := 9) sc_law.nd rfl (.inl rfl))
  (pss_cons (ps_set (i := 8) sc_law.nd rfl (.inl rfl) (pv 4))
  (pss_cons (ps_for PassesOwn.never rfl (pi_range1 (by rfl) T.z_range (pa_cons (pv 3) pa_nil)) (pg_name (i := 10) sc_law.nd rfl (.inl rfl))
  (pss_cons (ps_set (i := 6) sc_law.nd rfl (.inl rfl) (pe_ix ix_list (pv 2) (pe_call (ok__law_draw T) (hr.mono (by decide)) (by rfl) T.m__law_draw T.F__law_draw.kp T.b__law_draw .nil passL (pa_cons (pv 1) (pa_cons (pe_callB Z.c_len (by rfl) T.z_len (by decide +kernel) (pa_cons (pv 2) pa_nil)) pa_nil))) (fun _ _ => rfl)))
  (pss_one (ps_set (i := 8) sc_law.nd rfl (.inl rfl) (pe_tup (pa_cons (pe_op op_add (pe_ix ix_tup (pv 8) pe_int (fun _ _ => rfl)) (pe_ix ix_tup (pv 6) pe_int (fun _ _ => rfl))) (pa_cons (pe_op op_add (pe_ix ix_tup (pv 8) pe_int (fun _ _ => rfl)) (pe_ix ix_tup (pv 6) pe_int (fun _ _ => rfl))) pa_nil)))))))
  (pss_one (ps_expr (pe_bm PySem.F.plainAttrs_list PySem.F.slot_list_insert PySem.F.type_list_insert mt_insertN (pv 7) (pa_cons (pe_call (ok__law_draw T) (hr.mono (by decide)) (by rfl) T.m__law_draw T.F__law_draw.kp T.b__law_draw .nil passL (pa_cons (pv 1) (pa_cons (pe_op op_add (pe_callB Z.c_len (by rfl) T.z_len (by decide +kernel) (pa_cons (pv 7) pa_nil)) pe_int) pa_nil))) (pa_cons (pv 8) pa_nil))))))))
  (pss_cons (ps_set (i := 11) sc_law.nd rfl (.inl rfl) (pe_call (ok__law_from_lowest T) (hr.mono (by decide)) (by rfl) T.m__law_from_lowest T.F__law_from_lowest.kp T.b__law_from_lowest .nil passL (pa_cons (pv 5) pa_nil)))
  (pss_cons (ps_set (i := 12) sc_law.nd rfl (.inl rfl) (pe_callTy Z.c_listOf (by rfl) T.z_list (by decide +kernel) (pa_cons (pv 7) pa_nil)))
  (pss_cons (ps_if (PW.pt (pw_or (pt_not (pt_val (pe_call (ok__law_same T) (hr.mono (by decide)) (by rfl) T.m__law_same T.F__law_same.kp T.b__law_same .nil passL (pa_cons (pe_call (ok_corners T) (hr.mono (by decide)) (by rfl) T.m_corners T.F_corners.kp T.b_corners .nil passL (pa_cons (pv 12) pa_nil)) (pa_cons (pv 11) pa_nil))))) (pw_or1 (pt_cmpR (op_neD hr.units) (pv 12) (pv 7) (nomark _)))))
  (pss_one (ps_ret pe_bl))
  pss_nil)
  (pss_one (ps_ret (pe_call (ok__law_same T) (hr.mono (by decide)) (by rfl) T.m__law_same T.F__law_same.kp T.b__law_same .nil passL (pa_cons (pe_call (ok_corners T) (hr.mono (by decide)) (by rfl) T.m_corners T.F_corners.kp T.b_corners .nil passL (pa_cons (pe_op op_cat (pe_revL (pv 7)) (pe_lst (pa_cons (pe_ix ix_list (pv 7) pe_int (fun _ _ => rfl)) pa_nil))) pa_nil)) (pa_cons (pv 11) pa_nil)))))))))))))))))), ?_⟩
  walk_at "z"
  refine ⟨l, ns, 0, rfl, hS, fun v => ?_⟩
  walk_at "z"
  refine ⟨v, rfl, fun p H1 i1 j1 m hp s1 h1 => ?_⟩
  have S1 := Sd.mk0 hp s1 h1
  walk_at "z"
  refine ⟨p, H, rfl, S1, fun o wb a b c d xs H2 f2 ne2 ho gb hdet inc l1 l24 hbd S2 k2 => ?_⟩
  walk_at "z"
  refine nx S2 (by decide) (lt1000 (by decide)) fun sc H3 sc0 sc1 S3 e3 => ?_
  walk_at "z"
  refine nx S3 (by decide) (lt1000 (by decide)) fun mx H4 mx0 mx1 S4 e4 => ?_
  walk_at "z"
  refine nx S4 (by decide) (lt1000 (by decide)) fun my H5 my0 my1 S5 e5 => ?_
  walk_at "z"
  intro t H6 f6 s6 h6
  have S6 := S5.mono s6
  have k6 : Kp p H2 H6 := (((kp_eq e3).trans' (kp_eq e4)).trans' (kp_eq e5)).trans' (kp_of s6)
  obtain ⟨s, hs1, hs4, hsc⟩ : ∃ s : Nat, 1 ≤ s ∧ s ≤ 4 ∧ (s : Int) = sc + 1 := ⟨(sc + 1).toNat, by omega, by omega, by omega⟩
  rw [← hsc]
  clear S3 S4 S5 e3 e4 e5 f6 s6 hsc sc0 sc1 h1 s1 S1
  clear sc
  refine z_cut (fun σ' H' => ∃ (pm : Addr) (mv : GP), σ' = [some (.ref l), some (.ref p), some (.ref o), some (.int (s : Int)), some (.ref pm), none, none, none, none, none, none, none, none] ∧ H' pm = some (.tup [.int mv.1, .int mv.2]) ∧ Gb 1000000000000 mv ∧ Sd H H' p ∧ Kp p H2 H') ?_ ?_
  · walk_at "z"
    refine nx S6 (by decide) (lt1000 (by decide)) fun d H7 _ _ S7 e7 => ?_
    have k7 := k6.trans' (kp_eq e7)
    have h7 : H7 t = _ := (e7 t (S6.ne h6)).trans h6
    walk_at "z"
    refine z_if (fun _ => ?_) (fun _ => ?_)
    · walk_at "z"
      refine nx S7 (by decide) (lt1000 (by decide)) fun x9 H8 _ _ S8 e8 => ?_
      walk_at "z"
      refine nx S8 (by decide) (lt1000 (by decide)) fun y9 H9 _ _ S9 e9 => ?_
      walk_at "z"
      intro t2 HA fA sA hA
      exact ⟨t2, (x9 - 1000000000000, y9 - 1000000000000), rfl, hA, ⟨by omega, by omega⟩, S9.mono sA, ((k7.trans' (kp_eq e8)).trans' (kp_eq e9)).trans' (kp_of sA)⟩
    · walk_at "z"
      exact ⟨t, (mx - 100, my - 100), rfl, h7, ⟨by omega, by omega⟩, S7, k7⟩
  clear S6 k6 h6 mx0 mx1 my0 my1
  clear mx my t
  rintro σ' HA ⟨pm, mv, rfl, hmA, bmv, SA, kA⟩
  obtain ⟨_, _, _, st2⟩ := S2.stm
  have hoA := kA o _ ne2 ho
  have gbA := Gs.kp kA st2 gb
  have sHA := SA.same
  clear SA kA st2 gb ho S2 k2 f2
  have lb := gbA.len
  rw [List.length_map] at lb
  walk_at "z"
  refine z_lcE ?_
  walk_at "z"
  refine z_lcG (by omega) (.inl (.inl hoA)) (fun i D acc H' => Same HA H' ∧ HA D = none ∧ Gs K H' acc ((xs.map fun x => mvs mv s (par a b c d x)).take i)) (fun D H' f s _ => ⟨s, f, trivial⟩) (fun i D acc H' h => .inl (.inl (h.1 _ _ hoA)))
    (fun i x D acc H' hx hl' hD ⟨s', fD, ga⟩ => ?_) (fun D acc HB fB hl' hB ⟨sB, _, gB⟩ => ?_)
  · obtain ⟨z, hz, dz⟩ := (gbA.mono s').getv hx
    rw [List.getElem?_map] at hz
    cases hxz : xs[i]? with
    | none => rw [hxz] at hz; cases hz
    | some xz =>
    rw [hxz] at hz
    have hz : par a b c d xz = z := Option.some.inj hz
    have bz := hbd xz (List.mem_of_getElem? hxz)
    rw [hz] at bz
    obtain ⟨pc, rfl, hpc⟩ := dp_g dz
    have hm' := s' _ _ hmA
    walk_at "z"
    refine ⟨rfl, ?_⟩
    walk_at "z"
    refine z_I (wide_mul (a := 32) (b := 32) (by omega) (Nat.lt_of_le_of_lt bz.1 (by decide)) (by decide) (by decide) (by decide)) ?_
    walk_at "z"
    refine z_I (wide_mul (a := 32) (b := 32) (by omega) (Nat.lt_of_le_of_lt bz.2 (by decide)) (by decide) (by decide) (by decide)) ?_
    walk_at "z"
    intro t2 H4 f4 s4 h4
    have hD4 := s4 _ _ hD
    refine z_lcB hD4 hl' (by have := (List.getElem?_eq_some_iff.mp hx).1; omega) fun H5 hD5 k5 e5 => ⟨fun b o h => ?_, fD, ?_⟩
    · rw [e5 b (ne_of_none h fD)]
      exact s4 _ _ (s' _ _ h)
    · rw [List.take_add_one, List.getElem?_map, hxz]
      refine Gs.kp k5 hD4 ((ga.mono s4).app (gs_one ?_))
      show Dp K H4 (.ref t2) (gD (mvs mv s (par a b c d xz)))
      rw [hz]
      exact dp_mkg h4
  rw [show wb.length = (xs.map fun x => mvs mv s (par a b c d x)).length by rw [List.length_map, lb], List.take_length] at gB
  have hoB := sB _ _ hoA
  have gbB := gbA.mono sB
  have hmB := sB _ _ hmA
  have sHB := sHA.trans sB
  clear hoA gbA hmA sHA sB
  walk_at "z"
  refine ⟨l, ns, 1, rfl, sHB.seq hS, fun v' => ?_⟩
  walk_at "z"
  refine ⟨v', rfl, fun p2 HC i3 j3 m3 hp3 sC hC => ?_⟩
  have SC := Sd.mk0 hp3 sC hC
  walk_at "z"
  intro lp HD fD sD hD
  have SD := SC.mono sD
  have nlp := SC.ne0 fD
  have l0 := SC.none0 fD
  clear SC hC sC fD sD
  -- the points so far
  have ins : ∀ {H' : Hp} {ws : List V} {zs : List GP} {k : Nat} {v : V} {z : GP}, Sd HB H' p2 → H' lp = some (.lst ws) → Gs K H' ws zs → Dp K H' v (gD z) → k ≤ zs.length →
      let zs' := zs.take k ++ [z] ++ zs.drop k
      let ws' := ws.take k ++ [v] ++ ws.drop k
      Sd HB (upd H' lp (.lst ws')) p2 ∧ upd H' lp (.lst ws') lp = some (.lst ws') ∧ Gs K (upd H' lp (.lst ws')) ws' zs' ∧ zs'.length = zs.length + 1 ∧ ∀ q, q ∈ zs' ↔ q = z ∨ q ∈ zs := fun {H' ws zs k v z} S hl g dv hk => by
    intro zs' ws'
    have kk : Kp lp H' (upd H' lp (.lst ws')) := fun b o hb e => by
      rw [upd_ne hb]
      exact e
    refine ⟨S.put l0 nlp, upd_same, Gs.kp kk hl (((g.take k).app (gs_one dv)).app (g.drop k)), ?_, fun q => ?_⟩
    · show (zs.take k ++ [z] ++ zs.drop k).length = _
      simp only [List.length_append, List.length_take, List.length_drop, List.length_singleton]
      omega
    · show q ∈ zs.take k ++ [z] ++ zs.drop k ↔ _
      have : q ∈ zs ↔ q ∈ zs.take k ∨ q ∈ zs.drop k := by rw [← List.mem_append, List.take_append_drop]
      rw [this, List.mem_append, List.mem_append, List.mem_singleton]
      exact ⟨fun h => h.elim (fun h => h.elim (fun h => .inr (.inl h)) .inl) (fun h => .inr (.inr h)), fun h => h.elim (fun h => .inl (.inr h)) (fun h => h.elim (fun h => .inl (.inl h)) .inr)⟩
  have lB := gB.len
  rw [List.length_map] at lB
  walk_at "z"
  refine z_forL (fun R q => by walk_at "z"; exact q) (.inl (.inl (SD.same _ _ hB))) (fun i σ' H' => Sd HB H' p2 ∧ ∃ (ws : List V) (zs : List GP) (w8 : Option V), σ' = [some (.ref l), some (.ref p2), some (.ref o), some (.int (s : Int)), some (.ref pm), some (.ref D), none, some (.ref lp), w8, none, none, none, none] ∧ H' lp = some (.lst ws) ∧ Gs K H' ws zs ∧ zs.length = i ∧
    ∀ q, q ∈ zs ↔ q ∈ (xs.map fun x => mvs mv s (par a b c d x)).take i) ⟨SD, [], [], _, rfl, hD, trivial, rfl, fun q => by simp⟩ (fun i σ' H' _ h => .inl (.inl (h.1.same _ _ hB))) ?_ ?_
  · rintro i x σ' HE hx ⟨SE, ws, zs, w8, rfl, hlE, gE, hz, hmem⟩
    have lw := gE.len
    obtain ⟨z, hz', dz⟩ := gB.getv hx
    have hi := (List.getElem?_eq_some_iff.mp hx).1
    walk_at "z"
    refine z_bmL (fun R q => by walk_at "z"; exact q) hlE ?_
    walk_at "z"
    refine nx SE (by omega) (lt1000 (Nat.lt_of_le_of_lt (show ((ws.length : Int) + 1).natAbs ≤ 100 by omega) (by decide))) fun k' HF k0 k1 SF eF => ?_
    obtain ⟨k, rfl⟩ : ∃ k : Nat, k' = (k : Int) := ⟨k'.toNat, by omega⟩
    obtain ⟨_, _, _, stE⟩ := SE.stm
    have hlF := (eF _ nlp).trans hlE
    have gF := gE.kp (kp_eq eF) stE
    walk_at "z"
    refine z_insert hlF (by omega) (by omega) ?_
    obtain ⟨SG, hlG, gG, lG, mG⟩ := ins (k := k) SF hlF gF (dp_mono SF.same dz) (by omega)
    refine ⟨SG, _, _, _, rfl, hlG, gG, by omega, fun q => ?_⟩
    rw [mG, hmem, List.take_add_one, hz', List.mem_append]
    simp only [Option.toList, List.mem_singleton]
    exact Or.comm
  rintro σ' HE ⟨SE, ws, zs, w8, rfl, hlE, gE, hz, hmem⟩
  rw [show acc.length = (xs.map fun x => mvs mv s (par a b c d x)).length by rw [List.length_map, lB], List.take_length] at hmem
  walk_at "z"
  refine z_forRE ?_
  walk_at "z"
  refine nx SE (by decide) (lt1000 (by decide)) fun m' HF m0 m1 SF eF => ?_
  obtain ⟨m', rfl⟩ : ∃ k : Nat, m' = (k : Int) := ⟨m'.toNat, by omega⟩
  obtain ⟨_, _, _, stE⟩ := SE.stm
  have hlF := (eF _ nlp).trans hlE
  have gF := gE.kp (kp_eq eF) stE
  have lz : zs.length ≤ 24 := by rw [hz]; omega
  have hbs : ∀ z' ∈ xs.map (par a b c d), Gb 1000000 z' := fun z' h => by
    obtain ⟨x, hx, rfl⟩ := List.mem_map.mp h
    exact hbd x hx
  have good : (∀ q ∈ zs, Cmb (xs.map (par a b c d)) mv s q) ∧ ∀ x ∈ xs, mvs mv s (par a b c d x) ∈ zs := ⟨fun q hq => by
    obtain ⟨x, hx, rfl⟩ := List.mem_map.mp ((hmem q).mp hq)
    exact cmb_mvs (List.mem_map.mpr ⟨x, hx, rfl⟩), fun x hx => (hmem _).mpr (List.mem_map.mpr ⟨x, hx, rfl⟩)⟩
  clear SE hlE gE eF stE hmem hz hD SD
  walk_at "z"
  refine z_forRr m' (by omega) (fun i σ' H' => Sd HB H' p2 ∧ ∃ (ws : List V) (zs : List GP) (w6 w8 w9 w10 : Option V), σ' = [some (.ref l), some (.ref p2), some (.ref o), some (.int (s : Int)), some (.ref pm), some (.ref D), w6, some (.ref lp), w8, w9, w10, none, none] ∧ H' lp = some (.lst ws) ∧ Gs K H' ws zs ∧ zs.length ≤ 24 + i ∧
    (∀ q ∈ zs, Cmb (xs.map (par a b c d)) mv s q) ∧ ∀ x ∈ xs, mvs mv s (par a b c d x) ∈ zs) ⟨SF, ws, zs, _, _, _, _, rfl, hlF, gF, by omega, good.1, good.2⟩ ?_ ?_
  · rintro i σ' HG hi ⟨SG, ws, zs, w6, w8, w9, w10, rfl, hlG, gG, hz, c1, c2⟩
    have hmG := SG.same _ _ hmB
    walk_at "z"
    refine z_forR1 s (by omega) (fun R q => by walk_at "z"; exact q) (fun j σ' H' => Sd HB H' p2 ∧ ∃ (w6 w10 : Option V) (pt : Addr) (q : GP), σ' = [some (.ref l), some (.ref p2), some (.ref o), some (.int (s : Int)), some (.ref pm), some (.ref D), w6, some (.ref lp), some (.ref pt), some (.int (i : Int)), w10, none, none] ∧ H' lp = some (.lst ws) ∧ Gs K H' ws zs ∧ H' pt = some (.tup [.int q.1, .int q.2]) ∧ Cmb (xs.map (par a b c d)) mv j q)
      ⟨SG, _, _, pm, mv, rfl, hlG, gG, hmG, cmb0 _ _⟩ ?_ ?_
    · rintro j σ' HH hj ⟨SH, w6, w10, pt, q, rfl, hlH, gH, hpt, cq⟩
      have hoH := SH.same _ _ hoB
      walk_at "z"
      refine nx SH (by rw [lb]; omega) (lt1000 (Nat.lt_of_le_of_lt (show (wb.length : Int).natAbs ≤ 100 by omega) (by decide))) fun k' HI k0 k1 SI eI => ?_
      obtain ⟨k, rfl⟩ : ∃ k : Nat, k' = (k : Int) := ⟨k'.toNat, by omega⟩
      have hoI := SI.same _ _ hoB
      have gbI := gbB.mono SI.same
      have hptI := (eI pt (SH.ne hpt)).trans hpt
      obtain ⟨_, _, _, stH⟩ := SH.stm
      have hlI := (eI _ nlp).trans hlH
      have gI := gH.kp (kp_eq eI) stH
      obtain ⟨z, hz2⟩ : ∃ z, (xs.map (par a b c d))[k]? = some z := ⟨_, List.getElem?_eq_getElem (by rw [List.length_map]; omega)⟩
      obtain ⟨vz, hvz, dz⟩ := gbI.get hz2
      obtain ⟨pz, rfl, hpz⟩ := dp_g dz
      refine z_ixL (.inl (.inl hoI)) (nat_idx hvz) ?_
      walk_at "z"
      intro t3 HJ fJ sJ hJ
      exact ⟨SI.mono sJ, _, _, t3, (q.1 + z.1, q.2 + z.2), rfl, sJ _ _ hlI, gI.mono sJ, hJ, cmb1 cq (List.mem_of_getElem? hz2)⟩
    · rintro σ' HH ⟨SH, w6, w10, pt, q, rfl, hlH, gH, hpt, cq⟩
      have lw := gH.len
      walk_at "z"
      refine z_bmL (fun R q => by walk_at "z"; exact q) hlH ?_
      walk_at "z"
      refine nx SH (by omega) (lt1000 (Nat.lt_of_le_of_lt (show ((ws.length : Int) + 1).natAbs ≤ 100 by omega) (by decide))) fun k' HI k0 k1 SI eI => ?_
      obtain ⟨k, rfl⟩ : ∃ k : Nat, k' = (k : Int) := ⟨k'.toNat, by omega⟩
      obtain ⟨_, _, _, stH⟩ := SH.stm
      have hlI := (eI _ nlp).trans hlH
      have gI := gH.kp (kp_eq eI) stH
      have hptI := (eI pt (SH.ne hpt)).trans hpt
      walk_at "z"
      refine z_insert hlI (by omega) (by omega) ?_
      obtain ⟨SJ, hlJ, gJ, lJ, mJ⟩ := ins (k := k) SI hlI gI (dp_mkg hptI) (by omega)
      refine ⟨SJ, _, _, _, _, _, _, rfl, hlJ, gJ, by omega, fun y hy => ?_, fun x hx => (mJ _).mpr (.inr (c2 x hx))⟩
      rcases (mJ y).mp hy with rfl | h
      · exact cq
      · exact c1 y h
  clear good SF hlF gF lz ins
  rintro σ' HG ⟨SG, ws, zs, w6, w8, w9, w10, rfl, hlG, gG, hz, c1, c2⟩
  have sG := SG.same
  have hDG := sG _ _ hB
  have gDG := gB.mono sG
  clear SG
  have lw := gG.len
  walk_at "z"
  have hneP : (xs.map fun x => mvs mv s (par a b c d x)) ≠ [] := fun e => by
    have := congrArg List.length e
    rw [List.length_map, List.length_nil] at this
    omega
  refine ⟨D, _, _, rfl, hDG, gDG, hneP, by rw [List.length_map]; omega, fun ex ue f HH fH sH hE gE hf low => ?_⟩
  have gmz : ∀ z ∈ zs, Gm z := fun z hz' => (cmb_gm hbs bmv hs4 (c1 z hz')).2
  have hfx : f < xs.length := by rw [List.length_map] at hf; exact hf
  -- what the corners of such points are
  have key : ∀ us : List GP, Up us → (∀ q, q ∈ us ↔ q ∈ zs) → hull us = (xs.map fun x => mvs mv s (par a b c d x)).drop f ++ (xs.map fun x => mvs mv s (par a b c d x)).take f := fun us hup hmem => by
    have hneu : us ≠ [] := fun e => by
      obtain ⟨x0, hx0⟩ := List.exists_mem_of_ne_nil xs fun e => by rw [e] at l1; simp at l1
      have := (hmem _).mpr (c2 x0 hx0)
      rw [e] at this
      cases this
    refine around_one (hull_around hup hneu) (planted_around hdet inc hs1 hbd hfx (fun m hm x hx => ?_) (fun q hq => c1 q ((hmem q).mp hq)) fun x hx => (hmem _).mpr (c2 x hx))
    have := low (mvs mv s (par a b c d m)) (by rw [List.getElem?_map, hm]; rfl) _ (List.mem_map.mpr ⟨x, hx, rfl⟩)
    rcases this with e | e
    · exact .inl (mvs_inj hs1 e)
    · exact .inr ((lx_mvs hs1).mp e)
  have lE : ((xs.map fun x => mvs mv s (par a b c d x)).drop f ++ (xs.map fun x => mvs mv s (par a b c d x)).take f).length ≤ 1000 := by
    simp only [List.length_append, List.length_drop, List.length_take, List.length_map]
    omega
  have hnez : zs ≠ [] := fun e => by
    obtain ⟨x0, hx0⟩ := List.exists_mem_of_ne_nil xs fun e => by rw [e] at l1; simp at l1
    have := c2 x0 hx0
    rw [e] at this
    cases this
  have hlH := sH _ _ hlG
  have gH := gG.mono sH
  walk_at "z"
  refine z_listOf (.inl (.inl hlH)) fun hn HI fI sI hI => ?_
  walk_at "z"
  refine ⟨hn, ws, zs, zs, rfl, hI, gH.mono sI, gmz, hnez, by omega, fun z h => h, fun pf HJ vh us fJ sJ hJ gJ hset lu => ?_⟩
  rw [key us hset.up hset.mem] at gJ
  have sIJ := sI.trans sJ
  walk_at "z"
  refine ⟨pf, ex, _, _, _, rfl, hJ, gJ, sIJ _ _ hE, gE.mono sIJ, lE, ?_⟩
  walk_at "z"
  refine z_neSame (dp_gs (sJ _ _ hI) (gH.mono sIJ)) (dp_gs (sIJ _ _ hlH) (gH.mono sIJ)) (shaped_gs _) ?_
  walk_at "z"
  refine z_revL ?_
  walk_at "z"
  refine z_revE (.inl (.inl (sIJ _ _ hlH))) fun a1 HK fK sK hK => ?_
  have sHK := sIJ.trans sK
  obtain ⟨z0, hz0⟩ : ∃ z, zs[0]? = some z := ⟨_, List.getElem?_eq_getElem (List.length_pos_iff.mpr hnez)⟩
  obtain ⟨v0, hv0, d0⟩ := (gH.mono sHK).get hz0
  have hat0 : atI ws 0 = some v0 := nat_idx (k := 0) hv0
  walk_at "z"
  refine z_ixL (.inl (.inl (sHK _ _ hlH))) hat0 ?_
  walk_at "z"
  intro a2 HL fL sL hL
  refine z_cat (sL _ _ hK) hL (by simp only [List.length_reverse, List.length_singleton]; omega) fun a3 HM fM sM hM => ?_
  have sHM := (sHK.trans sL).trans sM
  have gM : Gs K HM (ws.reverse ++ [v0]) (zs.reverse ++ [z0]) := (gH.mono sHM).rev.app (gs_one (dp_mono (sL.trans sM) d0))
  have z0m := List.mem_of_getElem? hz0
  have mem2 : ∀ q, q ∈ zs.reverse ++ [z0] ↔ q ∈ zs := fun q => by
    rw [List.mem_append, List.mem_reverse, List.mem_singleton]
    exact ⟨fun h => h.elim id fun e => by rw [e]; exact z0m, .inl⟩
  walk_at "z"
  refine ⟨a3, _, _, zs, rfl, hM, gM, fun z h => gmz z ((mem2 z).mp h), fun e => by have := congrArg List.length e; simp at this, by omega, fun z h => (mem2 z).mp h, fun pg HN vg us2 fN sN hN gN hset2 lu2 => ?_⟩
  rw [key us2 hset2.up fun q => (hset2.mem q).trans (mem2 q)] at gN
  have sHN := sHM.trans sN
  walk_at "z"
  refine ⟨pg, ex, _, _, _, rfl, hN, gN, sHN _ _ hE, gE.mono sHN, lE, ?_⟩
  walk_at "z"
  exact q _
end

theorem all_mk {l : PySem.W.OpenLaw} {w : World} {K : PySem.W.Frag} {h : Heap} {mg : Str → Option Value} {fa : Addr} (X : K.In h) (G : h.Ns mainGlobals mg) (hfa : mg "law" = some (.ref fa))
    {a0 : Addr} {od0 an0 : Option Addr} {sl0 : Array (Option Value)} {oc0 kV0 dc0 pm0 cd0 ct0 : Value} {a1 : Addr} {od1 an1 : Option Addr} {sl1 : Array (Option Value)} {oc1 kV1 dc1 pm1 cd1 ct1 : Value} {a2 : Addr} {od2 an2 : Option Addr} {sl2 : Array (Option Value)} {oc2 kV2 dc2 pm2 cd2 ct2 : Value} {a3 : Addr} {od3 an3 : Option Addr} {sl3 : Array (Option Value)} {oc3 kV3 dc3 pm3 cd3 ct3 : Value} {a4 : Addr} {od4 an4 : Option Addr} {sl4 : Array (Option Value)} {oc4 kV4 dc4 pm4 cd4 ct4 : Value} {a5 : Addr} {od5 an5 : Option Addr} {sl5 : Array (Option Value)} {oc5 kV5 dc5 pm5 cd5 ct5 : Value} {a6 : Addr} {od6 an6 : Option Addr} {sl6 : Array (Option Value)} {oc6 kV6 dc6 pm6 cd6 ct6 : Value} {a7 : Addr} {od7 an7 : Option Addr} {sl7 : Array (Option Value)} {oc7 kV7 dc7 pm7 cd7 ct7 : Value} {a8 : Addr} {od8 an8 : Option Addr} {sl8 : Array (Option Value)} {oc8 kV8 dc8 pm8 cd8 ct8 : Value} {a9 : Addr} {od9 an9 : Option Addr} {sl9 : Array (Option Value)} {oc9 kV9 dc9 pm9 cd9 ct9 : Value} {a10 : Addr} {od10 an10 : Option Addr} {sl10 : Array (Option Value)} {oc10 kV10 dc10 pm10 cd10 ct10 : Value} {a11 : Addr} {od11 an11 : Option Addr} {sl11 : Array (Option Value)} {oc11 kV11 dc11 pm11 cd11 ct11 : Value}
    (n0 : PySem.W.nsIn K mainGlobals "corners" = some (some (.ref a0)))
    (l0 : K.lookup a0 = some ⟨oc0, od0, .func (PySem.W.fnOf "corners" "corners" (defArgs s_corners) (defBody s_corners) (defScope s_corners) .none kV0 dc0 pm0 an0 cd0 ct0), sl0⟩)
    (c0 : PySem.W.codeIn K cd0 "corners" = true) (k0 : PySem.W.keepIn K (.ref a0) = true)
    (n1 : PySem.W.nsIn K mainGlobals "side" = some (some (.ref a1)))
    (l1 : K.lookup a1 = some ⟨oc1, od1, .func (PySem.W.fnOf "side" "side" (defArgs s_side) (defBody s_side) (defScope s_side) .none kV1 dc1 pm1 an1 cd1 ct1), sl1⟩)
    (c1 : PySem.W.codeIn K cd1 "side" = true) (k1 : PySem.W.keepIn K (.ref a1) = true)
    (n2 : PySem.W.nsIn K mainGlobals "turns_left" = some (some (.ref a2)))
    (l2 : K.lookup a2 = some ⟨oc2, od2, .func (PySem.W.fnOf "turns_left" "turns_left" (defArgs s_turns_left) (defBody s_turns_left) (defScope s_turns_left) .none kV2 dc2 pm2 an2 cd2 ct2), sl2⟩)
    (c2 : PySem.W.codeIn K cd2 "turns_left" = true) (k2 : PySem.W.keepIn K (.ref a2) = true)
    (n3 : PySem.W.nsIn K mainGlobals "_law_cell" = some (some (.ref a3)))
    (l3 : K.lookup a3 = some ⟨oc3, od3, .func (PySem.W.fnOf "_law_cell" "_law_cell" (defArgs s__law_cell) (defBody s__law_cell) (defScope s__law_cell) .none kV3 dc3 pm3 an3 cd3 ct3), sl3⟩)
    (c3 : PySem.W.codeIn K cd3 "_law_cell" = true) (k3 : PySem.W.keepIn K (.ref a3) = true)
    (n4 : PySem.W.nsIn K mainGlobals "_law_stream" = some (some (.ref a4)))
    (l4 : K.lookup a4 = some ⟨oc4, od4, .func (PySem.W.fnOf "_law_stream" "_law_stream" (defArgs s__law_stream) (defBody s__law_stream) (defScope s__law_stream) .none kV4 dc4 pm4 an4 cd4 ct4), sl4⟩)
    (c4 : PySem.W.codeIn K cd4 "_law_stream" = true) (k4 : PySem.W.keepIn K (.ref a4) = true)
    (n5 : PySem.W.nsIn K mainGlobals "_law_draw" = some (some (.ref a5)))
    (l5 : K.lookup a5 = some ⟨oc5, od5, .func (PySem.W.fnOf "_law_draw" "_law_draw" (defArgs s__law_draw) (defBody s__law_draw) (defScope s__law_draw) .none kV5 dc5 pm5 an5 cd5 ct5), sl5⟩)
    (c5 : PySem.W.codeIn K cd5 "_law_draw" = true) (k5 : PySem.W.keepIn K (.ref a5) = true)
    (n6 : PySem.W.nsIn K mainGlobals "_law_is_integer" = some (some (.ref a6)))
    (l6 : K.lookup a6 = some ⟨oc6, od6, .func (PySem.W.fnOf "_law_is_integer" "_law_is_integer" (defArgs s__law_is_integer) (defBody s__law_is_integer) (defScope s__law_is_integer) .none kV6 dc6 pm6 an6 cd6 ct6), sl6⟩)
    (c6 : PySem.W.codeIn K cd6 "_law_is_integer" = true) (k6 : PySem.W.keepIn K (.ref a6) = true)
    (n7 : PySem.W.nsIn K mainGlobals "_law_is_point" = some (some (.ref a7)))
    (l7 : K.lookup a7 = some ⟨oc7, od7, .func (PySem.W.fnOf "_law_is_point" "_law_is_point" (defArgs s__law_is_point) (defBody s__law_is_point) (defScope s__law_is_point) .none kV7 dc7 pm7 an7 cd7 ct7), sl7⟩)
    (c7 : PySem.W.codeIn K cd7 "_law_is_point" = true) (k7 : PySem.W.keepIn K (.ref a7) = true)
    (n8 : PySem.W.nsIn K mainGlobals "_law_bases" = some (some (.ref a8)))
    (l8 : K.lookup a8 = some ⟨oc8, od8, .func (PySem.W.fnOf "_law_bases" "_law_bases" (defArgs s__law_bases) (defBody s__law_bases) (defScope s__law_bases) .none kV8 dc8 pm8 an8 cd8 ct8), sl8⟩)
    (c8 : PySem.W.codeIn K cd8 "_law_bases" = true) (k8 : PySem.W.keepIn K (.ref a8) = true)
    (n9 : PySem.W.nsIn K mainGlobals "_law_from_lowest" = some (some (.ref a9)))
    (l9 : K.lookup a9 = some ⟨oc9, od9, .func (PySem.W.fnOf "_law_from_lowest" "_law_from_lowest" (defArgs s__law_from_lowest) (defBody s__law_from_lowest) (defScope s__law_from_lowest) .none kV9 dc9 pm9 an9 cd9 ct9), sl9⟩)
    (c9 : PySem.W.codeIn K cd9 "_law_from_lowest" = true) (k9 : PySem.W.keepIn K (.ref a9) = true)
    (n10 : PySem.W.nsIn K mainGlobals "_law_same" = some (some (.ref a10)))
    (l10 : K.lookup a10 = some ⟨oc10, od10, .func (PySem.W.fnOf "_law_same" "_law_same" (defArgs s__law_same) (defBody s__law_same) (defScope s__law_same) .none kV10 dc10 pm10 an10 cd10 ct10), sl10⟩)
    (c10 : PySem.W.codeIn K cd10 "_law_same" = true) (k10 : PySem.W.keepIn K (.ref a10) = true)
    (n11 : PySem.W.nsIn K mainGlobals "law" = some (some (.ref a11)))
    (l11 : K.lookup a11 = some ⟨oc11, od11, .func (PySem.W.fnOf "law" "law" (defArgs s_law) (defBody s_law) (defScope s_law) .none kV11 dc11 pm11 an11 cd11 ct11), sl11⟩)
    (c11 : PySem.W.codeIn K cd11 "law" = true) (k11 : PySem.W.keepIn K (.ref a11) = true)
    (z_bool : PySem.W.nsIn K mainGlobals "bool" = some none)
    (z_int : PySem.W.nsIn K mainGlobals "int" = some none)
    (z_isinstance : PySem.W.nsIn K mainGlobals "isinstance" = some none)
    (z_len : PySem.W.nsIn K mainGlobals "len" = some none)
    (z_list : PySem.W.nsIn K mainGlobals "list" = some none)
    (z_range : PySem.W.nsIn K mainGlobals "range" = some none)
    (z_sorted : PySem.W.nsIn K mainGlobals "sorted" = some none)
    (z_tuple : PySem.W.nsIn K mainGlobals "tuple" = some none)
    : ∃ fd : FuncData, (∀ (s : Shared) (v : Value), BindsTo s fd ⟨[v], []⟩ [("script", v)]) ∧ ∀ base : Heap, K.In base → base.Ns mainGlobals mg → FnOk l.prog w K mg base CX0 4 fa fd ["script"] (sp_law K) := by
  have e := hfa.symm.trans (PySem.W.mg_of X G n11)
  cases e
  have F0 := fun_mk (st := s_corners) l0 c0 k0
  have b0 := F0.binds (ps := ["points"]) fun _ _ _ _ _ _ us hl => match us, hl with | [_], _ => rfl
  have F1 := fun_mk (st := s_side) l1 c1 k1
  have b1 := F1.binds (ps := ["points"]) fun _ _ _ _ _ _ us hl => match us, hl with | [_], _ => rfl
  have F2 := fun_mk (st := s_turns_left) l2 c2 k2
  have b2 := F2.binds (ps := ["a", "b", "c"]) fun _ _ _ _ _ _ us hl => match us, hl with | [_, _, _], _ => rfl
  have F3 := fun_mk (st := s__law_cell) l3 c3 k3
  have b3 := F3.binds (ps := ["script", "k"]) fun _ _ _ _ _ _ us hl => match us, hl with | [_, _], _ => rfl
  have F4 := fun_mk (st := s__law_stream) l4 c4 k4
  have b4 := F4.binds (ps := ["cell"]) fun _ _ _ _ _ _ us hl => match us, hl with | [_], _ => rfl
  have F5 := fun_mk (st := s__law_draw) l5 c5 k5
  have b5 := F5.binds (ps := ["stream", "size"]) fun _ _ _ _ _ _ us hl => match us, hl with | [_, _], _ => rfl
  have F6 := fun_mk (st := s__law_is_integer) l6 c6 k6
  have b6 := F6.binds (ps := ["actual"]) fun _ _ _ _ _ _ us hl => match us, hl with | [_], _ => rfl
  have F7 := fun_mk (st := s__law_is_point) l7 c7 k7
  have b7 := F7.binds (ps := ["actual"]) fun _ _ _ _ _ _ us hl => match us, hl with | [_], _ => rfl
  have F8 := fun_mk (st := s__law_bases) l8 c8 k8
  have b8 := F8.binds (ps := ["stream"]) fun _ _ _ _ _ _ us hl => match us, hl with | [_], _ => rfl
  have F9 := fun_mk (st := s__law_from_lowest) l9 c9 k9
  have b9 := F9.binds (ps := ["planted"]) fun _ _ _ _ _ _ us hl => match us, hl with | [_], _ => rfl
  have F10 := fun_mk (st := s__law_same) l10 c10 k10
  have b10 := F10.binds (ps := ["actual", "expected"]) fun _ _ _ _ _ _ us hl => match us, hl with | [_, _], _ => rfl
  have F11 := fun_mk (st := s_law) l11 c11 k11
  have b11 := F11.binds (ps := ["script"]) fun _ _ _ _ _ _ us hl => match us, hl with | [_], _ => rfl
  let A : Nat → Addr := fun | 0 => a0 | 1 => a1 | 2 => a2 | 3 => a3 | 4 => a4 | 5 => a5 | 6 => a6 | 7 => a7 | 8 => a8 | 9 => a9 | 10 => a10 | 11 => fa | _ => 0
  let D : Nat → FuncData := fun | 0 => PySem.W.fnOf "corners" "corners" (defArgs s_corners) (defBody s_corners) (defScope s_corners) .none kV0 dc0 pm0 an0 cd0 ct0 | 1 => PySem.W.fnOf "side" "side" (defArgs s_side) (defBody s_side) (defScope s_side) .none kV1 dc1 pm1 an1 cd1 ct1 | 2 => PySem.W.fnOf "turns_left" "turns_left" (defArgs s_turns_left) (defBody s_turns_left) (defScope s_turns_left) .none kV2 dc2 pm2 an2 cd2 ct2 | 3 => PySem.W.fnOf "_law_cell" "_law_cell" (defArgs s__law_cell) (defBody s__law_cell) (defScope s__law_cell) .none kV3 dc3 pm3 an3 cd3 ct3 | 4 => PySem.W.fnOf "_law_stream" "_law_stream" (defArgs s__law_stream) (defBody s__law_stream) (defScope s__law_stream) .none kV4 dc4 pm4 an4 cd4 ct4 | 5 => PySem.W.fnOf "_law_draw" "_law_draw" (defArgs s__law_draw) (defBody s__law_draw) (defScope s__law_draw) .none kV5 dc5 pm5 an5 cd5 ct5 | 6 => PySem.W.fnOf "_law_is_integer" "_law_is_integer" (defArgs s__law_is_integer) (defBody s__law_is_integer) (defScope s__law_is_integer) .none kV6 dc6 pm6 an6 cd6 ct6 | 7 => PySem.W.fnOf "_law_is_point" "_law_is_point" (defArgs s__law_is_point) (defBody s__law_is_point) (defScope s__law_is_point) .none kV7 dc7 pm7 an7 cd7 ct7 | 8 => PySem.W.fnOf "_law_bases" "_law_bases" (defArgs s__law_bases) (defBody s__law_bases) (defScope s__law_bases) .none kV8 dc8 pm8 an8 cd8 ct8 | 9 => PySem.W.fnOf "_law_from_lowest" "_law_from_lowest" (defArgs s__law_from_lowest) (defBody s__law_from_lowest) (defScope s__law_from_lowest) .none kV9 dc9 pm9 an9 cd9 ct9 | 10 => PySem.W.fnOf "_law_same" "_law_same" (defArgs s__law_same) (defBody s__law_same) (defScope s__law_same) .none kV10 dc10 pm10 an10 cd10 ct10 | _ => PySem.W.fnOf "law" "law" (defArgs s_law) (defBody s_law) (defScope s_law) .none kV11 dc11 pm11 an11 cd11 ct11
  have T : Txt K mg A D :=
    {F_corners := F0,
     m_corners := PySem.W.mg_of X G n0,
     b_corners := b0,
     F_side := F1,
     m_side := PySem.W.mg_of X G n1,
     b_side := b1,
     F_turns_left := F2,
     m_turns_left := PySem.W.mg_of X G n2,
     b_turns_left := b2,
     F__law_cell := F3,
     m__law_cell := PySem.W.mg_of X G n3,
     b__law_cell := b3,
     F__law_stream := F4,
     m__law_stream := PySem.W.mg_of X G n4,
     b__law_stream := b4,
     F__law_draw := F5,
     m__law_draw := PySem.W.mg_of X G n5,
     b__law_draw := b5,
     F__law_is_integer := F6,
     m__law_is_integer := PySem.W.mg_of X G n6,
     b__law_is_integer := b6,
     F__law_is_point := F7,
     m__law_is_point := PySem.W.mg_of X G n7,
     b__law_is_point := b7,
     F__law_bases := F8,
     m__law_bases := PySem.W.mg_of X G n8,
     b__law_bases := b8,
     F__law_from_lowest := F9,
     m__law_from_lowest := PySem.W.mg_of X G n9,
     b__law_from_lowest := b9,
     F__law_same := F10,
     m__law_same := PySem.W.mg_of X G n10,
     b__law_same := b10,
     F_law := F11,
     m_law := PySem.W.mg_of X G n11,
     b_law := b11,
     z_bool := PySem.W.mg_none_of X G z_bool,
     z_int := PySem.W.mg_none_of X G z_int,
     z_isinstance := PySem.W.mg_none_of X G z_isinstance,
     z_len := PySem.W.mg_none_of X G z_len,
     z_list := PySem.W.mg_none_of X G z_list,
     z_range := PySem.W.mg_none_of X G z_range,
     z_sorted := PySem.W.mg_none_of X G z_sorted,
     z_tuple := PySem.W.mg_none_of X G z_tuple}
  exact ⟨_, fun s v => .of_eq rfl, fun base _ _ => ok_law T⟩
end G
open PySem PySem.W PyProof.Rows
set_option maxRecDepth 100000 in
set_option maxHeartbeats 0 in
theorem PySem.Challenge.cw_fontwinding_k28_planted_corners_holds : PySem.Challenge.rw_fontwinding_k28_planted_corners.Holds := by
  w_on; o_law; k_head; (case hw => w_witness2)
  k_fill
  refine L2.walk_of (l := PySem.Challenge.rw_fontwinding_k28_planted_corners) (n := 63) (k := 4) (x := "script") (CX := fun _ => L2.CX0) (sp := fun w => G.sp_law _) rfl (by decide) rfl ⟨rfl, by decide, by decide⟩ (fun w h Y => PySem.W.kIn_of Y) ?F (fun _ _ a ns hl _ hS => ⟨a, ns, rfl, hS, hl, fun _ => rfl⟩) (fun _ _ _ _ _ h => h)
  case F =>
    intro w mg fa h KX G0 hmg
    refine' G.all_mk KX G0 hmg ?n0 ?l0 ?c0 ?k0 ?n1 ?l1 ?c1 ?k1 ?n2 ?l2 ?c2 ?k2 ?n3 ?l3 ?c3 ?k3 ?n4 ?l4 ?c4 ?k4 ?n5 ?l5 ?c5 ?k5 ?n6 ?l6 ?c6 ?k6 ?n7 ?l7 ?c7 ?k7 ?n8 ?l8 ?c8 ?k8 ?n9 ?l9 ?c9 ?k9 ?n10 ?l10 ?c10 ?k10 ?n11 ?l11 ?c11 ?k11 ?z_bool ?z_int ?z_isinstance ?z_len ?z_list ?z_range ?z_sorted ?z_tuple
    (case n0 => k_is)
    (case l0 => k_is)
    (case c0 => k_is)
    (case k0 => k_is)
    (case n1 => k_is)
    (case l1 => k_is)
    (case c1 => k_is)
    (case k1 => k_is)
    (case n2 => k_is)
    (case l2 => k_is)
    (case c2 => k_is)
    (case k2 => k_is)
    (case n3 => k_is)
    (case l3 => k_is)
    (case c3 => k_is)
    (case k3 => k_is)
    (case n4 => k_is)
    (case l4 => k_is)
    (case c4 => k_is)
    (case k4 => k_is)
    (case n5 => k_is)
    (case l5 => k_is)
    (case c5 => k_is)
    (case k5 => k_is)
    (case n6 => k_is)
    (case l6 => k_is)
    (case c6 => k_is)
    (case k6 => k_is)
    (case n7 => k_is)
    (case l7 => k_is)
    (case c7 => k_is)
    (case k7 => k_is)
    (case n8 => k_is)
    (case l8 => k_is)
    (case c8 => k_is)
    (case k8 => k_is)
    (case n9 => k_is)
    (case l9 => k_is)
    (case c9 => k_is)
    (case k9 => k_is)
    (case n10 => k_is)
    (case l10 => k_is)
    (case c10 => k_is)
    (case k10 => k_is)
    (case n11 => k_is)
    (case l11 => k_is)
    (case c11 => k_is)
    (case k11 => k_is)
    (case z_bool => k_is)
    (case z_int => k_is)
    (case z_isinstance => k_is)
    (case z_len => k_is)
    (case z_list => k_is)
    (case z_range => k_is)
    (case z_sorted => k_is)
    (case z_tuple => k_is)
