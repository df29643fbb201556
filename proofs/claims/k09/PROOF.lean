import PyProof.Rows.All
import Wide.All
import OpenK.AllK
import Wide.FinOn
import HandS.ForMost
import HandS.ForExc
import HandS.Wide
import HandS.Gcd
import HandS.IsInst
import HandS.ExcIs
import HandS.TryMany
import HandS.Evl
import HandS.Style
import HandS.SetBool
import HandS.Strs
import HandS.SortInts
import PyProof.ListIndex
import PyProof.ListIndexNeg
import HandS.Defaults
import HandS.MakeKwOnly
import HandS.Property
import HandS.Walk
import HandS.CallSlots
import HandS.FStr
import HandS.RaiseMore
import HandS.TupAny
import HandS.Comp
import HandS.HotCalls
import HandS.SuiteRaise
import HandS.WordsExc
import KE.KDictCopyH
import PyProof.EvalArms
import PyProof.DictUpdate
import HandS.Dict
import HandS.More
import HandS.CallLocal
import HandS.Conv
import KE.KDictPairs
import KE.KDictZip
import PySem.Challenge.RW_fontwinding_k09_whole_order_of_equations
set_option Elab.async false
set_option linter.all false
set_option maxRecDepth 100000
set_option maxHeartbeats 4000000
namespace Z
open PySem PySem.Spec PyProof.Rows L2

/-! ### operators -/
section
variable {X : Cx}
def CFd (_ j : Int) : Prop := j ≠ 0 ∧ j.natAbs.log2 < 9000
theorem op_fdivZ : OpR X (binaryOp .FloorDiv) (rI CFd fun i j => .int (i.fdiv j)) := opI fun i j _ _ _ _ _ hc q => floordiv_int hc.1 q (.inl (PyProof.noPylong_of_log2 hc.2))
theorem pe_globE {x : Str} {pos : Pos} {v : V} (h : ∃ u, X.mg x = some u ∧ RelV v u) (hg : Gl X x := by rfl) (hdb : (x == ("__debug__" : Str)) = false := by decide) : PE X (.Name x pos) (tC v) := by
  obtain ⟨u, h1, h2⟩ := h
  exact pe_glob hg h1 h2 hdb
theorem pe_globR {x : Str} {pos : Pos} {a : Addr} (h : X.mg x = some (.ref a)) (hg : Gl X x := by rfl) (hdb : (x == ("__debug__" : Str)) = false := by decide) : PE X (.Name x pos) (tC (.ref a)) := pe_glob hg h rfl hdb
end
/-- an own error class over ValueError -/
structure ExcX (K : PySem.W.Frag) (mg : Str → Option Value) (x : Str) (C : Addr) : Prop where
  g : mg x = some (.ref C)
  q : PySem.W.excIn K C [.type "ValueError", .type "Exception", .type "BaseException", .type "object"] "ValueError.__new__" = true
  k : PySem.W.keepIn K (.ref C) = true
  t : PySem.W.typeIn K (.ref C) = some (.type "type")
  c : ExcC K C
  v : PySem.W.subIn K (.ref C) (.type "ValueError") = some true
section
variable {X : Cx} {C D : Addr} {K : PySem.W.Frag} {mg : Str → Option Value} {x y : Str} {b : Bool}
theorem pmk {m : Str} {j : Nat} {p p2 pos : Pos} (E : ExcX X.K X.mg x C) (hg : Gl X x) (hdb : (x == ("__debug__" : Str)) = false := by decide) :
    PMk X (.Call (.Name x p) [.Constant (.str m) j p2] [] pos) (fun _ H Q => Q (.ref C) none H) := pmk_own PySem.F.excBase_ValueError E.q E.g E.k (raises_own E.c.hs E.t) hg hdb
theorem exm (E : ExcX K mg x C) (h : PySem.W.subIn K (.ref D) (.ref C) = some b) : PySem.W.exmOne K (.ref D) (.ref C) = some b := PySem.W.exm_ref E.c.hs E.c.hd E.t h
theorem kit_own (E : ExcX K mg x C) (h : PySem.W.subIn K (.ref D) (.ref C) = some b) (hs : PySem.W.subIn K (.ref C) (.ref C) = some true) : PySem.W.kitOne K (.ref D) (.ref C) = some b := by
  unfold PySem.W.kitOne
  by_cases e : D = C
  · subst e
    rw [hs] at h
    cases h
    rw [if_pos (by simp)]
  · rw [if_neg (by simpa using e)]
    unfold PySem.W.kitCls
    obtain ⟨cd, hc, _⟩ := PySem.W.any_some E.c.hd
    have e2 : ((PySem.W.clsIn K C).isSome && PySem.W.typeIn K (.ref C) == some (.type "type")) = true := by rw [hc, E.t] <;> rfl
    show (if _ then _ else _) = _
    rw [if_pos e2, h]
theorem kit_ve (E : ExcX K mg x D) : PySem.W.kitOne K (.ref D) (.type "ValueError") = some true := by
  unfold PySem.W.kitOne
  rw [if_neg (by simp)]
  unfold PySem.W.kitCls
  show (if _ then _ else _) = _
  rw [if_pos (by decide +kernel), E.v]
/-- isinstance of the error that a suite holds -/
def rIsEx (K : PySem.W.Frag) (cls : Value) (d : Option Addr) (a : Addr) : List V → Hp → VK → Prop := fun xs H Q => ∃ D, cls = .ref D ∧ d = none ∧ ExcC K D ∧ rIsE K D a xs H Q
theorem call_isE {a : Addr} {oe : Obj} {cls : Value} {d : Option Addr} {pn : List (Addr × Obj)} (hz : Zc cls d oe) (hf : ∃ vs, oe.data = .fields vs) : CallR (X.suite a ((a, oe) :: pn)) (.builtin "isinstance") (rIsEx X.K cls d a) := by
  intro pins s σ H xs us Q I r h
  obtain ⟨D, e1, e2, c, h⟩ := h
  subst e1
  subst e2
  exact L2.call_isE c hz hf pins s σ H xs us Q I r h
end

/-! ### heaps -/
theorem same_upd {H : Hp} {p : Addr} {o : HO} (h : H p = none) : Same H (upd H p o) := fun b x e => by
  rw [upd_ne (ne_of_none e h)]
  exact e
theorem Same.seqT {K : PySem.W.Frag} {H H' : Hp} {a : Addr} {xs : List V} (e : Same H H') (h : SqT K H a xs) : SqT K H' a xs := by
  rcases h with (h | ⟨o, h⟩) | h
  · exact .inl (.inl (e _ _ h))
  · exact .inl (.inr ⟨o, e _ _ h⟩)
  · exact .inr h
theorem seqT {K : PySem.W.Frag} {H H' : Hp} {a : Addr} {xs : List V} (e : Same H H') (h : SqT K H a xs) : SqT K H' a xs := Same.seqT e h
theorem sz {n : Nat} (h : n ≤ 1000) : n ≤ sizeLine := Nat.le_trans h (by decide)

/-! ### readings, step by step -/
def NewT (Q : VK) : List V → Hp → Prop := fun xs H1 => xs.length ≤ sizeLine ∧ ∀ p, H1 p = none → Q (.ref p) (upd H1 p (.tup xs))
def NewL (Q : VK) : List V → Hp → Prop := fun xs H1 => xs.length ≤ sizeLine ∧ ∀ p, H1 p = none → Q (.ref p) (upd H1 p (.lst xs))
section
variable {σ : L2.St} {H : Hp} {n : L2.St → Hp → Prop} {r : VK} {b c : L2.St → Hp → Prop} {t u : TS} {te ta tb : TE} {tt tu : TT} {Q : VK} {QB : Bool → Hp → Prop} {v w x y : V} {i j : Int} {K : PySem.W.Frag}
theorem z_seq (h : t ⟨u ⟨n, r, b, c⟩, r, b, c⟩ σ H) : tSeq t u ⟨n, r, b, c⟩ σ H := h
theorem z_asg {k : Nat} (h : te σ H fun x H1 => n (σ.set k (some x)) H1) : tAsg te (gName k) ⟨n, r, b, c⟩ σ H := h
theorem z_asgS {to ti : TE} {st : TSet} (h : te σ H fun v H0 => to σ H0 fun o H1 => ti σ H1 fun k H2 => st o k v H2 fun H3 => n σ H3) : tAsg te (gSub to ti st) ⟨n, r, b, c⟩ σ H := h
theorem z_drop (h : te σ H fun _ H1 => n σ H1) : tDrop te ⟨n, r, b, c⟩ σ H := h
theorem z_ret (h : te σ H r) : tRet te ⟨n, r, b, c⟩ σ H := h
theorem z_retN (h : r .non H) : tRetN ⟨n, r, b, c⟩ σ H := h
theorem z_next (h : n σ H) : tNext ⟨n, r, b, c⟩ σ H := h
theorem z_brk (h : b σ H) : tBreak ⟨n, r, b, c⟩ σ H := h
theorem z_cont (h : c σ H) : tCont ⟨n, r, b, c⟩ σ H := h
theorem z_ifs (h : tt σ H fun k H1 => if k = true then t ⟨n, r, b, c⟩ σ H1 else u ⟨n, r, b, c⟩ σ H1) : tIfS tt t u ⟨n, r, b, c⟩ σ H := h
theorem z_par {p q : Nat} {tl : TA} (h : tl σ H fun vs H1 => ∃ v w, vs = [v, w] ∧ n ((σ.set p (some v)).set q (some w)) H1) : tPar p q tl ⟨n, r, b, c⟩ σ H := h
theorem z_two {R : V → V → Prop} (h : R v w) : ∃ v' w', [v, w] = [v', w'] ∧ R v' w' := ⟨v, w, rfl, h⟩
theorem z_aug {k : Nat} {ti : TIp} (h : σ[k]? = some (some x)) (q : te σ H fun y H1 => ti x y H1 fun z H2 => n (σ.set k (some z)) H2) : tAug k te ti ⟨n, r, b, c⟩ σ H := ⟨x, h, q⟩
theorem z_ipI {f : Int → Int → Int} (q : Q (.int (f i j)) H) : ipI f (.int i) (.int j) H Q := ⟨i, j, rfl, rfl, q⟩
theorem z_var {k : Nat} (h : σ[k]? = some (some v)) (q : Q v H) : tVar k σ H Q := ⟨v, h, q⟩
theorem z_c (q : Q v H) : tC v σ H Q := q
theorem z_op {g : R2} (h : ta σ H fun x H1 => tb σ H1 fun y H2 => g x y H2 Q) : tOp g ta tb σ H Q := h
theorem z_un {g : V → Hp → VK → Prop} (h : ta σ H fun x H1 => g x H1 Q) : tUn g ta σ H Q := h
theorem z_I0 {g : Int → Int → V} (q : Q (g i j) H) : rI0 g (.int i) (.int j) H Q := ⟨i, j, rfl, rfl, q⟩
theorem z_I {C : Int → Int → Prop} {g : Int → Int → V} (hc : C i j) (q : Q (g i j) H) : rI C g (.int i) (.int j) H Q := ⟨i, j, rfl, rfl, hc, q⟩
theorem z_U {g : Int → V} (q : Q (g i) H) : rU g (.int i) H Q := ⟨i, rfl, q⟩
theorem z_eqI (q : Q (.bl (decide (i = j))) H) : rEq (.int i) (.int j) H Q := ⟨rfl, by rw [show decide (V.int i = V.int j) = decide (i = j) by simp]; exact q⟩
theorem z_neI (q : Q (.bl (decide (¬ i = j))) H) : rNe (.int i) (.int j) H Q := ⟨rfl, by rw [show (!decide (V.int i = V.int j)) = decide (¬ i = j) by simp]; exact q⟩
theorem z_eq (h : scal x y = true) (q : Q (.bl (decide (x = y))) H) : rEq x y H Q := ⟨h, q⟩
theorem z_test (h : te σ H fun x H1 => ∃ k, x = .bl k ∧ QB k H1) : tTest te σ H QB := h
theorem z_tB (h : te σ H fun x H1 => ∃ k, x = .bl k ∧ QB k H1) : tB te σ H QB := h
theorem z_bl {k : Bool} {R : Bool → Prop} (q : R k) : ∃ k', V.bl k = V.bl k' ∧ R k' := ⟨k, rfl, q⟩
theorem z_notT (h : tt σ H fun k H1 => QB (!k) H1) : tNot tt σ H QB := h
theorem z_andT (h : tt σ H fun k H1 => if k = true then tu σ H1 QB else QB false H1) : tAnd tt tu σ H QB := h
theorem z_orT (h : tt σ H fun k H1 => if k = true then QB true H1 else tu σ H1 QB) : tOr tt tu σ H QB := h
theorem z_andV (h : ta σ H fun x H1 => ∃ k, x = .bl k ∧ if k = true then tb σ H1 Q else Q (.bl false) H1) : tAndV ta tb σ H Q := h
theorem z_orV (h : ta σ H fun x H1 => ∃ k, x = .bl k ∧ if k = true then Q (.bl true) H1 else tb σ H1 Q) : tOrV ta tb σ H Q := h
theorem z_notV (h : ta σ H fun x H1 => ∃ k, x = .bl k ∧ Q (.bl (!k)) H1) : tNotV ta σ H Q := h
theorem z_ifE (h : tt σ H fun k H1 => if k = true then ta σ H1 Q else tb σ H1 Q) : tIf tt ta tb σ H Q := h
theorem z_chain {g g' : R2} {tc : TE} (h : ta σ H fun x H1 => tb σ H1 fun y H2 => g x y H2 fun z H3 => ∃ k, z = .bl k ∧ (if k = true then tc σ H3 fun w' H4 => g' y w' H4 Q else Q (.bl false) H3)) : tChain g g' ta tb tc σ H Q := h
theorem z_nil {R : List V → Hp → Prop} (q : R [] H) : tNil σ H R := q
theorem z_cons {tr : TA} {R : List V → Hp → Prop} (h : ta σ H fun x H1 => tr σ H1 fun xs H2 => R (x :: xs) H2) : tCons ta tr σ H R := h
theorem z_tup {tl : TA} (h : tl σ H (NewT Q)) : tTup tl σ H Q := h
theorem z_lst {tl : TA} (h : tl σ H (NewL Q)) : tLst tl σ H Q := h
theorem z_newT {xs : List V} (hl : xs.length ≤ 1000) (q : ∀ p H', H p = none → Same H H' → H' p = some (.tup xs) → Q (.ref p) H') : NewT Q xs H := ⟨sz hl, fun p hp => q p _ hp (same_upd hp) upd_same⟩
theorem z_newL {xs : List V} (hl : xs.length ≤ 1000) (q : ∀ p H', H p = none → Same H H' → H' p = some (.lst xs) → Q (.ref p) H') : NewL Q xs H := ⟨sz hl, fun p hp => q p _ hp (same_upd hp) upd_same⟩
theorem z_cb {g : List V → Hp → VK → Prop} {tl : TA} (h : tl σ H fun vs H1 => g vs H1 Q) : tCB g tl σ H Q := h
theorem z_call {sp : Sp} {E : XK} {tl : TA} (h : tl σ H fun vs H1 => sp vs H1 Q E) : tCall sp [] E tl σ H Q := by
  unfold tCall
  simpa only [List.append_nil] using h
theorem z_callS {sp : Sp} {E : L2.St → XK} {tl : TA} (h : tl σ H fun vs H1 => sp vs H1 Q (E σ)) : tCallS sp E tl σ H Q := h
theorem z_ixL {p : Addr} {xs : List V} (h : SqL K H p xs) (ha : atI xs i = some v) (q : Q v H) : rIxL K (.ref p) (.int i) H Q := ⟨p, xs, i, v, rfl, rfl, h, ha, q⟩
theorem z_ixT {p : Addr} {xs : List V} (h : SqT K H p xs) (ha : atI xs i = some v) (q : Q v H) : rIxT K (.ref p) (.int i) H Q := ⟨p, xs, i, v, rfl, rfl, h, ha, q⟩
theorem z_setL {p : Addr} {xs : List V} {k : Nat} {R : Hp → Prop} (h : H p = some (.lst xs)) (hk : ixN xs.length i = some k) (q : R (upd H p (.lst (xs.set k v)))) : rSetL (.ref p) (.int i) v H R := ⟨p, xs, i, k, rfl, rfl, h, hk, q⟩
theorem z_if {p : Prop} [Decidable p] {A B : Prop} (h1 : p → A) (h2 : ¬ p → B) : if decide p = true then A else B := by
  by_cases h : p
  · rw [if_pos (decide_eq_true h)]
    exact h1 h
  · rw [if_neg (by simpa using h)]
    exact h2 h
theorem z_ifB {k : Bool} {A B : Prop} (h1 : k = true → A) (h2 : k = false → B) : if k = true then A else B := by
  cases k with
  | true => exact h1 rfl
  | false => exact h2 rfl
/-- and, or, not of a test whose answer is known, the heap as it was -/
theorem z_andK {k k' : Bool} (h : k = true → ∀ R : Bool → Hp → Prop, R k' H → tu σ H R) (q : QB (k && k') H) : if k = true then tu σ H QB else QB false H := by
  cases k with
  | true => exact h rfl QB q
  | false => exact q
theorem z_orK {k k' : Bool} (h : k = false → ∀ R : Bool → Hp → Prop, R k' H → tu σ H R) (q : QB (k || k') H) : if k = true then QB true H else tu σ H QB := by
  cases k with
  | true => exact q
  | false => exact h rfl QB q
theorem z_andKV {k k' : Bool} (h : k = true → ∀ R : VK, R (.bl k') H → tb σ H R) (q : Q (.bl (k && k')) H) : if k = true then tb σ H Q else Q (.bl false) H := by
  cases k with
  | true => exact h rfl Q q
  | false => exact q
theorem z_orKV {k k' : Bool} (h : k = false → ∀ R : VK, R (.bl k') H → tb σ H R) (q : Q (.bl (k || k')) H) : if k = true then Q (.bl true) H else tb σ H Q := by
  cases k with
  | true => exact q
  | false => exact h rfl Q q
/-- the second comparison of a chain -/
theorem z_chK {k k' : Bool} {tc : TE} {g' : R2} (h : k = true → ∀ R : VK, R (.bl k') H → tc σ H fun w' H4 => g' y w' H4 R) (q : Q (.bl (k && k')) H) :
    if k = true then tc σ H fun w' H4 => g' y w' H4 Q else Q (.bl false) H := by
  cases k with
  | true => exact h rfl Q q
  | false => exact q
theorem z_ty {x : V} {t : String} {T : String} {k : Bool} {H : Hp} {Q : VK} (h : TyX K H x (.type t)) (e : kitB t T = some k) (q : Q (.bl k) H) : rIsi K [x, .ty T] H Q := ⟨x, .ty T, .type t, .type T, k, rfl, .ty T, h, kit_ty e, q⟩
end
end Z
namespace Z
open PySem PySem.Spec PyProof.Rows L2
theorem pe_powc {X : Cx} {a b v : Int} {j1 j2 : Nat} {p1 p2 pos : Pos} (h0 : CPow a b) (hv : a ^ b.toNat = v) : PE X (.BinOp (.Constant (.int a) j1 p1) .Pow (.Constant (.int b) j2 p2) pos) (tC (.int v)) := by
  subst hv
  exact ⟨fun pins s σ H Q I h => (pe_op op_pow pe_int pe_int).run pins s σ H Q I ⟨a, b, rfl, rfl, h0, h⟩⟩
def rInt1 : List V → Hp → VK → Prop := fun xs H Q => (∃ i, xs = [.int i] ∧ Q (.int i) H) ∨ ∃ k, xs = [.bl k] ∧ Q (.int (if k then 1 else 0)) H
def rAbs : List V → Hp → VK → Prop := fun xs H Q => ∃ i, xs = [.int i] ∧ Q (.int (if i < 0 then -i else i)) H
def rLen (K : PySem.W.Frag) : List V → Hp → VK → Prop := fun xs H Q => ∃ p ys, xs = [.ref p] ∧ (SqL K H p ys ∨ SqT K H p ys) ∧ Q (.int ys.length) H
theorem c_int {X : Cx} : CallR X (.type "int") rInt1 := call_int1
theorem c_abs {X : Cx} : CallR X (.builtin "abs") rAbs := call_abs
theorem c_len {X : Cx} : CallR X (.builtin "len") (rLen X.K) := call_len_seq
section
variable {H : Hp} {Q : VK} {i j : Int} {v : V} {R : Prop}
theorem z_int1 (q : Q (.int i) H) : rInt1 [.int i] H Q := .inl ⟨i, rfl, q⟩
theorem z_int1b {k : Bool} (q : Q (.int (if k then 1 else 0)) H) : rInt1 [.bl k] H Q := .inr ⟨k, rfl, q⟩
theorem z_abs (q : Q (.int (if i < 0 then -i else i)) H) : rAbs [.int i] H Q := ⟨i, rfl, q⟩
theorem z_gcd (q : Q (.int ((Nat.gcd i.natAbs j.natAbs : Nat) : Int)) H) : rGcd [.int i, .int j] H Q := ⟨i, j, rfl, q⟩
theorem z_lenL {K : PySem.W.Frag} {p : Addr} {xs : List V} (h : SqL K H p xs) (q : Q (.int (xs.length : Int)) H) : rLen K [.ref p] H Q := ⟨p, xs, rfl, .inl h, q⟩
theorem z_lenT {K : PySem.W.Frag} {p : Addr} {xs : List V} (h : SqT K H p xs) (q : Q (.int (xs.length : Int)) H) : rLen K [.ref p] H Q := ⟨p, xs, rfl, .inr h, q⟩
theorem z_isII {K : PySem.W.Frag} (q : Q (.bl true) H) : rIsi K [.int i, .ty "int"] H Q := z_ty (.base (.int i)) (by decide +kernel) q
theorem z_isIB {K : PySem.W.Frag} (q : Q (.bl false) H) : rIsi K [.int i, .ty "bool"] H Q := z_ty (.base (.int i)) (by decide +kernel) q
theorem z_isBB {K : PySem.W.Frag} {k : Bool} (q : Q (.bl true) H) : rIsi K [.bl k, .ty "bool"] H Q := z_ty (.base (.bl k)) (by decide +kernel) q
theorem z_isTT {K : PySem.W.Frag} {p : Addr} {xs : List V} (h : H p = some (.tup xs)) (q : Q (.bl true) H) : rIsi K [.ref p, .ty "tuple"] H Q := z_ty (.base (.tup h)) (by decide +kernel) q
theorem z_isLL {K : PySem.W.Frag} {p : Addr} {xs : List V} (h : H p = some (.lst xs)) (q : Q (.bl true) H) : rIsi K [.ref p, .ty "list"] H Q := z_ty (.base (.lst h)) (by decide +kernel) q
theorem z_new {xs : List V} {F : Addr → Prop} (h : xs.length ≤ 1000) (q : ∀ p, H p = none → F p) : xs.length ≤ sizeLine ∧ ∀ p, H p = none → F p := ⟨sz h, q⟩
end
end Z
namespace Z
open PySem PySem.Spec PyProof.Rows L2
section
variable {σ : L2.St} {H : Hp} {n : L2.St → Hp → Prop} {r : VK} {b c : L2.St → Hp → Prop} {tb : TS} {K : PySem.W.Frag}
/-- for k in range(m) -/
theorem z_forR1 {ta : TA} {k : Nat} (m : Nat) (hm : m < 2 ^ 62) (ha : ∀ R : List V → Hp → Prop, R [.int (m : Int)] H → ta σ H R) (Pv : Nat → L2.St → Hp → Prop) (h0 : Pv 0 σ H)
    (hs : ∀ i σ H, i < m → Pv i σ H → tb ⟨Pv (i + 1), r, n, Pv (i + 1)⟩ (σ.set k (some (.int (i : Int)))) H) (hd : ∀ σ H, Pv m σ H → n σ H) : tFor (iRng1 ta) (gName k) tb ⟨n, r, b, c⟩ σ H := by
  refine ha _ ⟨(m : Int), rfl, by omega, by omega, ?_⟩
  refine for_range (lo := 0) (n := (m : Int).toNat) Pv h0 (fun i σ' H' hi p => ?_) (fun σ' H' p => hd σ' H' (by simpa using p))
  have e : (0 : Int) + (i : Int) = (i : Int) := Int.zero_add _
  show tb _ (σ'.set k (some (.int ((0 : Int) + (i : Int))))) H'
  rw [e]
  exact hs i σ' H' (by simpa using hi) p
/-- for k in range(lo, hi) -/
theorem z_forR2 {ta : TA} {k : Nat} (lo : Int) (m : Nat) (hl : -(2 ^ 61) ≤ lo ∧ lo < 2 ^ 61) (hm : m < 2 ^ 61) (ha : ∀ R : List V → Hp → Prop, R [.int lo, .int (lo + (m : Int))] H → ta σ H R) (Pv : Nat → L2.St → Hp → Prop) (h0 : Pv 0 σ H)
    (hs : ∀ i σ H, i < m → Pv i σ H → tb ⟨Pv (i + 1), r, n, Pv (i + 1)⟩ (σ.set k (some (.int (lo + (i : Int))))) H) (hd : ∀ σ H, Pv m σ H → n σ H) : tFor (iRng2 ta) (gName k) tb ⟨n, r, b, c⟩ σ H := by
  refine ha _ ⟨lo, lo + (m : Int), rfl, by omega, ?_⟩
  have en : (lo + (m : Int) - lo).toNat = m := by omega
  rw [en]
  exact for_range (lo := lo) (n := m) Pv h0 hs hd
/-- for x in a list, in a tuple -/
theorem z_forL {tl : TE} {g : TG} {a : Addr} {xs : List V} (ha : ∀ R : VK, R (.ref a) H → tl σ H R) (hx : SqL K H a xs) (Pv : Nat → L2.St → Hp → Prop) (h0 : Pv 0 σ H) (hl : ∀ i σ H, i ≤ xs.length → Pv i σ H → SqL K H a xs)
    (hs : ∀ i x σ H, xs[i]? = some x → Pv i σ H → g x σ H fun σ2 H2 => tb ⟨Pv (i + 1), r, n, Pv (i + 1)⟩ σ2 H2) (hd : ∀ σ H, Pv xs.length σ H → n σ H) : tFor (iList K tl) g tb ⟨n, r, b, c⟩ σ H :=
  ha _ ⟨a, rfl, ⟨xs, hx⟩, for_list Pv h0 hl hs hd⟩
theorem z_forT {tl : TE} {g : TG} {a : Addr} {xs : List V} (ha : ∀ R : VK, R (.ref a) H → tl σ H R) (hx : SqT K H a xs) (Pv : Nat → L2.St → Hp → Prop) (h0 : Pv 0 σ H) (hl : ∀ i σ H, i ≤ xs.length → Pv i σ H → SqT K H a xs)
    (hs : ∀ i x σ H, xs[i]? = some x → Pv i σ H → g x σ H fun σ2 H2 => tb ⟨Pv (i + 1), r, n, Pv (i + 1)⟩ σ2 H2) (hd : ∀ σ H, Pv xs.length σ H → n σ H) : tFor (iTup K tl) g tb ⟨n, r, b, c⟩ σ H :=
  ha _ ⟨a, rfl, ⟨xs, hx⟩, for_tup Pv h0 hl hs hd⟩
theorem z_gName {k : Nat} {v : V} {R : L2.St → Hp → Prop} (q : R (σ.set k (some v)) H) : gName k v σ H R := q
end
end Z
namespace Z
section
variable {A B : Prop}
theorem z_ifT (q : A) : if true = true then A else B := by
  rw [if_pos rfl]
  exact q
theorem z_ifF (q : B) : if false = true then A else B := by
  rw [if_neg Bool.false_ne_true]
  exact q
theorem z_ifNF (q : A) : if (!false) = true then A else B := z_ifT q
theorem z_ifNT (q : B) : if (!true) = true then A else B := z_ifF q
theorem z_ifN {p : Prop} [Decidable p] (h1 : ¬ p → A) (h2 : p → B) : if (!decide p) = true then A else B := by
  by_cases h : p
  · rw [if_neg (by simpa using h)]
    exact h2 h
  · rw [if_pos (by simpa using h)]
    exact h1 h
end
end Z
namespace Z
theorem z_ifYes {A B : Prop} {k : Bool} (h : k = true) (q : A) : if k = true then A else B := by
  rw [if_pos h]
  exact q
theorem z_ifNo {A B : Prop} {k : Bool} (h : k = false) (q : B) : if k = true then A else B := by
  rw [if_neg (by rw [h]; exact Bool.false_ne_true)]
  exact q
end Z
namespace Z
open PySem PySem.Spec PyProof.Rows L2
theorem z_exc {K : PySem.W.Frag} {cv cls : Value} {i : Nat} {ts : Addr → Value → Option Addr → TS} {Wout : WX} {n : L2.St → Hp → Prop} {r : VK} {b c : L2.St → Hp → Prop} {d : Option Addr} {σ : L2.St} {H : Hp} (e : PySem.W.exmOne K cls cv = some true)
    (h : ∀ a, H a = none → ts a cls d ⟨fun σ' H' => n (σ'.set i none) H', r, fun σ' H' => b (σ'.set i none) H', fun σ' H' => c (σ'.set i none) H'⟩ (σ.set i (some (.ref a))) H) : WE (wAs K cv i ts Wout ⟨n, r, b, c⟩) σ cls d H :=
  ⟨true, e, fun _ a ha => h a ha, fun z => Bool.noConfusion z⟩
theorem z_excO {K : PySem.W.Frag} {cv cls : Value} {ts : Addr → Value → Option Addr → TS} {Wout : WX} {D : Ends} {d : Option Addr} {σ : L2.St} {H : Hp} (e : PySem.W.exmOne K cls cv = some true)
    (h : ∀ a, H a = none → ts a cls d D σ H) : WE (wOnly K cv ts Wout D) σ cls d H :=
  ⟨true, e, fun _ a ha => h a ha, fun z => Bool.noConfusion z⟩
theorem z_isEr {K : PySem.W.Frag} {a C D : Addr} {k : Bool} {H : Hp} {Q : VK} (x : ExcC K D) (e : PySem.W.kitOne K (.ref D) (.ref C) = some k) (q : Q (.bl k) H) : rIsEx K (.ref D) none a [.ref a, .ref C] H Q :=
  ⟨D, rfl, rfl, x, .ref C, .ref C, k, rfl, fun u h => h, e, q⟩
theorem z_isEt {K : PySem.W.Frag} {a D : Addr} {t : String} {k : Bool} {H : Hp} {Q : VK} (x : ExcC K D) (e : PySem.W.kitOne K (.ref D) (.type t) = some k) (q : Q (.bl k) H) : rIsEx K (.ref D) none a [.ref a, .ty t] H Q :=
  ⟨D, rfl, rfl, x, .ty t, .type t, k, rfl, fun u h => h, e, q⟩
/-- two lists, tuples of flat things compared -/
theorem z_eqD {K : PySem.W.Frag} {x y : V} {d e : PyData} {H : Hp} {Q : VK} (h1 : Dp K H x d) (h2 : Dp K H y e) (s1 : SeqAt.shaped d = true) (s2 : SeqAt.shaped e = true) (q : Q (.bl (PyData.eqv d e)) H) : rEqD K x y H Q := ⟨d, e, h1, h2, s1, s2, q⟩
end Z
namespace Z
open PySem PySem.Spec PyProof.Rows L2
theorem z_eqSame {K : PySem.W.Frag} {x y : V} {d : PyData} {H : Hp} {Q : VK} (h1 : Dp K H x d) (h2 : Dp K H y d) (s : SeqAt.shaped d = true) (q : Q (.bl true) H) : rEqD K x y H Q :=
  ⟨d, d, h1, h2, s, s, by rw [SeqAt.eqv_refl d (SeqAt.canLay_of_shaped s)]; exact q⟩
theorem dpT2 {K : PySem.W.Frag} {H : Hp} {p : Addr} {n d : Int} (h : H p = some (.tup [.int n, .int d])) : Dp K H (.ref p) (.tuple [.int n, .int d]) := .tup (.inl (.inl h)) (.cons (.int n) (.cons (.int d) .nil))
theorem dpB3 {K : PySem.W.Frag} {H : Hp} {p : Addr} {a b c : Bool} (h : H p = some (.lst [.bl a, .bl b, .bl c])) : Dp K H (.ref p) (.list [.bool a, .bool b, .bool c]) := .lst (.inl (.inl h)) (.cons (.bl a) (.cons (.bl b) (.cons (.bl c) .nil)))
end Z
namespace Z
open PySem PySem.Spec PyProof.Rows L2
theorem z_cut {t u : TS} {n : L2.St → Hp → Prop} {r : VK} {b c : L2.St → Hp → Prop} {σ : L2.St} {H : Hp} (Mid : L2.St → Hp → Prop) (h : t ⟨Mid, r, b, c⟩ σ H) (k : ∀ σ' H', Mid σ' H' → u ⟨n, r, b, c⟩ σ' H') : Evl.tCut t u ⟨n, r, b, c⟩ σ H := ⟨Mid, h, k⟩
end Z
namespace Z
open PySem PySem.Spec PyProof.Rows L2
section
variable {σ : L2.St} {H : Hp} {n : L2.St → Hp → Prop} {r : VK} {b c : L2.St → Hp → Prop} {te : TE} {K : PySem.W.Frag} {a : Addr} {xs : List V} {gs : TGs} {m : Nat} {v : V}
theorem z_asgT (h : te σ H fun x H1 => ∃ a xs, x = .ref a ∧ SqT K H1 a xs ∧ xs.length = m ∧ gs xs σ H1 n) : tAsg te (gTup K m gs) ⟨n, r, b, c⟩ σ H := h
theorem z_asgL (h : te σ H fun x H1 => ∃ a xs, x = .ref a ∧ SqL K H1 a xs ∧ xs.length = m ∧ gs xs σ H1 n) : tAsg te (gLst K m gs) ⟨n, r, b, c⟩ σ H := h
theorem z_up (h : SqT K H a xs) (hm : xs.length = m) (q : gs xs σ H n) : ∃ a' xs', V.ref a = .ref a' ∧ SqT K H a' xs' ∧ xs'.length = m ∧ gs xs' σ H n := ⟨a, xs, rfl, h, hm, q⟩
theorem z_upL (h : SqL K H a xs) (hm : xs.length = m) (q : gs xs σ H n) : ∃ a' xs', V.ref a = .ref a' ∧ SqL K H a' xs' ∧ xs'.length = m ∧ gs xs' σ H n := ⟨a, xs, rfl, h, hm, q⟩
theorem z_gT (h : SqT K H a xs) (hm : xs.length = m) (q : gs xs σ H n) : gTup K m gs (.ref a) σ H n := ⟨a, xs, rfl, h, hm, q⟩
theorem z_gcons {t : TG} {u : TGs} {R : L2.St → Hp → Prop} (h : t v σ H fun σ' H' => u xs σ' H' R) : gCons t u (v :: xs) σ H R := ⟨v, xs, rfl, h⟩
theorem z_gnil {R : L2.St → Hp → Prop} (h : R σ H) : gNil [] σ H R := ⟨rfl, h⟩
end
end Z
namespace Z
open PySem PySem.Spec PyProof.Rows L2
section
variable {K : PySem.W.Frag} {Wout : WX} {D : Ends} {c cls : Value} {ts : Addr → Value → Option Addr → TS} {l : List (Value × (Addr → Value → Option Addr → TS))} {σ : L2.St} {H : Hp} {d : Option Addr}
theorem z_many1 (e : PySem.W.exmOne K cls c = some true) (h : ∀ a, H a = none → ts a cls d D σ H) : WE (wMany K Wout D ((c, ts) :: l)) σ cls d H := ⟨true, e, fun _ a ha => h a ha, fun z => Bool.noConfusion z⟩
theorem z_many0 (e : PySem.W.exmOne K cls c = some false) (h : WE (wMany K Wout D l) σ cls d H) : WE (wMany K Wout D ((c, ts) :: l)) σ cls d H := ⟨false, e, fun z => Bool.noConfusion z, fun _ => h⟩
theorem z_eqS {x : Str} {Q : VK} (q : Q (.bl true) H) : rEq (.str x) (.str x) H Q := ⟨rfl, by rw [decide_eq_true rfl]; exact q⟩
end
end Z
/-! ### data: what a value stands for -/
namespace Z
open PySem PySem.Spec PyProof.Rows L2
section
variable {K : PySem.W.Frag} {H H' : Hp} {v : V} {d d1 d2 d3 d4 d5 d6 : PyData}
mutual
theorem dp_mono (s : Same H H') : ∀ {d : PyData} {v : V}, Dp K H v d → Dp K H' v d
  | _, _, .non => .non
  | _, _, .bl b => .bl b
  | _, _, .int i => .int i
  | _, _, .str x => .str x
  | _, _, .lst h a => .lst (s.seq h) (dp_monoA s a)
  | _, _, .tup h a => .tup (seqT s h) (dp_monoA s a)
theorem dp_monoA (s : Same H H') : ∀ {ds : List PyData} {vs : List V}, DpAll K H vs ds → DpAll K H' vs ds
  | _, _, .nil => .nil
  | _, _, .cons h a => .cons (dp_mono s h) (dp_monoA s a)
end
mutual
def tupOnly : PyData → Bool
  | .list _ => false
  | .dict _ => false
  | .tuple ds => tupOnlyA ds
  | .none => true
  | .bool _ => true
  | .int _ => true
  | .str _ => true
def tupOnlyA : List PyData → Bool
  | [] => true
  | d :: ds => tupOnly d && tupOnlyA ds
end
def Kp (p : Addr) (H H' : Hp) : Prop := ∀ b o, b ≠ p → H b = some o → H' b = some o
theorem seqT_kp {p a : Addr} {xs ys : List V} (k : Kp p H H') (hp : H p = some (.lst xs)) (h : SqT K H a ys) : SqT K H' a ys := by
  rcases h with (h | ⟨o, h⟩) | h
  · exact .inl (.inl (k _ _ (ne_of h hp (by intro z; cases z)) h))
  · exact .inl (.inr ⟨o, k _ _ (ne_of h hp (by intro z; cases z)) h⟩)
  · exact .inr h
mutual
theorem dp_kp {p : Addr} {xs : List V} (k : Kp p H H') (hp : H p = some (.lst xs)) : ∀ {d : PyData} {v : V}, tupOnly d = true → Dp K H v d → Dp K H' v d
  | _, _, _, .non => .non
  | _, _, _, .bl b => .bl b
  | _, _, _, .int i => .int i
  | _, _, _, .str x => .str x
  | _, _, t, .lst h a => by simp [tupOnly] at t
  | _, _, t, .tup h a => .tup (seqT_kp k hp h) (dp_kpA k hp (by simpa [tupOnly] using t) a)
theorem dp_kpA {p : Addr} {xs : List V} (k : Kp p H H') (hp : H p = some (.lst xs)) : ∀ {ds : List PyData} {vs : List V}, tupOnlyA ds = true → DpAll K H vs ds → DpAll K H' vs ds
  | _, _, _, .nil => .nil
  | _, _, t, .cons h a => by
    have t' : (tupOnly _ && tupOnlyA _) = true := t
    rw [Bool.and_eq_true] at t'
    exact .cons (dp_kp k hp t'.1 h) (dp_kpA k hp t'.2 a)
end
theorem dp_int {i : Int} (h : Dp K H v (.int i)) : v = .int i := by
  cases h
  rfl
theorem dp_non (h : Dp K H v .none) : v = .non := by
  cases h
  rfl
theorem dp_bool {b : Bool} (h : Dp K H v (.bool b)) : v = .bl b := by
  cases h
  rfl
theorem dp_str {b : Str} (h : Dp K H v (.str b)) : v = .str b := by
  cases h
  rfl
theorem dp_tup {ds : List PyData} (h : Dp K H v (.tuple ds)) : ∃ p vs, v = .ref p ∧ SqT K H p vs ∧ DpAll K H vs ds := by
  cases h with
  | tup h a => exact ⟨_, _, rfl, h, a⟩
theorem dpa_nil {vs : List V} (h : DpAll K H vs []) : vs = [] := by
  cases h
  rfl
theorem dpa_cons {vs : List V} {ds : List PyData} (h : DpAll K H vs (d :: ds)) : ∃ v r, vs = v :: r ∧ Dp K H v d ∧ DpAll K H r ds := by
  cases h with
  | cons a b => exact ⟨_, _, rfl, a, b⟩
theorem dp_t1 (h : Dp K H v (.tuple [d1])) : ∃ p v1, v = .ref p ∧ SqT K H p [v1] ∧ Dp K H v1 d1 := by
  obtain ⟨p, vs, e, hS, a⟩ := dp_tup h
  obtain ⟨v1, _, rfl, h1, a⟩ := dpa_cons a
  obtain rfl := dpa_nil a
  exact ⟨p, v1, e, hS, h1⟩
theorem dp_t2 (h : Dp K H v (.tuple [d1, d2])) : ∃ p v1 v2, v = .ref p ∧ SqT K H p [v1, v2] ∧ Dp K H v1 d1 ∧ Dp K H v2 d2 := by
  obtain ⟨p, vs, e, hS, a⟩ := dp_tup h
  obtain ⟨v1, _, rfl, h1, a⟩ := dpa_cons a
  obtain ⟨v2, _, rfl, h2, a⟩ := dpa_cons a
  obtain rfl := dpa_nil a
  exact ⟨p, v1, v2, e, hS, h1, h2⟩
theorem dp_t3 (h : Dp K H v (.tuple [d1, d2, d3])) : ∃ p v1 v2 v3, v = .ref p ∧ SqT K H p [v1, v2, v3] ∧ Dp K H v1 d1 ∧ Dp K H v2 d2 ∧ Dp K H v3 d3 := by
  obtain ⟨p, vs, e, hS, a⟩ := dp_tup h
  obtain ⟨v1, _, rfl, h1, a⟩ := dpa_cons a
  obtain ⟨v2, _, rfl, h2, a⟩ := dpa_cons a
  obtain ⟨v3, _, rfl, h3, a⟩ := dpa_cons a
  obtain rfl := dpa_nil a
  exact ⟨p, v1, v2, v3, e, hS, h1, h2, h3⟩
theorem dp_t6 (h : Dp K H v (.tuple [d1, d2, d3, d4, d5, d6])) : ∃ p v1 v2 v3 v4 v5 v6, v = .ref p ∧ SqT K H p [v1, v2, v3, v4, v5, v6] ∧ Dp K H v1 d1 ∧ Dp K H v2 d2 ∧ Dp K H v3 d3 ∧ Dp K H v4 d4 ∧ Dp K H v5 d5 ∧ Dp K H v6 d6 := by
  obtain ⟨p, vs, e, hS, a⟩ := dp_tup h
  obtain ⟨v1, _, rfl, h1, a⟩ := dpa_cons a
  obtain ⟨v2, _, rfl, h2, a⟩ := dpa_cons a
  obtain ⟨v3, _, rfl, h3, a⟩ := dpa_cons a
  obtain ⟨v4, _, rfl, h4, a⟩ := dpa_cons a
  obtain ⟨v5, _, rfl, h5, a⟩ := dpa_cons a
  obtain ⟨v6, _, rfl, h6, a⟩ := dpa_cons a
  obtain rfl := dpa_nil a
  exact ⟨p, v1, v2, v3, v4, v5, v6, e, hS, h1, h2, h3, h4, h5, h6⟩
theorem dp_mk {p : Addr} {vs : List V} {ds : List PyData} (h : H p = some (.tup vs)) (a : DpAll K H vs ds) : Dp K H (.ref p) (.tuple ds) := .tup (.inl (.inl h)) a
end
/-! ### numbers -/
def qD (r : Rat) : PyData := .tuple [.int r.num, .int (r.den : Int)]
theorem dp_q {K : PySem.W.Frag} {H : Hp} {v : V} {r : Rat} (h : Dp K H v (qD r)) : ∃ p, v = .ref p ∧ SqT K H p [.int r.num, .int (r.den : Int)] := by
  obtain ⟨p, v1, v2, e, hS, h1, h2⟩ := dp_t2 h
  rw [dp_int h1, dp_int h2] at hS
  exact ⟨p, e, hS⟩
theorem dp_mkq {K : PySem.W.Frag} {H : Hp} {p : Addr} {r : Rat} (h : H p = some (.tup [.int r.num, .int (r.den : Int)])) : Dp K H (.ref p) (qD r) := dp_mk h (.cons (.int _) (.cons (.int _) .nil))
theorem dp_seqq {K : PySem.W.Frag} {H : Hp} {p : Addr} {r : Rat} (h : SqT K H p [.int r.num, .int (r.den : Int)]) : Dp K H (.ref p) (qD r) := .tup h (.cons (.int _) (.cons (.int _) .nil))
/-- numerator and denominator at most so great -/
def Bd (r : Rat) (p q : Nat) : Prop := r.num.natAbs ≤ p ∧ r.den ≤ q
theorem bd_divInt {n d : Int} (h : d ≠ 0) : Bd (Rat.divInt n d) n.natAbs d.natAbs := by
  unfold Bd
  rw [Rat.num_divInt, Rat.den_divInt, if_neg h]
  refine ⟨Nat.le_trans (Int.natAbs_ediv_le_natAbs _ _) ?_, Nat.div_le_self _ _⟩
  rw [Int.natAbs_mul]
  have : d.sign.natAbs ≤ 1 := by
    rcases Int.lt_trichotomy d 0 with z | z | z
    · rw [Int.sign_eq_neg_one_of_neg z]; decide
    · exact absurd z h
    · rw [Int.sign_eq_one_of_pos z]; decide
  calc d.sign.natAbs * n.natAbs ≤ 1 * n.natAbs := Nat.mul_le_mul_right _ this
    _ = n.natAbs := Nat.one_mul _
theorem q_self (r : Rat) : Rat.divInt r.num (r.den : Int) = r := Rat.num_divInt_den r
end Z
namespace Z
open PySem PySem.Spec PyProof.Rows L2
def gd (n d : Int) : Int := ((Nat.gcd n.natAbs d.natAbs : Nat) : Int)
def rn (n d : Int) : Int := (if d < 0 then -n else n) / gd n d
def rd (n d : Int) : Int := (if d < 0 then -d else d) / gd n d
theorem rn_q {n d : Int} (h : d ≠ 0) : rn n d = (Rat.divInt n d).num := by
  rw [Rat.num_divInt]
  unfold rn gd
  have e : d.gcd n = Nat.gcd n.natAbs d.natAbs := Nat.gcd_comm _ _
  rw [e]
  congr 1
  split
  · rename_i z
    rw [Int.sign_eq_neg_one_of_neg z]
    omega
  · rename_i z
    rw [Int.sign_eq_one_of_pos (by omega)]
    omega
theorem rd_q {n d : Int} (h : d ≠ 0) : rd n d = ((Rat.divInt n d).den : Int) := by
  rw [Rat.den_divInt, if_neg h]
  unfold rd gd
  have e : d.gcd n = Nat.gcd n.natAbs d.natAbs := Nat.gcd_comm _ _
  rw [e]
  rw [Int.natCast_ediv]
  congr 1
  split <;> omega
def lim : Int := 1000000000000000000
def fitsQ (r : Rat) : Prop := -lim ≤ r.num ∧ r.num ≤ lim ∧ (r.den : Int) ≤ lim
theorem bd_add {a b : Rat} {p q p' q' : Nat} (h : Bd a p q) (h' : Bd b p' q') : Bd (a + b) (p * q' + p' * q) (q * q') := by
  have ha := a.den_nz
  have hb := b.den_nz
  have e : a + b = Rat.divInt (a.num * b.den + b.num * a.den) ((a.den : Int) * b.den) := by
    rw [← Rat.divInt_add_divInt _ _ (by omega) (by omega), Rat.num_divInt_den, Rat.num_divInt_den]
  rw [e]
  have hd : ((a.den : Int) * b.den) ≠ 0 := Int.mul_ne_zero (by omega) (by omega)
  have k := bd_divInt (n := a.num * b.den + b.num * a.den) hd
  refine ⟨Nat.le_trans k.1 (Nat.le_trans (Int.natAbs_add_le _ _) ?_), Nat.le_trans k.2 ?_⟩
  · rw [Int.natAbs_mul, Int.natAbs_mul]
    exact Nat.add_le_add (Nat.mul_le_mul h.1 h'.2) (Nat.mul_le_mul h'.1 h.2)
  · rw [Int.natAbs_mul]
    exact Nat.mul_le_mul h.2 h'.2
theorem bd_mul {a b : Rat} {p q p' q' : Nat} (h : Bd a p q) (h' : Bd b p' q') : Bd (a * b) (p * p') (q * q') := by
  have ha := a.den_nz
  have hb := b.den_nz
  have e : a * b = Rat.divInt (a.num * b.num) ((a.den : Int) * b.den) := by
    rw [← Rat.divInt_mul_divInt, Rat.num_divInt_den, Rat.num_divInt_den]
  rw [e]
  have hd : ((a.den : Int) * b.den) ≠ 0 := Int.mul_ne_zero (by omega) (by omega)
  have k := bd_divInt (n := a.num * b.num) hd
  refine ⟨Nat.le_trans k.1 ?_, Nat.le_trans k.2 ?_⟩
  · rw [Int.natAbs_mul]
    exact Nat.mul_le_mul h.1 h'.1
  · rw [Int.natAbs_mul]
    exact Nat.mul_le_mul h.2 h'.2
theorem bd_neg {a : Rat} {p q : Nat} (h : Bd a p q) : Bd (-a) p q := by
  unfold Bd
  rw [Rat.neg_num, Rat.neg_den, Int.natAbs_neg]
  exact h
theorem bd_sub {a b : Rat} {p q p' q' : Nat} (h : Bd a p q) (h' : Bd b p' q') : Bd (a - b) (p * q' + p' * q) (q * q') := by
  rw [Rat.sub_eq_add_neg]
  exact bd_add h (bd_neg h')
theorem q_div (a b : Rat) (h : b ≠ 0) : a / b = Rat.divInt (a.num * b.den) ((a.den : Int) * b.num) := by
  rw [Rat.div_def, ← Rat.num_divInt_den b, Rat.inv_divInt]
  conv => lhs; lhs; rw [← Rat.num_divInt_den a]
  rw [Rat.divInt_mul_divInt, Rat.num_divInt_den]
theorem bd_div {a b : Rat} {p q p' q' : Nat} (hb : b ≠ 0) (h : Bd a p q) (h' : Bd b p' q') : Bd (a / b) (p * q') (q * p') := by
  have ha := a.den_nz
  rw [q_div a b hb]
  have hn : b.num ≠ 0 := fun z => hb (Rat.num_eq_zero.mp z)
  have hd : ((a.den : Int) * b.num) ≠ 0 := Int.mul_ne_zero (by omega) hn
  have k := bd_divInt (n := a.num * b.den) hd
  refine ⟨Nat.le_trans k.1 ?_, Nat.le_trans k.2 ?_⟩
  · rw [Int.natAbs_mul]
    exact Nat.mul_le_mul h.1 h'.2
  · rw [Int.natAbs_mul]
    exact Nat.mul_le_mul h.2 h'.1
theorem Bd.le {a : Rat} {p q p' q' : Nat} (h : Bd a p q) (h1 : p ≤ p') (h2 : q ≤ q') : Bd a p' q' := ⟨Nat.le_trans h.1 h1, Nat.le_trans h.2 h2⟩
theorem Bd.fits {a : Rat} {p q : Nat} (h : Bd a p q) (h1 : p ≤ 1000000000000000000) (h2 : q ≤ 1000000000000000000) : fitsQ a := by
  have a1 := h.1
  have a2 := h.2
  unfold fitsQ lim
  omega
theorem q_add (a b : Rat) : a + b = Rat.divInt (a.num * b.den + b.num * a.den) ((a.den : Int) * b.den) := by
  have ha := a.den_nz
  have hb := b.den_nz
  rw [← Rat.divInt_add_divInt _ _ (by omega) (by omega), Rat.num_divInt_den, Rat.num_divInt_den]
theorem q_sub (a b : Rat) : a - b = Rat.divInt (a.num * b.den - b.num * a.den) ((a.den : Int) * b.den) := by
  have ha := a.den_nz
  have hb := b.den_nz
  rw [← Rat.divInt_sub_divInt _ _ (by omega) (by omega), Rat.num_divInt_den, Rat.num_divInt_den]
theorem q_mul (a b : Rat) : a * b = Rat.divInt (a.num * b.num) ((a.den : Int) * b.den) := by
  rw [← Rat.divInt_mul_divInt, Rat.num_divInt_den, Rat.num_divInt_den]
theorem q_dd (a b : Rat) : ((a.den : Int) * b.den) ≠ 0 := by
  have ha := a.den_nz
  have hb := b.den_nz
  exact Int.mul_ne_zero (by omega) (by omega)
end Z
namespace Z
open PySem PySem.Spec PyProof.Rows L2
theorem tyx_T {K : PySem.W.Frag} {H : Hp} {a : Addr} {xs : List V} (h : SqT K H a xs) : TyX K H (.ref a) (.type "tuple") := by
  rcases h with (h | ⟨o, h⟩) | ⟨o, its, n, h, c, _⟩
  · exact .base (.tup h)
  · exact .fTuple h
  · exact .kTuple h c
theorem z_isT {K : PySem.W.Frag} {H : Hp} {Q : VK} {p : Addr} {xs : List V} (h : SqT K H p xs) (q : Q (.bl true) H) : rIsi K [.ref p, .ty "tuple"] H Q := z_ty (tyx_T h) (by decide +kernel) q
end Z
namespace Z
open PySem PySem.Spec PyProof.Rows L2
/-- a tuple of the module's own -/
theorem dpk {K : PySem.W.Frag} {H : Hp} {a : Addr} {od : Option Addr} {its : List Value} {n : Nat} {sl : Array (Option Value)} {vs : List V} {ds : List PyData} (h : K.lookup a = some ⟨.type "tuple", od, .seq its.toArray n, sl⟩)
    (hs : its.length ≤ 1000) (r : Vals vs its) (d : DpAll K H vs ds) : Dp K H (.ref a) (.tuple ds) :=
  .tup (.inr ⟨_, its.toArray, n, h, rfl, rfl, by rw [List.size_toArray]; exact sz hs, by simpa using r⟩) d
/-- a tuple and a tuple -/
theorem z_catT {K : PySem.W.Frag} {H : Hp} {Q : VK} {p q : Addr} {xs ys : List V} (h1 : SqT K H p xs) (h2 : SqT K H q ys) (hx : xs ≠ []) (hl : xs.length + ys.length ≤ 1000) (hy : ys ≠ [])
    (k : ∀ p H', H p = none → Same H H' → H' p = some (.tup (xs ++ ys)) → Q (.ref p) H') : rCatT K (.ref p) (.ref q) H Q := by
  refine ⟨p, q, xs, ys, rfl, rfl, h1, h2, hx, sz hl, fun z => absurd z hy, fun _ a ha => k a _ ha (same_upd ha) upd_same⟩
end Z
namespace Z
open PySem PySem.Spec PyProof.Rows L2
def rTupOf (K : PySem.W.Frag) : List V → Hp → VK → Prop := fun xs H Q => ∃ p ys, xs = [.ref p] ∧ ((SqL K H p ys ∧ ∀ l, H l = none → Q (.ref l) (upd H l (.tup ys))) ∨ (SqT K H p ys ∧ Q (.ref p) H))
def rListOf (K : PySem.W.Frag) : List V → Hp → VK → Prop := fun xs H Q => ∃ p ys, xs = [.ref p] ∧ (SqL K H p ys ∨ SqT K H p ys) ∧ ∀ l, H l = none → Q (.ref l) (upd H l (.lst ys))
theorem c_tupOf {X : Cx} : CallR X (.type "tuple") (rTupOf X.K) := call_tuple_of
theorem c_listOf {X : Cx} : CallR X (.type "list") (rListOf X.K) := call_list_of
section
variable {K : PySem.W.Frag} {H : Hp} {Q : VK} {p : Addr} {xs : List V} {σ : L2.St}
theorem z_tupOf (h : SqL K H p xs) (q : ∀ a H', H a = none → Same H H' → H' a = some (.tup xs) → Q (.ref a) H') : rTupOf K [.ref p] H Q := ⟨p, xs, rfl, .inl ⟨h, fun l hl => q l _ hl (same_upd hl) upd_same⟩⟩
theorem z_tupOfT (h : SqT K H p xs) (q : Q (.ref p) H) : rTupOf K [.ref p] H Q := ⟨p, xs, rfl, .inr ⟨h, q⟩⟩
theorem z_listOf (h : SqL K H p xs) (q : ∀ a H', H a = none → Same H H' → H' a = some (.lst xs) → Q (.ref a) H') : rListOf K [.ref p] H Q := ⟨p, xs, rfl, .inl h, fun l hl => q l _ hl (same_upd hl) upd_same⟩
theorem z_listOfT (h : SqT K H p xs) (q : ∀ a H', H a = none → Same H H' → H' a = some (.lst xs) → Q (.ref a) H') : rListOf K [.ref p] H Q := ⟨p, xs, rfl, .inr h, fun l hl => q l _ hl (same_upd hl) upd_same⟩
theorem z_yes {QB : Bool → Hp → Prop} (q : QB true H) : tYes σ H QB := q
/-- [e for k in range(m)] -/
theorem z_lcR1 {ta : TA} {k : Nat} {te : TE} {vs : List Nat} (m : Nat) (hm : m ≤ 1000) (ha : ∀ R : List V → Hp → Prop, R [.int (m : Int)] H → ta σ H R) (hw : ∀ x, wipe ((wipe σ vs).set k (some x)) vs = wipe σ vs) (Pv : Nat → Addr → List V → Hp → Prop)
    (h0 : ∀ D H', H D = none → Same H H' → H' D = some (.lst []) → Pv 0 D [] H')
    (hs : ∀ i D acc H', i < m → acc.length = i → H' D = some (.lst acc) → Pv i D acc H' → te ((wipe σ vs).set k (some (.int (i : Int)))) H' fun y H4 => H4 D = some (.lst acc) ∧ Pv (i + 1) D (acc ++ [y]) (upd H4 D (.lst (acc ++ [y]))))
    (mono : ∀ σ' H' Q Q', (∀ y H4, Q y H4 → Q' y H4) → te σ' H' Q → te σ' H' Q')
    (hd : ∀ D acc H', acc.length = m → H' D = some (.lst acc) → Pv m D acc H' → Q (.ref D) H') : tLc (iRng1 ta) (gName k) tYes te vs σ H Q := by
  refine ha _ ⟨(m : Int), rfl, by omega, by omega, fun D hD => ?_⟩
  refine lc_range (lo := 0) (n := (m : Int).toNat) (fun i H' => ∃ acc, acc.length = i ∧ H' D = some (.lst acc) ∧ Pv i D acc H') ⟨[], rfl, upd_same, h0 D _ hD (same_upd hD) upd_same⟩ (fun i H' hi ⟨acc, hl, hH, p⟩ => ?_) (fun H' ⟨acc, hl, hH, p⟩ => hd D acc H' (by simpa using hl) hH (by simpa using p))
  have e : (0 : Int) + (i : Int) = (i : Int) := Int.zero_add _
  show wipe ((wipe σ vs).set k (some (.int ((0 : Int) + (i : Int))))) vs = wipe σ vs ∧ _
  refine ⟨hw _, ?_⟩
  refine z_yes ?_
  refine z_ifT ?_
  rw [e]
  have hi' : i < m := by simpa using hi
  exact mono _ _ _ _ (fun y H4 ⟨e1, e2⟩ => ⟨acc, e1, Nat.lt_of_lt_of_le (show acc.length < 1000 by omega) (by decide), acc ++ [y], by simp [hl], upd_same, e2⟩) (hs i D acc H' (by simpa using hi) hl hH p)
end
end Z
namespace Z
open PySem PySem.Spec PyProof.Rows L2
section
variable {K : PySem.W.Frag} {H : Hp} {Q : VK} {p : Addr} {xs : List V} {σ : L2.St} {i : Int} {RO : Option Int → Hp → Prop} {te : TE} {tl th : TO}
theorem z_sl {g : V → Option Int → Option Int → Hp → VK → Prop} (h : te σ H fun x H1 => tl σ H1 fun l H2 => th σ H2 fun u H3 => g x l u H3 Q) : tSl g te tl th σ H Q := h
theorem z_noPart (q : RO none H) : tNoPart σ H RO := q
theorem z_part (h : te σ H fun x H1 => ∃ i, x = .int i ∧ RO (some i) H1) : tPart te σ H RO := h
theorem z_partI (q : RO (some i) H) : ∃ i', V.int i = .int i' ∧ RO (some i') H := ⟨i, rfl, q⟩
theorem z_slL {lo hi : Option Int} {ys : List V} (h : SqL K H p xs) (e : cutV xs lo hi = ys) (q : ∀ a H', H a = none → Same H H' → H' a = some (.lst ys) → Q (.ref a) H') : rSlL K (.ref p) lo hi H Q := by
  subst e
  exact ⟨p, xs, rfl, h, fun a ha => q a _ ha (same_upd ha) upd_same⟩
end
end Z
namespace Z
open PySem PySem.Spec PyProof.Rows L2
theorem z_slT {K : PySem.W.Frag} {H : Hp} {Q : VK} {p : Addr} {xs ys : List V} {lo hi : Option Int} (h : SqT K H p xs) (hn : ¬ (HT.sIx xs.length 0 lo = 0 ∧ HT.sIx xs.length xs.length hi = xs.length)) (e : cutV xs lo hi = ys)
    (q : ∀ a H', H a = none → Same H H' → H' a = some (.tup ys) → Q (.ref a) H') : rSlT K (.ref p) lo hi H Q := by
  subst e
  exact ⟨p, xs, rfl, h, hn, fun a ha => q a _ ha (same_upd ha) upd_same⟩
theorem eqv_q (a b : Rat) : PyData.eqv (qD a) (qD b) = decide (a = b) := by
  show (a.num == b.num && ((a.den : Int) == (b.den : Int) && true)) = decide (a = b)
  by_cases h : a = b
  · subst h
    simp
  · rw [decide_eq_false h]
    by_cases h1 : a.num = b.num
    · have h2 : ¬ (a.den : Int) = b.den := fun z => h (Rat.ext h1 (by omega))
      simp [h2]
    · simp [h1]
theorem shaped_q (a : Rat) : SeqAt.shaped (qD a) = true := rfl
theorem z_eqQ {K : PySem.W.Frag} {x y : V} {a b : Rat} {H : Hp} {Q : VK} (h1 : Dp K H x (qD a)) (h2 : Dp K H y (qD b)) (q : Q (.bl (decide (a = b))) H) : rEqD K x y H Q := ⟨qD a, qD b, h1, h2, shaped_q a, shaped_q b, by rw [eqv_q]; exact q⟩
theorem z_neQ {K : PySem.W.Frag} {x y : V} {a b : Rat} {H : Hp} {Q : VK} (h1 : Dp K H x (qD a)) (h2 : Dp K H y (qD b)) (q : Q (.bl (decide (¬ a = b))) H) : rNeD K x y H Q := ⟨qD a, qD b, h1, h2, shaped_q a, shaped_q b, by
  rw [eqv_q, show (!decide (a = b)) = decide (¬ a = b) by simp]
  exact q⟩
theorem z_neSame {K : PySem.W.Frag} {x y : V} {d : PyData} {H : Hp} {Q : VK} (h1 : Dp K H x d) (h2 : Dp K H y d) (s : SeqAt.shaped d = true) (q : Q (.bl false) H) : rNeD K x y H Q :=
  ⟨d, d, h1, h2, s, s, by rw [SeqAt.eqv_refl d (SeqAt.canLay_of_shaped s)]; exact q⟩
end Z
namespace Z
open PySem PySem.Spec PyProof.Rows L2
def rIsN : R2 := fun x y H Q => y = .non ∧ Q (.bl (decide (x = .non))) H
def rNotN : R2 := fun x y H Q => y = .non ∧ Q (.bl (!decide (x = .non))) H
theorem op_isN1 {X : Cx} : OpR X (compareOp .Is) rIsN := op_isN
theorem op_notN1 {X : Cx} : OpR X (compareOp .IsNot) rNotN := op_notN
section
variable {σ : L2.St} {H : Hp} {n : L2.St → Hp → Prop} {r : VK} {b c : L2.St → Hp → Prop} {tb : TS} {K : PySem.W.Frag} {Q : VK} {p : Addr} {v y : V} {xs : List V}
theorem z_isNN (q : Q (.bl true) H) : rIsN .non .non H Q := ⟨rfl, by simpa using q⟩
theorem z_isNR (q : Q (.bl false) H) : rIsN (.ref p) .non H Q := ⟨rfl, by simpa using q⟩
theorem z_notNN (q : Q (.bl false) H) : rNotN .non .non H Q := ⟨rfl, by simpa using q⟩
theorem z_notNR (q : Q (.bl true) H) : rNotN (.ref p) .non H Q := ⟨rfl, by simpa using q⟩
theorem z_bmL {r : V → List V → Hp → VK → Prop} {to : TE} {t : TA} (ho : ∀ R : VK, R (.ref p) H → to σ H R) (hp : H p = some (.lst xs)) (h : t σ H fun vs H2 => r (.ref p) vs H2 Q) : tBM K "list" r to t σ H Q :=
  ho _ ⟨.inl ⟨rfl, _, .inl (.inl hp)⟩, h⟩
theorem z_append (hp : H p = some (.lst xs)) (hl : xs.length < 1000) (q : Q .non (upd H p (.lst (xs ++ [y])))) : rAppend (.ref p) [y] H Q := ⟨p, xs, y, rfl, rfl, hp, Nat.lt_of_lt_of_le hl (by decide), q⟩
/-- the list that a for goes over, made on the way -/
def ForL (K : PySem.W.Frag) (g : TG) (tb : TS) (n : L2.St → Hp → Prop) (r : VK) (b c : L2.St → Hp → Prop) (σ : L2.St) : VK := fun x H1 => tFor (iList K (tC x)) g tb ⟨n, r, b, c⟩ σ H1
theorem z_forE {tl : TE} {g : TG} (h : tl σ H (ForL K g tb n r b c σ)) : tFor (iList K tl) g tb ⟨n, r, b, c⟩ σ H := h
/-- [e for x in l], where e answers at once -/
theorem z_lcM {tl : TE} {k : Nat} {te : TE} {vs : List Nat} {a : Addr} {xs ws : List V} (hlen : ws.length = xs.length) (hm : xs.length ≤ 1000) (ha : ∀ R : VK, R (.ref a) H → tl σ H R) (hx : H a = some (.lst xs)) (hw : ∀ x, wipe ((wipe σ vs).set k (some x)) vs = wipe σ vs)
    (body : ∀ (i : Nat) (x w : V) (H' : Hp), xs[i]? = some x → ws[i]? = some w → Same H H' → ∀ R : VK, R w H' → te ((wipe σ vs).set k (some x)) H' R)
    (hd : ∀ D H', H D = none → Same H H' → H' D = some (.lst ws) → Q (.ref D) H') : tLc (iList K tl) (gName k) tYes te vs σ H Q := by
  refine ha _ ⟨a, rfl, ⟨xs, .inl (.inl hx)⟩, fun D hD => ?_⟩
  have hDa : a ≠ D := ne_of_none hx hD
  refine lc_list (xs := xs) (fun i H' => Same H H' ∧ H' D = some (.lst (ws.take i)) ∧ H' a = some (.lst xs)) ⟨same_upd hD, upd_same, by rw [upd_ne hDa]; exact hx⟩ (fun i H' _ h => .inl (.inl h.2.2)) (fun i x H' hi ⟨s, hH, h3⟩ => ?_) (fun H' ⟨s, hH, _⟩ => hd D H' hD s (by rw [hH, ← hlen, List.take_length]))
  show wipe ((wipe σ vs).set k (some x)) vs = wipe σ vs ∧ _
  refine ⟨hw _, ?_⟩
  refine z_yes ?_
  refine z_ifT ?_
  have hi' : i < xs.length := by
    rcases Nat.lt_or_ge i xs.length with h | h
    · exact h
    · rw [List.getElem?_eq_none h] at hi
      cases hi
  have hiw : i < ws.length := by omega
  have hw' : ws[i]? = some ws[i] := List.getElem?_eq_getElem hiw
  refine body i x _ H' hi hw' s _ ?_
  refine ⟨_, hH, Nat.lt_of_lt_of_le (show (ws.take i).length < 1000 by rw [List.length_take]; omega) (by decide), fun q x' e => ?_, ?_, ?_⟩
  · have hq : q ≠ D := ne_of_none e hD
    rw [upd_ne hq]
    exact s _ _ e
  · rw [upd_same, List.take_add_one, hw']
    rfl
  · rw [upd_ne hDa]
    exact h3
end
/-! ### numbers over a common denominator -/
def Zb (r : Rat) (N M : Nat) : Prop := ∃ k : Int, r * (N : Rat) = (k : Rat) ∧ k.natAbs ≤ M
theorem zb_add {a b : Rat} {N M M' : Nat} (h : Zb a N M) (h' : Zb b N M') : Zb (a + b) N (M + M') := by
  obtain ⟨k, e, l⟩ := h
  obtain ⟨k', e', l'⟩ := h'
  exact ⟨k + k', by rw [Rat.add_mul, e, e', Rat.intCast_add], by omega⟩
theorem zb_neg {a : Rat} {N M : Nat} (h : Zb a N M) : Zb (-a) N M := by
  obtain ⟨k, e, l⟩ := h
  exact ⟨-k, by rw [Rat.neg_mul, e, Rat.intCast_neg], by omega⟩
theorem zb_sub {a b : Rat} {N M M' : Nat} (h : Zb a N M) (h' : Zb b N M') : Zb (a - b) N (M + M') := by
  rw [Rat.sub_eq_add_neg]
  exact zb_add h (zb_neg h')
theorem zb_mul {a b : Rat} {N N' M M' : Nat} (h : Zb a N M) (h' : Zb b N' M') : Zb (a * b) (N * N') (M * M') := by
  obtain ⟨k, e, l⟩ := h
  obtain ⟨k', e', l'⟩ := h'
  refine ⟨k * k', ?_, by rw [Int.natAbs_mul]; exact Nat.mul_le_mul l l'⟩
  rw [Rat.natCast_mul, Rat.intCast_mul, ← e, ← e']
  grind
theorem zb_up {a : Rat} {N M : Nat} (c : Nat) (h : Zb a N M) : Zb a (N * c) (M * c) := by
  obtain ⟨k, e, l⟩ := h
  refine ⟨k * (c : Int), ?_, by rw [Int.natAbs_mul]; exact Nat.mul_le_mul l (by omega)⟩
  rw [Rat.natCast_mul, Rat.intCast_mul, ← e, Rat.intCast_natCast]
  grind
theorem Zb.le {a : Rat} {N M M' : Nat} (h : Zb a N M) (l : M ≤ M') : Zb a N M' := by
  obtain ⟨k, e, l'⟩ := h
  exact ⟨k, e, Nat.le_trans l' l⟩
theorem Zb.bd {a : Rat} {N M : Nat} (h : Zb a N M) (h0 : N ≠ 0) : Bd a M N := by
  obtain ⟨k, e, l⟩ := h
  have hN : (N : Rat) ≠ 0 := fun z => h0 (by exact_mod_cast z)
  have e2 : a = Rat.divInt k (N : Int) := by
    rw [Rat.divInt_eq_div, ← e, Rat.intCast_natCast]
    grind
  rw [e2]
  exact (bd_divInt (by omega)).le l (by omega)
theorem zb_divInt {n d : Int} {N M c : Nat} (hd : d ≠ 0) (hN : (N : Int) = d * (c : Int)) (hl : n.natAbs * c ≤ M) : Zb (Rat.divInt n d) N M := by
  refine ⟨n * (c : Int), ?_, by rw [Int.natAbs_mul]; exact hl⟩
  have hd' : (d : Rat) ≠ 0 := fun z => hd (by exact_mod_cast z)
  have e : (N : Rat) = (d : Rat) * (c : Rat) := by
    rw [← Rat.intCast_natCast N, hN, Rat.intCast_mul, Rat.intCast_natCast]
  rw [Rat.divInt_eq_div, e, Rat.intCast_mul, Rat.intCast_natCast]
  grind
theorem zb_of {r : Rat} {p q N M : Nat} (h : Bd r p q) (hN : ∀ d, d ≤ q → d ≠ 0 → d ∣ N) (hl : p * N ≤ M) : Zb r N M := by
  obtain ⟨c, hc⟩ := hN r.den h.2 r.den_nz
  have hd := r.den_nz
  have e := zb_divInt (n := r.num) (d := (r.den : Int)) (N := N) (M := M) (c := c) (by omega) (by exact_mod_cast hc) (Nat.le_trans (Nat.mul_le_mul h.1 (show c ≤ N by rw [hc]; exact Nat.le_mul_of_pos_left _ (by omega))) hl)
  rwa [Rat.num_divInt_den] at e
end Z

namespace Z
open PySem PySem.Spec PyProof.Rows L2
def RevQ (K : PySem.W.Frag) (Q : VK) : VK := fun x H1 => ∃ a xs, x = .ref a ∧ SqL K H1 a xs ∧ ∀ p, H1 p = none → Q (.ref p) (upd H1 p (.lst xs.reverse))
section
variable {K : PySem.W.Frag} {H : Hp} {Q : VK} {p q : Addr} {xs ys : List V} {y : V} {σ : L2.St}
theorem z_revL {te : TE} (h : te σ H (RevQ K Q)) : tRevL K te σ H Q := h
theorem z_revE (h : SqL K H p xs) (k : ∀ a H', H a = none → Same H H' → H' a = some (.lst xs.reverse) → Q (.ref a) H') : RevQ K Q (.ref p) H :=
  ⟨p, xs, rfl, h, fun l hl => k l _ hl (same_upd hl) upd_same⟩
theorem z_pop (hp : H p = some (.lst (xs ++ [y]))) (k : Q y (upd H p (.lst xs))) : rPop (.ref p) [] H Q :=
  ⟨p, xs ++ [y], y, rfl, rfl, hp, by simp, by simpa using k⟩
theorem z_cat (h1 : H p = some (.lst xs)) (h2 : H q = some (.lst ys)) (hl : xs.length + ys.length ≤ 1000) (k : ∀ a H', H a = none → Same H H' → H' a = some (.lst (xs ++ ys)) → Q (.ref a) H') : rCat (.ref p) (.ref q) H Q :=
  ⟨p, q, xs, ys, rfl, rfl, h1, h2, sz hl, fun a ha => k a _ ha (same_upd ha) upd_same⟩
theorem z_extend (h1 : H p = some (.lst xs)) (h2 : H q = some (.lst ys)) (hl : xs.length + ys.length ≤ 1000) (k : Q .non (upd H p (.lst (xs ++ ys)))) : rExtend (.ref p) [.ref q] H Q :=
  ⟨p, q, xs, ys, rfl, rfl, h1, h2, sz hl, k⟩
theorem z_bm0L {r : V → List V → Hp → VK → Prop} {to : TE} (ho : ∀ R : VK, R (.ref p) H → to σ H R) (hp : H p = some (.lst xs)) (h : r (.ref p) [] H Q) : tBM0 K "list" r to σ H Q :=
  ho _ ⟨.inl ⟨rfl, _, .inl (.inl hp)⟩, h⟩
end
end Z

/-! set comprehensions, whatever the members are: `r` says what set.add asks, `fr` what the empty set is -/
namespace Sc
open PySem PySem.Spec PyProof.Rows L2 PpSet
abbrev AddR := V → List V → Hp → VK → Prop
/-- one turn's end: the member is added, or left out -/
def Keep (r : AddR) (D : Addr) (te : TE) (Nx : Hp → Prop) (σ2 : L2.St) (b : Bool) (H3 : Hp) : Prop := if b = true then te σ2 H3 fun y H4 => r (.ref D) [y] H4 fun _ H5 => Nx H5 else Nx H3
def tSet (r : AddR) (fr : Addr → HO) (wi : TI) (g : TG) (tt : TT) (te : TE) (vs : List Nat) : TE := fun σ H Q => wi σ H fun J H1 => ∀ D, H1 D = none → ∃ W : Nat → Nat → Hp → Prop,
  (∃ m, W 0 m (upd H1 D (fr D))) ∧ ∀ i m H, W i m H → (J.stop i H ∧ Q (.ref D) H) ∨ (J.go i H ∧ ∃ Nx : Hp → Prop, (∀ H', Nx H' → ∃ m', m' < m ∧ W (i + 1) m' H') ∧
    ∀ x H', J.yld i H x H' → g x (wipe σ vs) H' fun σ2 H2 => wipe σ2 vs = wipe σ vs ∧ tt σ2 H2 (Keep r D te Nx σ2))
abbrev freshSet (w : World) : Obj := { cls := .type "set", dict := none, data := .set #[] 0 (.fresh 0 0 (!w.params.followText "set-order")) }
section
variable {X : Cx}
theorem run_set {pins : List (Addr × Obj)} {s : Shared} {σ : L2.St} {H : Hp} {Q : VK} {r : AddR} {fr : Addr → HO} {elt tg iter : Expr} {ifs : List Expr} {scope : Scope} {own : List (PySem.Str × Nat)} {pos pos' : Pos} {wi : TI} {g : TG} {tt : TT} {te : TE} {use : Option (Value → Sem Unit)} {Qf : Value → Shared → Prop}
    (hfr : ∀ (H : Hp) (h : Heap) (a : Addr), a = h.objs.size → ObjOk X.prog X.w H (h.push (freshSet X.w)) a (fr a))
    (hr : ∀ (s : Shared) (H : Hp) (e : Env) (fp : List Addr), MtR (X.blk s H scope e fp) "set.add" r)
    (hc : X.calm = true) (hN : X.N.Nodup) (I : Inv X pins σ H s) (hi : PI X tg iter wi) (ok : BlkOk X.N X.env.scope scope own)
    (hg : ∀ (s : Shared) (H : Hp) (C : Addr) (cl : List (PySem.Str × Addr)) (fp : List Addr), PG (X.blk s H scope (compEnvC scope cl C X.env) fp) tg g)
    (ht : ∀ (s : Shared) (H : Hp) (C : Addr) (cl : List (PySem.Str × Addr)) (fp : List Addr), PTs (X.blk s H scope (compEnvC scope cl C X.env) fp) ifs tt)
    (he : ∀ (s : Shared) (H : Hp) (C : Addr) (cl : List (PySem.Str × Addr)) (fp : List Addr), PE (X.blk s H scope (compEnvC scope cl C X.env) fp) elt te)
    (hs : ∀ x, foldedSetIterable iter X.env x = pure x) (h : tSet r fr wi g tt te (own.map (·.2)) σ H Q)
    (hend : ∀ D C s' m H', Inv X pins σ H' s' → Q (.ref D) H' → s'.heap.Ns C m → FpOk X pins H' C → compPost (model X.prog X.w) X.A X.xe use Qf (.ref D) C (.ok .next) s') :
    wpAny (model X.prog X.w) X.A (comprehension (.SetComp elt [⟨tg, iter, ifs, 0⟩] scope pos) scope X.env pos' (newSet (.type "set")) false (eval iter X.env) use) Qf X.xe s := by
  have free0 : ∀ y ∈ scope.names, y.2 = .free → ∃ c, X.env.cells.lookup y.1 = some c := fun y hy e => (ok.free y hy e).elim (fun k => I.ok.has _ (.inl k)) fun k => I.ok.has _ (.inr k)
  refine wpAny_comprehension_free (use := use) rfl hs (closure_ok free0) ok.kind (fun y hy e => by rw [ok.uniq y hy, e]) ?_
  refine thn (hi.run pins s σ H _ I h) fun xv s1 hx => thn hx fun itv s2 h2 => ?_
  obtain ⟨it, fp, tn, J, H2, e, I2, T, st2, f2, q⟩ := h2
  subst e
  refine newSet_ok (newEnv_comp ?_)
  have hDn : H2 s2.heap.objs.size = none := I2.hok.fresh (Nat.le_refl _)
  obtain ⟨W, ⟨m0, w0⟩, turn⟩ := q _ hDn
  generalize hs3 : ({ s2 with heap := s2.heap.push (freshSet X.w) } : Shared) = s3
  have h3 : s3.heap = s2.heap.push (freshSet X.w) := by rw [← hs3]
  have I3 : Inv X pins σ (upd H2 s2.heap.objs.size (fr s2.heap.objs.size)) s3 := by
    rw [← hs3]
    exact I2.laid (t' := s2.toks) (fun b o e => Heap.get?_push_of_some _ e) (Nat.le_refl _) (hfr _ _ _ rfl)
  generalize hD : s2.heap.objs.size = D at *
  have old : ∀ b ∈ fp, b < D := fun b hb => by
    obtain ⟨o, e, _⟩ := T.obj _ _ st2 b hb
    rw [← hD]
    exact Heap.lt_size e
  have f3 : ∀ b ∈ fp, FpOk X pins (upd H2 D (fr D)) b ∧ b < s3.heap.objs.size := fun b hb => by
    have l := old b hb
    refine ⟨⟨?_, (f2 b hb).2⟩, ?_⟩
    · rw [upd_ne (Nat.ne_of_lt l)]
      exact (f2 b hb).1
    · rw [h3, Heap.size_push, hD]
      exact Nat.lt_succ_of_lt l
  have st3 : tn 0 s3.heap := T.keep _ _ _ st2 fun b _ o e => by
    rw [h3]
    exact Heap.get?_push_of_some _ e
  have I4 := block_start I3 ok hN f3
  generalize hH3 : upd H2 D (fr D) = H3 at I3 I4 w0 f3
  have pg := hg s3 H3 s3.heap.objs.size (cellsFrom (s3.heap.objs.size + 1) scope.names (cloFrom X.env.cells scope.names [])) fp
  have pt := ht s3 H3 s3.heap.objs.size (cellsFrom (s3.heap.objs.size + 1) scope.names (cloFrom X.env.cells scope.names [])) fp
  have pe := he s3 H3 s3.heap.objs.size (cellsFrom (s3.heap.objs.size + 1) scope.names (cloFrom X.env.cells scope.names [])) fp
  show codeAny _ _ (.compStart (.SetComp elt [⟨tg, iter, ifs, 0⟩] scope pos) 0 (.ref it) (.ref D) (compEnvC scope (cellsFrom (s3.heap.objs.size + 1) scope.names (cloFrom X.env.cells scope.names [])) s3.heap.objs.size X.env)) (compPost (model X.prog X.w) X.A X.xe use Qf (.ref D) s3.heap.objs.size) { s3 with heap := pushCells (s3.heap.push { cls := .type "dict", data := .dict #[] }) scope.names }
  generalize hce : compEnvC scope (cellsFrom (s3.heap.objs.size + 1) scope.names (cloFrom X.env.cells scope.names [])) s3.heap.objs.size X.env = ce at I4 pg pt pe ⊢
  have cL : ce.locals = s3.heap.objs.size := by rw [← hce] <;> rfl
  have ad := hr s3 H3 ce fp
  have nfp : ∀ b ∈ fp, H3 b = none := fun b hb => (f3 b hb).1.1
  generalize hs4 : ({ s3 with heap := pushCells (s3.heap.push { cls := .type "dict", data := .dict #[] }) scope.names } : Shared) = s4 at I4 ⊢
  have st4 : tn 0 s4.heap := T.keep _ _ _ st3 fun b _ o e => by
    rw [← hs4]
    exact pushCells_keeps _ _ _ _ (Heap.get?_push_of_some _ e)
  have stat : ∀ {σ' : L2.St} {H' : Hp} {s' : Shared}, Inv (X.blk s3 H3 scope ce fp) [] σ' H' s' → (∀ b ∈ fp, H' b = none) → ∀ b ∈ fp, FpOk (X.blk s3 H3 scope ce fp) [] H' b := fun I' hn b hb =>
    ⟨hn b hb, (I'.ok.exf b hb).1, I'.ok.exfs b hb, .inl hb, fun x c e => (I'.ok.exf b hb).2 x c e, fun p hp => nomatch (show p ∈ ([] : List (Addr × Obj)) from hp)⟩
  have loop : codeAny (model X.prog X.w) X.A (.compLoop (.SetComp elt [⟨tg, iter, ifs, 0⟩] scope pos) 0 (.ref it) (.ref D) ce) (compPost (model X.prog X.w) X.A X.xe use Qf (.ref D) s3.heap.objs.size) s4 := by
    refine compLoopS_any (fun n s' => ∃ i H', Inv (X.blk s3 H3 scope ce fp) [] (wipe σ (own.map (·.2))) H' s' ∧ tn i s'.heap ∧ (∀ b ∈ fp, H' b = none) ∧ W i n H') ?_ m0 ⟨0, H3, I4, st4, nfp, w0⟩
    rintro n s5 ⟨i, H5, I5, st5, n5, w5⟩
    rcases turn i n H5 w5 with ⟨stop, qq⟩ | ⟨go, Nx, hNx, step⟩
    · refine thnF (T.done (X.blk s3 H3 scope ce fp) rfl rfl rfl hc i [] s5 _ H5 (fun _ _ => False) I5 (stat I5 n5) st5 stop) fun r6 s6 ⟨hr6, I6⟩ => ?_
      subst hr6
      have I7 : Inv X pins σ H5 s6 := I3.call' (ch := fp) I6.os I6.base I6.hok I6.bare fun b hb => by
        obtain ⟨⟨_, a2, _, a4, a5, a6⟩, _⟩ := f3 b hb
        exact ⟨a4, a2, a5, a6⟩
      obtain ⟨m, hn, _⟩ := I6.loc
      have nC : H5 ce.locals = none := I6.free
      have hn : s6.heap.Ns ce.locals m := hn
      rw [cL] at hn nC
      exact hend D _ s6 m H5 I7 qq hn (I3.fpOk (Nat.le_refl _) nC)
    · refine thnF (T.item (X.blk s3 H3 scope ce fp) rfl rfl rfl hc i [] s5 _ H5 (fun _ _ => False) I5 (stat I5 n5) st5 go) fun r6 s6 ⟨u, hr6, h6⟩ => ?_
      subst hr6
      refine thnF h6 fun _ s7 ⟨x, H7, I7, r7, y7, st7, n7⟩ => ?_
      refine thnF (pg.run _ s7 _ H7 x u _ (I7.pinned (stat I7 n7) (T.obj _ _ st7)) r7 (step x H7 y7)) fun _ s8 ⟨σ8, H8, I8, hw8, q8⟩ => ?_
      refine thnF (pt.run _ s8 σ8 H8 _ I8 q8) fun b s9 ⟨H9, I9, q9⟩ => ?_
      have fin : ∀ {s' : Shared} {H' : Hp}, Inv (X.blk s3 H3 scope ce fp) ([] ++ pinsAt fp s7.heap) σ8 H' s' → Nx H' → ∃ m, m < n ∧ ∃ i H', Inv (X.blk s3 H3 scope ce fp) [] (wipe σ (own.map (·.2))) H' s' ∧ tn i s'.heap ∧ (∀ b ∈ fp, H' b = none) ∧ W i m H' := fun {s' H'} I' nx => by
        obtain ⟨m', hm, w'⟩ := hNx H' nx
        have keep : ∀ b ∈ fp, ∀ o, s7.heap.get? b = some o → s'.heap.get? b = some o ∧ H' b = none := fun b hb o e => by
          have z := I'.pin (b, o) (List.mem_append_right _ (List.mem_append_right _ (mem_pinsAt hb e)))
          exact ⟨z.1, z.2.1⟩
        refine ⟨m', hm, i + 1, H', (I'.unpinned (pins := [])).weak (by rw [← hw8, wipe_length]) (fun j v e => ?_), T.keep _ _ _ st7 fun b hb o e => (keep b hb o e).1, fun b hb => ?_, w'⟩
        · rw [← hw8] at e
          exact (wipe_some e).1
        · obtain ⟨o, e, _⟩ := T.obj _ _ st7 b hb
          exact (keep b hb o e).2
      have q9 : Keep r D te Nx σ8 b H9 := q9
      unfold Keep at q9
      cases b with
      | false =>
        rw [if_neg (by decide)] at q9
        exact fin I9 q9
      | true =>
        rw [if_pos rfl] at q9
        refine thnF (pe.run _ s9 σ8 H9 _ I9 q9) fun z s10 ⟨yv, H10, I10, r10, q10⟩ => ?_
        refine thnF (ad _ s10 σ8 H10 (.ref D) [yv] (.ref D) [z] _ I10 rfl (.cons r10 .nil) q10) fun _ s11 ⟨_, H11, I11, _, q11⟩ => fin I11 q11
  exact codeAny_compStart_set loop (T.self X.A 0 _ _ _ st4 loop)
theorem pe_set {r : AddR} {fr : Addr → HO} {elt tg iter : Expr} {ifs : List Expr} {scope : Scope} {own : List (PySem.Str × Nat)} {pos : Pos} {wi : TI} {g : TG} {tt : TT} {te : TE}
    (hfr : ∀ (H : Hp) (h : Heap) (a : Addr), a = h.objs.size → ObjOk X.prog X.w H (h.push (freshSet X.w)) a (fr a)) (hr : ∀ (s : Shared) (H : Hp) (e : Env) (fp : List Addr), MtR (X.blk s H scope e fp) "set.add" r)
    (hc : X.calm = true) (hN : X.N.Nodup) (hi : PI X tg iter wi) (ok : BlkOk X.N X.env.scope scope own)
    (hg : ∀ (s : Shared) (H : Hp) (C : Addr) (cl : List (PySem.Str × Addr)) (fp : List Addr), PG (X.blk s H scope (compEnvC scope cl C X.env) fp) tg g)
    (ht : ∀ (s : Shared) (H : Hp) (C : Addr) (cl : List (PySem.Str × Addr)) (fp : List Addr), PTs (X.blk s H scope (compEnvC scope cl C X.env) fp) ifs tt)
    (he : ∀ (s : Shared) (H : Hp) (C : Addr) (cl : List (PySem.Str × Addr)) (fp : List Addr), PE (X.blk s H scope (compEnvC scope cl C X.env) fp) elt te)
    (hs : ∀ x, foldedSetIterable iter X.env x = pure x := by intro _; rfl) : PE X (.SetComp elt [⟨tg, iter, ifs, 0⟩] scope pos) (tSet r fr wi g tt te (own.map (·.2))) := by
  constructor
  intro pins s σ H Q I h
  rw [eval_SetComp]
  refine run_set hfr hr hc hN I hi ok hg ht he hs h fun D C s' m H' I' q hn ⟨f0, f1, f2, f3, f4, f5⟩ => ⟨m, hn, fun h'' sb => ?_⟩
  exact ⟨.ref D, H', I'.turned (t' := s'.toks) (fun b o hb e => (sb.2 b hb).trans e) f0 f1 f3 f4 f5, rfl, q⟩
/-- sets of whole numbers -/
def frI (w : World) : Addr → HO := fun a => SetO w a (fun _ => false) 0
theorem pe_setI {elt tg iter : Expr} {ifs : List Expr} {scope : Scope} {own : List (PySem.Str × Nat)} {pos : Pos} {wi : TI} {g : TG} {tt : TT} {te : TE}
    (hc : X.calm = true) (hN : X.N.Nodup) (hi : PI X tg iter wi) (ok : BlkOk X.N X.env.scope scope own)
    (hg : ∀ (s : Shared) (H : Hp) (C : Addr) (cl : List (PySem.Str × Addr)) (fp : List Addr), PG (X.blk s H scope (compEnvC scope cl C X.env) fp) tg g)
    (ht : ∀ (s : Shared) (H : Hp) (C : Addr) (cl : List (PySem.Str × Addr)) (fp : List Addr), PTs (X.blk s H scope (compEnvC scope cl C X.env) fp) ifs tt)
    (he : ∀ (s : Shared) (H : Hp) (C : Addr) (cl : List (PySem.Str × Addr)) (fp : List Addr), PE (X.blk s H scope (compEnvC scope cl C X.env) fp) elt te)
    (hs : ∀ x, foldedSetIterable iter X.env x = pure x := by intro _; rfl) : PE X (.SetComp elt [⟨tg, iter, ifs, 0⟩] scope pos) (tSet (rSAdd X.w) (frI X.w) wi g tt te (own.map (·.2))) :=
  pe_set (fun H h a e => by subst e; exact setO_new (setR_fresh X.w)) (fun s H e fp => mt_sadd) hc hN hi ok hg ht he hs
end
/-! ### readings: the set of the numbers of a list that a test lets in -/
open Z
def tSetE (r : AddR) (fr : Addr → HO) (K : PySem.W.Frag) (g : TG) (tt : TT) (te : TE) (vs : List Nat) (σ : L2.St) (Q : VK) : VK := fun x H1 => tSet r fr (iList K (tC x)) g tt te vs σ H1 Q
section
variable {K : PySem.W.Frag} {H : Hp} {Q : VK} {σ : L2.St} {r : AddR} {fr : Addr → HO} {w : World}
theorem z_setE {tl : TE} {g : TG} {tt : TT} {te : TE} {vs : List Nat} (h : tl σ H (tSetE r fr K g tt te vs σ Q)) : tSet r fr (iList K tl) g tt te vs σ H Q := h
/-- the ints of ns that p lets in -/
def inI (p : Int → Bool) (ns : List Int) (S : Int → Bool) : Prop := ∀ k, S k = true ↔ k ∈ ns ∧ p k = true
theorem z_setI {k : Nat} {tt : TT} {vs : List Nat} {a : Addr} {ns : List Int} {te : TE} (p : Int → Bool) (hl : ns.length ≤ 1000) (hx : H a = some (.lst (ns.map V.int)))
    (hw : ∀ x, wipe ((wipe σ vs).set k (some x)) vs = wipe σ vs)
    (ht : ∀ (x : Int) (H' : Hp) (R : Bool → Hp → Prop), x ∈ ns → R (p x) H' → tt ((wipe σ vs).set k (some (.int x))) H' R)
    (he : ∀ (x : Int) (H' : Hp) (R : VK), x ∈ ns → R (.int x) H' → te ((wipe σ vs).set k (some (.int x))) H' R)
    (q : ∀ D H' S n, H D = none → Same H H' → H' D = some (SetO w D S n) → inI p ns S → n ≤ ns.length → Q (.ref D) H') :
    tSetE (rSAdd w) (frI w) K (gName k) tt te vs σ Q (.ref a) H := by
  refine ⟨a, rfl, ⟨_, .inl (.inl hx)⟩, fun D hD => ?_⟩
  have hDa : a ≠ D := ne_of_none hx hD
  let Pv : Nat → Hp → Prop := fun i H' => Same H H' ∧ ∃ S n, H' D = some (SetO w D S n) ∧ inI p (ns.take i) S ∧ n ≤ i
  refine ⟨fun i m H' => m = ns.length - i ∧ i ≤ ns.length ∧ Pv i H', ⟨ns.length, by simp, Nat.zero_le _, same_upd hD, _, 0, upd_same, fun k => by simp, Nat.le_refl _⟩, ?_⟩
  rintro i m H' ⟨rfl, hi, sm, S, n, hS, hin, hn⟩
  have ha := sm _ _ hx
  by_cases hlt : i < ns.length
  · refine .inr ⟨⟨_, .int ns[i], .inl (.inl ha), by simp [hlt]⟩, Pv (i + 1), fun H2 p2 => ⟨ns.length - (i + 1), by omega, rfl, hlt, p2⟩, fun x H2 y => ?_⟩
    obtain ⟨e, y⟩ := y
    subst e
    have e := y _ (.inl (.inl ha))
    have ex : x = .int ns[i] := by
      have e2 : (ns.map V.int)[i]? = some (.int ns[i]) := by simp [hlt]
      rw [e2] at e
      exact (Option.some.inj e).symm
    subst ex
    refine ⟨hw _, ht _ _ _ (List.getElem_mem hlt) ?_⟩
    have tk : ns.take (i + 1) = ns.take i ++ [ns[i]] := by rw [List.take_add_one, List.getElem?_eq_getElem hlt] <;> rfl
    unfold Keep
    by_cases c : p ns[i] = true
    · rw [if_pos c]
      refine he _ _ _ (List.getElem_mem hlt) ?_
      refine ⟨D, ns[i], S, n, rfl, rfl, hS, Nat.lt_of_le_of_lt (show n + 1 ≤ 1001 by omega) (by decide), ?_, _, _, upd_same, ?_, ?_⟩
      · exact fun b o e => by
          rw [upd_ne (ne_of_none e hD)]
          exact sm _ _ e
      · intro k
        rw [tk, List.mem_append, List.mem_singleton, Bool.or_eq_true, hin k, decide_eq_true_eq]
        constructor
        · rintro (⟨z1, z2⟩ | rfl)
          · exact ⟨.inl z1, z2⟩
          · exact ⟨.inr rfl, c⟩
        · rintro ⟨z1 | rfl, z2⟩
          · exact .inl ⟨z1, z2⟩
          · exact .inr rfl
      · split <;> omega
    · rw [if_neg c]
      refine ⟨sm, S, n, hS, fun k => ?_, by omega⟩
      rw [tk, List.mem_append, List.mem_singleton, hin k]
      constructor
      · rintro ⟨z1, z2⟩
        exact ⟨.inl z1, z2⟩
      · rintro ⟨z1 | rfl, z2⟩
        · exact ⟨z1, z2⟩
        · exact absurd z2 c
  · have e : i = ns.length := by omega
    subst e
    refine .inl ⟨⟨_, .inl (.inl ha), by simp⟩, q D H' S n hD sm hS (by rwa [List.take_length] at hin) hn⟩
/-- sorted(set of ints) -/
theorem z_sortedSet {a : Addr} {S : Int → Bool} {n : Nat} (h : H a = some (SetO w a S n)) (hn : n < 64) (q : ∀ (ns : List Int) (p : Addr) (H' : Hp), ns.Pairwise (· < ·) → (∀ k, k ∈ ns ↔ S k = true) → ns.length = n → H p = none → Same H H' → H' p = some (.lst (ns.map V.int)) → Q (.ref p) H') :
    rSortedSet w [.ref a] H Q := ⟨a, S, n, rfl, h, hn, fun ns p h1 h2 h3 hp => q ns p _ h1 h2 h3 hp (same_upd hp) upd_same⟩
end
end Sc

namespace Z
open PySem PySem.Spec PyProof.Rows L2
def rMax2 : List V → Hp → VK → Prop := fun xs H Q => ∃ i j, xs = [.int i, .int j] ∧ Q (.int (if j > i then j else i)) H
def rMin2 : List V → Hp → VK → Prop := fun xs H Q => ∃ i j, xs = [.int i, .int j] ∧ Q (.int (if j < i then j else i)) H
theorem c_max2 {X : Cx} (hc : X.calm = true) : CallR X (.builtin "max") rMax2 := call_max2 hc
theorem c_min2 {X : Cx} (hc : X.calm = true) : CallR X (.builtin "min") rMin2 := call_min2 hc
def rDivmod : List V → Hp → VK → Prop := fun xs H Q => ∃ i j, xs = [.int i, .int j] ∧ CDiv i j ∧ ∀ p, H p = none → Q (.ref p) (upd H p (.tup [.int (i / j), .int (i % j)]))
theorem c_divmod {X : Cx} : CallR X (.builtin "divmod") rDivmod := call_divmod
def TruQ (K : PySem.W.Frag) (QB : Bool → Hp → Prop) : VK := fun x H' => ∃ k, TruV K x H' k ∧ QB k H'
def tTru (K : PySem.W.Frag) (te : TE) : TT := fun σ H QB => te σ H (TruQ K QB)
theorem pt_tru {X : Cx} {a : Expr} {ta : TE} (ha : PE X a ta) (he : ∀ whole, isTrue a X.env whole = (do let v ← whole; standAt a.pos; holding [v] (truthy v))) : PT X a (tTru X.K ta) := pt_truth ha he
section
variable {K : PySem.W.Frag} {σ : L2.St} {H : Hp} {Q : VK} {QB : Bool → Hp → Prop} {i j : Int} {v x y : V} {p q l : Addr} {xs ys : List V} {te : TE}
theorem z_max2 (h : Q (.int (if j > i then j else i)) H) : rMax2 [.int i, .int j] H Q := ⟨i, j, rfl, h⟩
theorem z_min2 (h : Q (.int (if j < i then j else i)) H) : rMin2 [.int i, .int j] H Q := ⟨i, j, rfl, h⟩
theorem z_divmod (c : 0 < j ∧ j < 1073741824) (h : ∀ p H', H p = none → Same H H' → H' p = some (.tup [.int (i / j), .int (i % j)]) → Q (.ref p) H') : rDivmod [.int i, .int j] H Q :=
  ⟨i, j, rfl, c, fun a ha => h a _ ha (same_upd ha) upd_same⟩
theorem z_tru (h : te σ H (TruQ K QB)) : tTru K te σ H QB := h
/-- a test whose answer is known -/
theorem z_known {tt : TT} (k : Bool) (h : ∀ R : Bool → Hp → Prop, R k H → tt σ H R) (q : QB k H) : tt σ H QB := h QB q
/-- a test that is known to fail -/
theorem z_skip {n : L2.St → Hp → Prop} {r : VK} {b c : L2.St → Hp → Prop} {tt : TT} {t : TS} (h : ∀ R : Bool → Hp → Prop, R false H → tt σ H R) (q : n σ H) : tIfS tt t tNext ⟨n, r, b, c⟩ σ H := by
  refine h _ ?_
  rw [if_neg (by decide)]
  exact q
theorem z_truL (h : H p = some (.lst xs)) (q : QB (!xs.isEmpty) H) : TruQ K QB (.ref p) H := ⟨_, .inl ⟨xs, .inl (.inl h), rfl⟩, q⟩
theorem z_truT (h : SqT K H p xs) (q : QB (!xs.isEmpty) H) : TruQ K QB (.ref p) H := ⟨_, .inr (.inl ⟨xs, h, rfl⟩), q⟩
theorem z_truI (q : QB (i != 0) H) : TruQ K QB (.int i) H := ⟨_, rfl, q⟩
theorem rep_one (v : V) : ∀ m : Nat, (List.replicate m [v]).flatten = List.replicate m v
  | 0 => rfl
  | m + 1 => by
    rw [List.replicate_succ, List.flatten_cons, rep_one v m, List.replicate_succ]
    rfl
theorem z_rep (m : Nat) (h : H l = some (.lst [v])) (hj : j = (m : Int)) (hm : m ≤ 1000) (q : ∀ a H', H a = none → Same H H' → H' a = some (.lst (List.replicate m v)) → Q (.ref a) H') : rRep (.ref l) (.int j) H Q := by
  subst hj
  refine ⟨l, (m : Int), [v], rfl, rfl, h, by omega, by omega, Nat.le_trans (show [v].length * (m : Int).toNat ≤ 1000 by simpa using hm) (by decide), fun a ha => ?_⟩
  rw [Int.toNat_natCast, rep_one v m]
  exact q a _ ha (same_upd ha) upd_same
/-! while -/
/-- the number in slot k, as a measure -/
def muI (k : Nat) : L2.St → Hp → Nat := fun σ _ => match (σ[k]? : Option (Option V)) with
  | some (some (V.int m)) => m.toNat
  | _ => 0
def WB (Pv : L2.St → Hp → Prop) (μ : L2.St → Hp → Nat) (m : Nat) (tb : TS) (n : L2.St → Hp → Prop) (r : VK) (σ : L2.St) : Bool → Hp → Prop := fun b H1 =>
  if b = true then ∃ N : L2.St → Hp → Prop, (∀ σ' H', N σ' H' → ∃ m', m' < m ∧ m' = μ σ' H' ∧ Pv σ' H') ∧ tb ⟨N, r, n, N⟩ σ H1 else n σ H1
section
variable {Pv : L2.St → Hp → Prop} {μ : L2.St → Hp → Nat} {m : Nat} {tb : TS} {n : L2.St → Hp → Prop} {r : VK} {b c : L2.St → Hp → Prop}
theorem z_wbT (h : tb ⟨fun σ' H' => Pv σ' H' ∧ μ σ' H' < m, r, n, fun σ' H' => Pv σ' H' ∧ μ σ' H' < m⟩ σ H) : WB Pv μ m tb n r σ true H := by
  unfold WB
  rw [if_pos rfl]
  exact ⟨_, fun σ' H' z => ⟨_, z.2, rfl, z.1⟩, h⟩
theorem z_wbF (h : n σ H) : WB Pv μ m tb n r σ false H := by
  unfold WB
  rw [if_neg (by decide)]
  exact h
theorem z_wb {p : Prop} [Decidable p] (h1 : p → tb ⟨fun σ' H' => Pv σ' H' ∧ μ σ' H' < m, r, n, fun σ' H' => Pv σ' H' ∧ μ σ' H' < m⟩ σ H) (h2 : ¬ p → n σ H) : WB Pv μ m tb n r σ (decide p) H := by
  by_cases h : p
  · rw [decide_eq_true h]
    exact z_wbT (h1 h)
  · rw [decide_eq_false h]
    exact z_wbF (h2 h)
theorem z_while {tt : TT} (Pv : L2.St → Hp → Prop) (μ : L2.St → Hp → Nat) (h0 : Pv σ H) (hs : ∀ σ H, Pv σ H → tt σ H (WB Pv μ (μ σ H) tb n r σ)) : tWhile tt tb ⟨n, r, b, c⟩ σ H := by
  refine ⟨fun m σ H => m = μ σ H ∧ Pv σ H, ⟨_, rfl, h0⟩, ?_⟩
  rintro m σ H ⟨rfl, p⟩
  exact hs σ H p
end
/-! comprehensions over a range, over a list: the list at D grows -/
def LcB (D : Addr) (i : Nat) (Pv : Nat → Addr → List V → Hp → Prop) (Nx : Hp → Prop) : VK := fun y H4 => ∃ acc, H4 D = some (.lst acc) ∧ acc.length < sizeLine ∧ Nx (upd H4 D (.lst (acc ++ [y])))
theorem z_lcB {D : Addr} {i : Nat} {Pv : Nat → Addr → List V → Hp → Prop} {acc : List V} (h : H D = some (.lst acc)) (hl : acc.length = i) (hi : i < 1000) (q : ∀ H', H' D = some (.lst (acc ++ [y])) → Kp D H H' → (∀ b, b ≠ D → H' b = H b) → Pv (i + 1) D (acc ++ [y]) H') :
    LcB D i Pv (fun H' => ∃ acc', acc'.length = i + 1 ∧ H' D = some (.lst acc') ∧ Pv (i + 1) D acc' H') y H :=
  ⟨acc, h, Nat.lt_of_lt_of_le (show acc.length < 1000 by omega) (by decide), acc ++ [y], by simp [hl], upd_same, q _ upd_same (fun b o hb e => by rw [upd_ne hb]; exact e) fun b hb => upd_ne hb⟩
abbrev LcN (D : Addr) (i : Nat) (Pv : Nat → Addr → List V → Hp → Prop) : VK := LcB D i Pv (fun H' => ∃ acc', acc'.length = i + 1 ∧ H' D = some (.lst acc') ∧ Pv (i + 1) D acc' H')
theorem z_lcR {ta : TA} {k : Nat} {te : TE} {vs : List Nat} (m : Nat) (hm : m ≤ 1000) (ha : ∀ R : List V → Hp → Prop, R [.int (m : Int)] H → ta σ H R) (hw : ∀ x, wipe ((wipe σ vs).set k (some x)) vs = wipe σ vs) (Pv : Nat → Addr → List V → Hp → Prop)
    (h0 : ∀ D H', H D = none → Same H H' → H' D = some (.lst []) → Pv 0 D [] H')
    (hs : ∀ i D acc H', i < m → acc.length = i → H' D = some (.lst acc) → Pv i D acc H' → te ((wipe σ vs).set k (some (.int (i : Int)))) H' (LcN D i Pv))
    (hd : ∀ D acc H', H D = none → acc.length = m → H' D = some (.lst acc) → Pv m D acc H' → Q (.ref D) H') : tLc (iRng1 ta) (gName k) tYes te vs σ H Q := by
  refine ha _ ⟨(m : Int), rfl, by omega, by omega, fun D hD => ?_⟩
  refine lc_range (lo := 0) (n := (m : Int).toNat) (fun i H' => ∃ acc, acc.length = i ∧ H' D = some (.lst acc) ∧ Pv i D acc H') ⟨[], rfl, upd_same, h0 D _ hD (same_upd hD) upd_same⟩ (fun i H' hi ⟨acc, hl, hH, pv⟩ => ?_) (fun H' ⟨acc, hl, hH, pv⟩ => hd D acc H' hD (by simpa using hl) hH (by simpa using pv))
  have e : (0 : Int) + (i : Int) = (i : Int) := Int.zero_add _
  show wipe ((wipe σ vs).set k (some (.int ((0 : Int) + (i : Int))))) vs = wipe σ vs ∧ _
  refine ⟨hw _, z_yes (z_ifT ?_)⟩
  rw [e]
  exact hs i D acc H' (by simpa using hi) hl hH pv
def LcE (K : PySem.W.Frag) (g : TG) (tt : TT) (te : TE) (vs : List Nat) (σ : L2.St) (Q : VK) : VK := fun x H1 => tLc (iList K (tC x)) g tt te vs σ H1 Q
theorem z_lcE {tl : TE} {g : TG} {tt : TT} {vs : List Nat} (h : tl σ H (LcE K g tt te vs σ Q)) : tLc (iList K tl) g tt te vs σ H Q := h
def LcRE (g : TG) (tt : TT) (te : TE) (vs : List Nat) (σ : L2.St) (Q : VK) : List V → Hp → Prop := fun xs H1 => tLc (iRng1 fun _ H R => R xs H) g tt te vs σ H1 Q
theorem z_lcRE {ta : TA} {g : TG} {tt : TT} {vs : List Nat} (h : ta σ H (LcRE g tt te vs σ Q)) : tLc (iRng1 ta) g tt te vs σ H Q := h
theorem z_lcRr {k : Nat} {vs : List Nat} (m : Nat) (hm : m ≤ 1000) (hw : ∀ x, wipe ((wipe σ vs).set k (some x)) vs = wipe σ vs) (Pv : Nat → Addr → List V → Hp → Prop)
    (h0 : ∀ D H', H D = none → Same H H' → H' D = some (.lst []) → Pv 0 D [] H')
    (hs : ∀ i D acc H', i < m → acc.length = i → H' D = some (.lst acc) → Pv i D acc H' → te ((wipe σ vs).set k (some (.int (i : Int)))) H' (LcN D i Pv))
    (hd : ∀ D acc H', H D = none → acc.length = m → H' D = some (.lst acc) → Pv m D acc H' → Q (.ref D) H') : LcRE (gName k) tYes te vs σ Q [.int (m : Int)] H := z_lcR m hm (fun R q => q) hw Pv h0 hs hd
/-- over a list that stands as long as Pv -/
theorem z_lcLs {k : Nat} {vs : List Nat} {a : Addr} (hm : xs.length ≤ 1000) (hx : SqL K H a xs) (hw : ∀ x, wipe ((wipe σ vs).set k (some x)) vs = wipe σ vs) (Pv : Nat → Addr → List V → Hp → Prop)
    (h0 : ∀ D H', H D = none → Same H H' → H' D = some (.lst []) → Pv 0 D [] H') (hl : ∀ i D acc H', Pv i D acc H' → SqL K H' a xs)
    (hs : ∀ i x D acc H', xs[i]? = some x → acc.length = i → H' D = some (.lst acc) → Pv i D acc H' → te ((wipe σ vs).set k (some x)) H' (LcN D i Pv))
    (hd : ∀ D acc H', H D = none → acc.length = xs.length → H' D = some (.lst acc) → Pv xs.length D acc H' → Q (.ref D) H') : LcE K (gName k) tYes te vs σ Q (.ref a) H := by
  refine ⟨a, rfl, ⟨xs, hx⟩, fun D hD => ?_⟩
  refine lc_list (xs := xs) (fun i H' => ∃ acc, acc.length = i ∧ H' D = some (.lst acc) ∧ Pv i D acc H') ⟨[], rfl, upd_same, h0 D _ hD (same_upd hD) upd_same⟩ (fun i H' _ ⟨acc, _, _, pv⟩ => hl _ _ _ _ pv) (fun i x H' hi ⟨acc, hl, hH, pv⟩ => ?_) (fun H' ⟨acc, hl, hH, pv⟩ => hd D acc H' hD hl hH pv)
  show wipe ((wipe σ vs).set k (some x)) vs = wipe σ vs ∧ _
  exact ⟨hw _, z_yes (z_ifT (hs i x D acc H' hi hl hH pv))⟩
/-- any target -/
theorem z_lcG {g : TG} {vs : List Nat} {a : Addr} (hm : xs.length ≤ 1000) (hx : SqL K H a xs) (Pv : Nat → Addr → List V → Hp → Prop)
    (h0 : ∀ D H', H D = none → Same H H' → H' D = some (.lst []) → Pv 0 D [] H') (hl : ∀ i D acc H', Pv i D acc H' → SqL K H' a xs)
    (hs : ∀ i x D acc H', xs[i]? = some x → acc.length = i → H' D = some (.lst acc) → Pv i D acc H' → g x (wipe σ vs) H' fun σ2 H2 => wipe σ2 vs = wipe σ vs ∧ te σ2 H2 (LcN D i Pv))
    (hd : ∀ D acc H', H D = none → acc.length = xs.length → H' D = some (.lst acc) → Pv xs.length D acc H' → Q (.ref D) H') : LcE K g tYes te vs σ Q (.ref a) H := by
  refine ⟨a, rfl, ⟨xs, hx⟩, fun D hD => ?_⟩
  refine lc_list (xs := xs) (fun i H' => ∃ acc, acc.length = i ∧ H' D = some (.lst acc) ∧ Pv i D acc H') ⟨[], rfl, upd_same, h0 D _ hD (same_upd hD) upd_same⟩ (fun i H' _ ⟨acc, _, _, pv⟩ => hl _ _ _ _ pv) (fun i x H' hi ⟨acc, hl, hH, pv⟩ => ?_) (fun H' ⟨acc, hl, hH, pv⟩ => hd D acc H' hD hl hH pv)
  have h := hs i x D acc H' hi hl hH pv
  have e : (fun σ2 H2 => wipe σ2 vs = wipe σ vs ∧ te σ2 H2 (LcN D i Pv)) = (fun (σ2 : L2.St) (H2 : Hp) => wipe σ2 vs = wipe σ vs ∧ tYes σ2 H2 fun b H3 => if b = true then te σ2 H3 (LcN D i Pv) else ∃ acc', acc'.length = i + 1 ∧ H3 D = some (.lst acc') ∧ Pv (i + 1) D acc' H3) := by
    funext σ2 H2
    show _ = (wipe σ2 vs = wipe σ vs ∧ if true = true then te σ2 H2 (LcN D i Pv) else ∃ acc', acc'.length = i + 1 ∧ H2 D = some (.lst acc') ∧ Pv (i + 1) D acc' H2)
    rw [if_pos rfl]
  rw [e] at h
  exact h
/-- where the item answers at once -/
theorem z_lcS {k : Nat} {vs : List Nat} {a : Addr} (ws : List V) (hlen : ws.length = xs.length) (hm : xs.length ≤ 1000) (hx : H a = some (.lst xs)) (hw : ∀ x, wipe ((wipe σ vs).set k (some x)) vs = wipe σ vs)
    (body : ∀ (i : Nat) (x w : V) (H' : Hp), xs[i]? = some x → ws[i]? = some w → Same H H' → ∀ R : VK, R w H' → te ((wipe σ vs).set k (some x)) H' R)
    (hd : ∀ D H', H D = none → Same H H' → H' D = some (.lst ws) → Q (.ref D) H') : LcE K (gName k) tYes te vs σ Q (.ref a) H :=
  z_lcM (tl := tC (.ref a)) hlen hm (fun R q => q) hx hw body hd
end
/-! ### data: numbers, lists of numbers -/
def Fl (n : Nat) (d : PyData) : Prop := PyData.canLay0 d = true ∧ PyData.depth d ≤ n
theorem fl_all {n : Nat} : ∀ {ds : List PyData}, (∀ d ∈ ds, Fl n d) → PyData.canLayAll0 ds = true ∧ PyData.depthAll ds ≤ n
  | [], _ => ⟨rfl, Nat.zero_le _⟩
  | d :: ds, h => by
    have h1 := h d (.head _)
    have h2 := fl_all (ds := ds) fun x hx => h x (.tail _ hx)
    refine ⟨?_, ?_⟩
    · show (PyData.canLay0 d && PyData.canLayAll0 ds) = true
      rw [h1.1, h2.1]
      rfl
    · show max (PyData.depth d) (PyData.depthAll ds) ≤ n
      have := h1.2
      have := h2.2
      omega
theorem fl_list {n : Nat} {ds : List PyData} (h : ∀ d ∈ ds, Fl n d) : Fl (n + 1) (.list ds) := ⟨(fl_all h).1, Nat.succ_le_succ (fl_all h).2⟩
theorem fl_tup {n : Nat} {ds : List PyData} (h : ∀ d ∈ ds, Fl n d) : Fl (n + 1) (.tuple ds) := ⟨(fl_all h).1, Nat.succ_le_succ (fl_all h).2⟩
theorem fl_int (i : Int) : Fl 0 (.int i) := ⟨rfl, Nat.le_refl 0⟩
theorem shaped_fl {n : Nat} {d : PyData} (h : Fl n d) (hn : n ≤ 64 := by decide) : SeqAt.shaped d = true := by
  unfold SeqAt.shaped
  rw [Bool.and_eq_true]
  exact ⟨h.1, decide_eq_true (Nat.le_trans h.2 hn)⟩
theorem fl_ints (ns : List Int) : Fl 1 (.list (ns.map .int)) := fl_list fun d hd => by
  obtain ⟨i, _, rfl⟩ := List.mem_map.mp hd
  exact fl_int i
section
variable {K : PySem.W.Frag} {H : Hp} {Q : VK} {p q : Addr}
theorem dpa_ints : ∀ (ns : List Int), DpAll K H (ns.map V.int) (ns.map PyData.int)
  | [] => .nil
  | n :: ns => .cons (.int n) (dpa_ints ns)
theorem dp_ints {ns : List Int} (h : H p = some (.lst (ns.map V.int))) : Dp K H (.ref p) (.list (ns.map .int)) := .lst (.inl (.inl h)) (dpa_ints ns)
theorem eqv_intsA : ∀ (ns ms : List Int), PyData.eqv (.list (ns.map .int)) (.list (ms.map .int)) = decide (ns = ms)
  | [], [] => rfl
  | [], m :: ms => rfl
  | n :: ns, [] => rfl
  | n :: ns, m :: ms => by
    have ih := eqv_intsA ns ms
    show ((n == m) && PyData.eqv (.list (ns.map .int)) (.list (ms.map .int))) = _
    rw [ih]
    by_cases h : n = m
    · subst h
      by_cases h2 : ns = ms
      · simp [h2]
      · simp [h2]
    · simp [h]
theorem z_eqInts {ns ms : List Int} (h1 : H p = some (.lst (ns.map V.int))) (h2 : H q = some (.lst (ms.map V.int))) (k : Q (.bl (decide (ns = ms))) H) : rEqD K (.ref p) (.ref q) H Q :=
  ⟨_, _, dp_ints h1, dp_ints h2, shaped_fl (fl_ints ns), shaped_fl (fl_ints ms), by rw [eqv_intsA]; exact k⟩
theorem z_neInts {ns ms : List Int} (h1 : H p = some (.lst (ns.map V.int))) (h2 : H q = some (.lst (ms.map V.int))) (k : Q (.bl (decide (¬ ns = ms))) H) : rNeD K (.ref p) (.ref q) H Q :=
  ⟨_, _, dp_ints h1, dp_ints h2, shaped_fl (fl_ints ns), shaped_fl (fl_ints ms), by
    rw [eqv_intsA, show (!decide (ns = ms)) = decide (¬ ns = ms) by simp]
    exact k⟩
theorem inV_int (i : Int) : ∀ (ns : List Int), inV (.int i) (ns.map V.int) = decide (i ∈ ns)
  | [] => rfl
  | n :: ns => by
    have ih := inV_int i ns
    show (eqV (.int n) (.int i) || inV (.int i) (ns.map V.int)) = _
    rw [ih, show eqV (.int n) (.int i) = decide (n = i) by first | rfl | simp [eqV]]
    by_cases h : n = i
    · subst h
      simp
    · have h' : ¬ i = n := fun z => h z.symm
      simp [h, h']
theorem flat_ints (ns : List Int) : (ns.map V.int).all flatV = true := by
  rw [List.all_eq_true]
  intro v hv
  obtain ⟨i, _, rfl⟩ := List.mem_map.mp hv
  rfl
theorem z_inI {i : Int} {ns : List Int} (h : H p = some (.lst (ns.map V.int))) (k : Q (.bl (decide (i ∈ ns))) H) : rIn K false (.int i) (.ref p) H Q :=
  ⟨p, _, rfl, .inl (.inl (.inl h)), rfl, flat_ints ns, by rw [inV_int]; exact k⟩
theorem z_notInI {i : Int} {ns : List Int} (h : H p = some (.lst (ns.map V.int))) (k : Q (.bl (decide (¬ i ∈ ns))) H) : rIn K true (.int i) (.ref p) H Q :=
  ⟨p, _, rfl, .inl (.inl (.inl h)), rfl, flat_ints ns, by
    rw [inV_int, show (if true = true then !decide (i ∈ ns) else decide (i ∈ ns)) = decide (¬ i ∈ ns) by simp]
    exact k⟩
theorem z_sortedI {ns : List Int} (h : H p = some (.lst (ns.map V.int))) (k : ∀ (ms : List Int) (a : Addr) (H' : Hp), ms.Perm ns → ms.Pairwise (· ≤ ·) → H a = none → Same H H' → H' a = some (.lst (ms.map V.int)) → Q (.ref a) H') : rSortedI K [.ref p] H Q :=
  ⟨p, ns, rfl, .inl (.inl h), fun ms a h1 h2 ha => k ms a _ h1 h2 ha (same_upd ha) upd_same⟩
/-- truth values -/
theorem inV_bl (i : Bool) : ∀ (ns : List Bool), inV (.bl i) (ns.map V.bl) = decide (i ∈ ns)
  | [] => rfl
  | n :: ns => by
    have ih := inV_bl i ns
    show (eqV (.bl n) (.bl i) || inV (.bl i) (ns.map V.bl)) = _
    rw [ih]
    cases n <;> cases i <;> simp [eqV]
theorem flat_bls (ns : List Bool) : (ns.map V.bl).all flatV = true := by
  rw [List.all_eq_true]
  intro v hv
  obtain ⟨i, _, rfl⟩ := List.mem_map.mp hv
  rfl
theorem z_inB {i : Bool} {ns : List Bool} (h : H p = some (.lst (ns.map V.bl))) (k : Q (.bl (decide (i ∈ ns))) H) : rIn K false (.bl i) (.ref p) H Q :=
  ⟨p, _, rfl, .inl (.inl (.inl h)), rfl, flat_bls ns, by rw [inV_bl]; exact k⟩
theorem z_notInB {i : Bool} {ns : List Bool} (h : H p = some (.lst (ns.map V.bl))) (k : Q (.bl (decide (¬ i ∈ ns))) H) : rIn K true (.bl i) (.ref p) H Q :=
  ⟨p, _, rfl, .inl (.inl (.inl h)), rfl, flat_bls ns, by
    rw [inV_bl, show (if true = true then !decide (i ∈ ns) else decide (i ∈ ns)) = decide (¬ i ∈ ns) by simp]
    exact k⟩
theorem z_notNI {i : Int} (q : Q (.bl true) H) : rNotN (.int i) .non H Q := ⟨rfl, by simpa using q⟩
theorem z_isNI {i : Int} (q : Q (.bl false) H) : rIsN (.int i) .non H Q := ⟨rfl, by simpa using q⟩
theorem fresh_of {H H' : Hp} {a : Addr} (s : Same H H') (h : H' a = none) : H a = none := by
  cases z : H a with
  | none => rfl
  | some o =>
    have := s _ _ z
    rw [h] at this
    cases this
/-- sorted(ints) -/
theorem z_sorted {ns : List Int} (h : H p = some (.lst (ns.map V.int))) (hl : ns.length < 64) (k : ∀ (ms : List Int) (a : Addr) (H' : Hp), ms.Perm ns → ms.Pairwise (· ≤ ·) → H a = none → Same H H' → H' a = some (.lst (ms.map V.int)) → Q (.ref a) H') : rSorted K [.ref p] H Q :=
  ⟨p, ns, rfl, .inl (.inl h), hl, fun ms a h1 h2 ha => k ms a _ h1 h2 ha (same_upd ha) upd_same⟩
end
end Z

namespace Z
open PySem PySem.Spec PyProof PyProof.Rows L2
theorem get_list {X : Cx} : PGet X (rIxL X.K) := by
  intro pins s σ H o i ov iv Q I ro ri h
  obtain ⟨p, xs, k, z, rfl, rfl, hq, he, q⟩ := h
  cases ro
  obtain ⟨t, rfl⟩ := ri
  obtain ⟨its, r, pl, hz⟩ := I.list hq
  obtain ⟨j, h1, h2, h3, h4, h5⟩ := atI_get he
  obtain ⟨w, ew, rw'⟩ := r.get h2
  have hl := r.length
  have hn := line63
  by_cases h0 : 0 ≤ k
  · have hj : k.toNat = j := by
      rw [seqIndex_of h0 h5] at h1
      exact Option.some.inj h1
    exact wpAny_getItem_list pl.isList h0 (by omega) (by rw [hj]; simpa using ew) ⟨z, H, I, rw', q⟩
  · have hj : (k + (its.toArray.size : Int)).toNat = j := by
      rw [seqIndex_neg (by omega) h4] at h1
      rw [List.size_toArray, ← hl]
      exact Option.some.inj h1
    exact wpAny_getItem_list_neg pl.isList (by omega) (by rw [List.size_toArray, ← hl]; omega) (by omega) (by rw [hj]; simpa using ew) ⟨z, H, I, rw', q⟩
section
variable {K : PySem.W.Frag} {σ : L2.St} {H H' : Hp} {Q : VK} {p q : Addr} {xs ys : List V} {v y : V} {n : L2.St → Hp → Prop} {r : VK} {b c : L2.St → Hp → Prop} {tb : TS}
theorem z_augS {to ti te : TE} {tip : TIp} {st : TSet} {tget : V → V → Hp → VK → Prop} (h : to σ H fun o H1 => ti σ H1 fun i H2 => tget o i H2 fun x H3 => te σ H3 fun y H4 => tip x y H4 fun z H5 => st o i z H5 fun H6 => n σ H6) : tAugS to ti te tget tip st ⟨n, r, b, c⟩ σ H := h
/-- for k in range(lo, hi), whatever the two are -/
theorem z_forR2g {ta : TA} {k : Nat} (lo hi : Int) (hl : -(2 ^ 61) ≤ lo ∧ lo < 2 ^ 61) (hh : -(2 ^ 61) ≤ hi ∧ hi < 2 ^ 61) (ha : ∀ R : List V → Hp → Prop, R [.int lo, .int hi] H → ta σ H R) (Pv : Nat → L2.St → Hp → Prop) (h0 : Pv 0 σ H)
    (hs : ∀ i σ H, i < (hi - lo).toNat → Pv i σ H → tb ⟨Pv (i + 1), r, n, Pv (i + 1)⟩ (σ.set k (some (.int (lo + (i : Int))))) H) (hd : ∀ σ H, Pv (hi - lo).toNat σ H → n σ H) : tFor (iRng2 ta) (gName k) tb ⟨n, r, b, c⟩ σ H :=
  ha _ ⟨lo, hi, rfl, by omega, for_range (lo := lo) (n := (hi - lo).toNat) Pv h0 hs hd⟩
theorem z_extendW (h1 : H p = some (.lst xs)) (h2 : H q = some (.lst ys)) (hl : xs.length + ys.length ≤ 1000000) (k : Q .non (upd H p (.lst (xs ++ ys)))) : rExtend (.ref p) [.ref q] H Q :=
  ⟨p, q, xs, ys, rfl, rfl, h1, h2, Nat.le_trans hl (by decide), k⟩
theorem z_appendW (hp : H p = some (.lst xs)) (hl : xs.length < 1000000) (k : Q .non (upd H p (.lst (xs ++ [y])))) : rAppend (.ref p) [y] H Q := ⟨p, xs, y, rfl, rfl, hp, Nat.lt_of_lt_of_le hl (by decide), k⟩
/-! lists of data -/
theorem dpa_len : ∀ {ds : List PyData} {vs : List V}, DpAll K H vs ds → vs.length = ds.length
  | [], vs, h => by rw [dpa_nil h]; rfl
  | d :: ds, vs, h => by
    obtain ⟨v, t, rfl, _, h2⟩ := dpa_cons h
    rw [List.length_cons, List.length_cons, dpa_len h2]
theorem dpa_get : ∀ {ds : List PyData} {vs : List V} {i : Nat} {d : PyData}, DpAll K H vs ds → ds[i]? = some d → ∃ v, vs[i]? = some v ∧ Dp K H v d
  | [], _, _, _, _, e => by simp at e
  | d' :: ds, vs, i, d, h, e => by
    obtain ⟨v, t, rfl, h1, h2⟩ := dpa_cons h
    cases i with
    | zero =>
      cases e
      exact ⟨v, rfl, h1⟩
    | succ i =>
      have h5 := dpa_get (i := i) h2 (show ds[i]? = some _ from e)
      exact h5
theorem dpa_getv {ds : List PyData} {vs : List V} {i : Nat} {v : V} (h : DpAll K H vs ds) (e : vs[i]? = some v) : ∃ d, ds[i]? = some d ∧ Dp K H v d := by
  have hi : i < vs.length := (List.getElem?_eq_some_iff.mp e).1
  obtain ⟨w, hw, d⟩ := dpa_get h (List.getElem?_eq_getElem (show i < ds.length by rw [← dpa_len h]; exact hi))
  rw [e] at hw
  cases hw
  exact ⟨_, List.getElem?_eq_getElem _, d⟩
theorem dpa_app : ∀ {ds es : List PyData} {vs ws : List V}, DpAll K H vs ds → DpAll K H ws es → DpAll K H (vs ++ ws) (ds ++ es)
  | [], _, _, _, h, k => by
    rw [dpa_nil h]
    exact k
  | _ :: _, _, _, _, h, k => by
    obtain ⟨v, t, rfl, h1, h2⟩ := dpa_cons h
    exact .cons h1 (dpa_app h2 k)
theorem dpa_one {d : PyData} (h : Dp K H v d) : DpAll K H [v] [d] := .cons h .nil
end
end Z

namespace Cw
open PySem PySem.Spec PyProof.Rows L2 Z
/-- o.m(e, .., k = v, ..) -/
def tMethN (C : Addr) (mn : Str) (n m : Nat) (sp : Sp) (gV : List V → List V → List V) (E : XK) (ta : TE) (t tk : TA) : TE := fun σ H Q => ta σ H fun x H1 => ∃ a dx fs, x = .ref a ∧ H1 a = some (.ins C dx fs) ∧ fs.lookup mn = none ∧
  t σ H1 fun vs H2 => tk σ H2 fun zs H3 => vs.length = n ∧ zs.length = m ∧ sp (gV (x :: vs) zs) H3 Q E
section
variable {X : Cx} {CX : CXT} {k n : Nat} {f C : Addr} {fd : FuncData} {ps ks : List Str} {sp : Sp} {E : XK} {m : Str} {apos pos : Pos} {o e : Expr} {es : List Expr} {kws : List Keyword} {ta : TE} {t tk : TA} {g : List Value → List Value → List Value} {gV : List V → List V → List V}
theorem pe_methN {pl : Sem Bool} (he : PE X o ta) (c : Cls X.K C) (hm : Meth X.K C m f) (F : FnOk X.prog X.w X.K X.mg X.base CX k f fd ps sp) (hr : Room k X.A) (hb : KBn X.K fd ps (n + 1) ks g gV) (hx : Passes CX X E) (ha : PA X (e :: es) t) (hkw : PK X kws tk)
    (hall : (backToKw pos (keywordEach kws X.env)).all (·.1.isSome) = true := by rfl) (hks : (backToKw pos (keywordEach kws X.env)).filterMap (·.1) = ks := by rfl)
    (hst : starEach (e :: es) X.env = (false, eval e X.env) :: starEach es X.env := by rfl)
    (hpl : ((backTo pos (starEach (e :: es) X.env)).any (·.1) || (backToKw pos (keywordEach kws X.env)).any (·.1.isNone)) = false := by rfl)
    (ht : eval (.Call (.Attribute o m apos) (e :: es) kws pos) X.env = (do
      let ov ← eval o X.env
      standAt apos.atName
      let (f, first) ← holding [ov] (getMethod ov m pl)
      callWith pos f first (backTo pos (starEach (e :: es) X.env)) (backToKw pos (keywordEach kws X.env))) := by rfl) :
    PE X (.Call (.Attribute o m apos) (e :: es) kws pos) (tMethN C m n ks.length sp gV E ta t tk) := by
  refine ⟨fun pins s σ H Q I h => ?_⟩
  refine PySem.W.methodCall_KW (pl := pl) (thn (he.run pins s σ H _ I h) fun u s1 ⟨x, H1, I1, rx, a, dx, fs, ex, ea, l, q⟩ => ?_) ht
  subst ex
  obtain rfl : u = Value.ref a := rx
  refine getmeth_ok I1 ea c hm l ?_
  refine PySem.W.callWith_KW (first := [.ref a]) (h₀ := X.base) I.ok.mod.kin hm.kp hall (thn (ha.run pos pins s1 σ H1 _ I1 q) fun us s2 ⟨vs, H2, I2, r, q2⟩ => ?_) hpl hst
  refine thn (hkw.run pos pins s2 σ H2 _ I2 q2) fun ws s3 ⟨zs, H3, I3, rz, l1, l2, q3⟩ => ⟨I3.kIn, ?_⟩
  rw [hks]
  exact run_fnN (us := .ref a :: us) (vs := .ref a :: vs) F hr hb hx I3 (.cons rfl r) rz (by rw [List.length_cons, l1]) l2 q3
end
/-! methods whose errors are wished for at the slots (in a try) -/
def tMethS (C : Addr) (m : Str) (sp : Sp) (dvs : List V) (E : L2.St → XK) (ta : TE) (t : TA) : TE := fun σ H Q => ta σ H fun x H1 => ∃ a dx fs, x = .ref a ∧ H1 a = some (.ins C dx fs) ∧ fs.lookup m = none ∧ t σ H1 fun vs H2 => sp (x :: (vs ++ dvs)) H2 Q (E σ)
def tMethNS (C : Addr) (mn : Str) (n m : Nat) (sp : Sp) (gV : List V → List V → List V) (E : L2.St → XK) (ta : TE) (t tk : TA) : TE := fun σ H Q => ta σ H fun x H1 => ∃ a dx fs, x = .ref a ∧ H1 a = some (.ins C dx fs) ∧ fs.lookup mn = none ∧
  t σ H1 fun vs H2 => tk σ H2 fun zs H3 => vs.length = n ∧ zs.length = m ∧ sp (gV (x :: vs) zs) H3 Q (E σ)
section
variable {X : Cx} {CX : CXT} {k n : Nat} {f C : Addr} {fd : FuncData} {ps ks : List Str} {sp : Sp} {E : L2.St → XK} {m : Str} {apos pos : Pos} {o e : Expr} {es : List Expr} {kws : List Keyword} {ta : TE} {t tk : TA} {dvs : List V} {ds : List Value} {g : List Value → List Value → List Value} {gV : List V → List V → List V}
theorem pe_methS {pl : Sem Bool} (he : PE X o ta) (c : Cls X.K C) (hm : Meth X.K C m f) (F : FnOk X.prog X.w X.K X.mg X.base CX k f fd ps sp) (hr : Room k X.A) (hb : Binds X.K fd ps ds) (hd : Vals dvs ds) (hx : ∀ σ, PassesAt CX X σ (E σ)) (ha : PA X (e :: es) t)
    (hst : starEach (e :: es) X.env = (false, eval e X.env) :: starEach es X.env := by rfl) (hpl : (backTo pos (starEach es X.env)).any (·.1) = false := by rfl)
    (ht : eval (.Call (.Attribute o m apos) (e :: es) [] pos) X.env = (do
      let ov ← eval o X.env
      standAt apos.atName
      let (f, first) ← holding [ov] (getMethod ov m pl)
      callWith pos f first (backTo pos (starEach (e :: es) X.env)) (backToKw pos (keywordEach [] X.env))) := by rfl) :
    PE X (.Call (.Attribute o m apos) (e :: es) [] pos) (tMethS C m sp dvs E ta t) := by
  refine ⟨fun pins s σ H Q I h => ?_⟩
  refine PySem.W.methodCall_KW (pl := pl) (thn (he.run pins s σ H _ I h) fun u s1 ⟨x, H1, I1, rx, a, dx, fs, ex, ea, l, q⟩ => ?_) ht
  subst ex
  obtain rfl : u = Value.ref a := rx
  refine getmeth_ok I1 ea c hm l ?_
  refine PySem.W.callWith_K (first := [.ref a]) (h₀ := X.base) I.ok.mod.kin hm.kp (thn (ha.run pos pins s1 σ H1 _ I1 q) fun us s2 ⟨vs, H2, I2, r, q2⟩ => ⟨I2.kIn, ?_⟩) hst hpl
  exact run_fnSD (us := .ref a :: us) (vs := .ref a :: vs) F hr hb hd (hx σ) I2 (.cons rfl r) q2
theorem pe_meth0S {pl : Sem Bool} (he : PE X o ta) (c : Cls X.K C) (hm : Meth X.K C m f) (F : FnOk X.prog X.w X.K X.mg X.base CX k f fd ps sp) (hr : Room k X.A) (hb : Binds X.K fd ps ds) (hd : Vals dvs ds) (hx : ∀ σ, PassesAt CX X σ (E σ))
    (ht : eval (.Call (.Attribute o m apos) [] [] pos) X.env = (do
      let ov ← eval o X.env
      standAt apos.atName
      let (f, first) ← holding [ov] (getMethod ov m pl)
      callWith pos f first (backTo pos (starEach [] X.env)) (backToKw pos (keywordEach [] X.env))) := by rfl) :
    PE X (.Call (.Attribute o m apos) [] [] pos) (tMethS C m sp dvs E ta tNil) := by
  refine ⟨fun pins s σ H Q I h => ?_⟩
  refine PySem.W.methodCall_KW (pl := pl) (thn (he.run pins s σ H _ I h) fun u s1 ⟨x, H1, I1, rx, a, dx, fs, ex, ea, l, q⟩ => ?_) ht
  subst ex
  obtain rfl : u = Value.ref a := rx
  refine getmeth_ok I1 ea c hm l ?_
  exact PySem.W.callWith_K0 (first := [.ref a]) I1.kIn hm.kp (run_fnSD (us := [.ref a]) (vs := [.ref a]) F hr hb hd (hx σ) I1 (.cons rfl .nil) q)
theorem run_fnNS {pins : List (Addr × Obj)} {σ : L2.St} {H : Hp} {s : Shared} {Q : VK} {us ws : List Value} {vs zs : List V} (F : FnOk X.prog X.w X.K X.mg X.base CX k f fd ps sp) (hr : Room k X.A) (hb : KBn X.K fd ps n ks g gV) (hx : PassesAt CX X σ (E σ))
    (I : Inv X pins σ H s) (r : Vals vs us) (rz : Vals zs ws) (l1 : vs.length = n) (l2 : zs.length = ks.length) (h : sp (gV vs zs) H Q (E σ)) : wpAny (model X.prog X.w) X.A (call (.ref f) us (ks.zip ws)) (EP X pins σ Q) X.xe s := by
  have r2 := hb.rel r rz
  refine wpAny_call (codeAny_mono (F.run X.A X.stack s H ⟨us, ks.zip ws⟩ (g us ws) (gV vs zs) Q (E σ) hr I.env0 (hb.to s us ws I.kIn (r.length.symm.trans l1) (rz.length.symm.trans l2)) r2 h) fun r s' hq => ?_)
  cases r with
  | error e => exact hx pins H s e s' I hq
  | ok fl =>
    cases fl with
    | ret u => exact I.after hq
    | next => exact False.elim hq
    | brk => exact False.elim hq
    | cont => exact False.elim hq
theorem pe_methNS {pl : Sem Bool} (he : PE X o ta) (c : Cls X.K C) (hm : Meth X.K C m f) (F : FnOk X.prog X.w X.K X.mg X.base CX k f fd ps sp) (hr : Room k X.A) (hb : KBn X.K fd ps (n + 1) ks g gV) (hx : ∀ σ, PassesAt CX X σ (E σ)) (ha : PA X (e :: es) t) (hkw : PK X kws tk)
    (hall : (backToKw pos (keywordEach kws X.env)).all (·.1.isSome) = true := by rfl) (hks : (backToKw pos (keywordEach kws X.env)).filterMap (·.1) = ks := by rfl)
    (hst : starEach (e :: es) X.env = (false, eval e X.env) :: starEach es X.env := by rfl)
    (hpl : ((backTo pos (starEach (e :: es) X.env)).any (·.1) || (backToKw pos (keywordEach kws X.env)).any (·.1.isNone)) = false := by rfl)
    (ht : eval (.Call (.Attribute o m apos) (e :: es) kws pos) X.env = (do
      let ov ← eval o X.env
      standAt apos.atName
      let (f, first) ← holding [ov] (getMethod ov m pl)
      callWith pos f first (backTo pos (starEach (e :: es) X.env)) (backToKw pos (keywordEach kws X.env))) := by rfl) :
    PE X (.Call (.Attribute o m apos) (e :: es) kws pos) (tMethNS C m n ks.length sp gV E ta t tk) := by
  refine ⟨fun pins s σ H Q I h => ?_⟩
  refine PySem.W.methodCall_KW (pl := pl) (thn (he.run pins s σ H _ I h) fun u s1 ⟨x, H1, I1, rx, a, dx, fs, ex, ea, l, q⟩ => ?_) ht
  subst ex
  obtain rfl : u = Value.ref a := rx
  refine getmeth_ok I1 ea c hm l ?_
  refine PySem.W.callWith_KW (first := [.ref a]) (h₀ := X.base) I.ok.mod.kin hm.kp hall (thn (ha.run pos pins s1 σ H1 _ I1 q) fun us s2 ⟨vs, H2, I2, r, q2⟩ => ?_) hpl hst
  refine thn (hkw.run pos pins s2 σ H2 _ I2 q2) fun ws s3 ⟨zs, H3, I3, rz, l1, l2, q3⟩ => ⟨I3.kIn, ?_⟩
  rw [hks]
  exact run_fnNS (us := .ref a :: us) (vs := .ref a :: vs) F hr hb (hx σ) I3 (.cons rfl r) rz (by rw [List.length_cons, l1]) l2 q3
end
/-! the readings -/
section
variable {K : PySem.W.Frag} {H : Hp} {Q : VK} {σ : L2.St} {a C dx : Addr} {fs : List (Str × V)} {f m : Str} {v : V} {ta tv : TE} {t tk : TA} {n : L2.St → Hp → Prop} {r : VK} {b c : L2.St → Hp → Prop} {sp : Sp} {dvs : List V} {E : XK} {gV : List V → List V → List V}
def QFld (K : PySem.W.Frag) (f : Str) (Q : VK) : VK := fun x H1 => ∃ a C dx fs v, x = .ref a ∧ H1 a = some (.ins C dx fs) ∧ Cls K C ∧ NoAttr K C f ∧ fs.lookup f = some v ∧ Q v H1
theorem z_fldE (h : ta σ H (QFld K f Q)) : tFld K ta f σ H Q := h
theorem z_fld (e : H a = some (.ins C dx fs)) (c : Cls K C) (no : NoAttr K C f) (l : fs.lookup f = some v) (q : Q v H) : QFld K f Q (.ref a) H := ⟨a, C, dx, fs, v, rfl, e, c, no, l, q⟩
def QSet (K : PySem.W.Frag) (f : Str) (y : V) (n : Hp → Prop) : VK := fun x H2 => ∃ a C dx fs, x = .ref a ∧ H2 a = some (.ins C dx fs) ∧ Cls K C ∧ NoAttr K C f ∧ fs.length < 1000 ∧ n (upd H2 a (.ins C dx (putF f y fs)))
theorem z_sfldE (h : tv σ H fun y H1 => ta σ H1 (QSet K f y (n σ))) : sFld K ta tv f ⟨n, r, b, c⟩ σ H := h
theorem z_sfld {n : Hp → Prop} (e : H a = some (.ins C dx fs)) (c : Cls K C) (no : NoAttr K C f) (l : fs.length < 1000) (q : n (upd H a (.ins C dx (putF f v fs)))) : QSet K f v n (.ref a) H := ⟨a, C, dx, fs, rfl, e, c, no, l, q⟩
def QMeth (C : Addr) (m : Str) (σ : L2.St) (t : TA) (sp : List V → Hp → Prop) : VK := fun x H1 => ∃ a dx fs, x = .ref a ∧ H1 a = some (.ins C dx fs) ∧ fs.lookup m = none ∧ t σ H1 fun vs H2 => sp (x :: vs) H2
theorem z_methSE {E : L2.St → XK} (h : ta σ H (QMeth C m σ t fun vs H2 => sp (vs ++ dvs) H2 Q (E σ))) : tMethS C m sp dvs E ta t σ H Q := h
theorem z_methE (h : ta σ H (QMeth C m σ t fun vs H2 => sp (vs ++ dvs) H2 Q E)) : tMeth C m sp dvs E ta t σ H Q := h
theorem z_meth {sp : List V → Hp → Prop} (e : H a = some (.ins C dx fs)) (l : fs.lookup m = none) (q : t σ H fun vs H2 => sp (.ref a :: vs) H2) : QMeth C m σ t sp (.ref a) H := ⟨a, dx, fs, rfl, e, l, q⟩
def QMethN (C : Addr) (mn : Str) (k j : Nat) (sp : Sp) (gV : List V → List V → List V) (E : XK) (σ : L2.St) (t tk : TA) (Q : VK) : VK := fun x H1 => ∃ a dx fs, x = .ref a ∧ H1 a = some (.ins C dx fs) ∧ fs.lookup mn = none ∧
  t σ H1 fun vs H2 => tk σ H2 fun zs H3 => vs.length = k ∧ zs.length = j ∧ sp (gV (x :: vs) zs) H3 Q E
theorem z_methNE {k j : Nat} (h : ta σ H (QMethN C m k j sp gV E σ t tk Q)) : tMethN C m k j sp gV E ta t tk σ H Q := h
theorem z_methNSE {k j : Nat} {E : L2.St → XK} (h : ta σ H (QMethN C m k j sp gV (E σ) σ t tk Q)) : tMethNS C m k j sp gV E ta t tk σ H Q := h
theorem z_methN {k j : Nat} (e : H a = some (.ins C dx fs)) (l : fs.lookup m = none) (q : t σ H fun vs H2 => tk σ H2 fun zs H3 => vs.length = k ∧ zs.length = j ∧ sp (gV (.ref a :: vs) zs) H3 Q E) : QMethN C m k j sp gV E σ t tk Q (.ref a) H := ⟨a, dx, fs, rfl, e, l, q⟩
theorem z_lens {xs ys : List V} {k j : Nat} {P : Prop} (h1 : xs.length = k) (h2 : ys.length = j) (q : P) : xs.length = k ∧ ys.length = j ∧ P := ⟨h1, h2, q⟩
theorem z_make (h : t σ H fun vs H1 => ∀ x dx, H1 x = none → H1 dx = none → dx ≠ x → sp (.ref x :: (vs ++ dvs)) (upd (upd H1 dx (.own x)) x (.ins C dx [])) (fun v H2 => v = .non ∧ Q (.ref x) H2) E) : tMake C sp dvs E t σ H Q := h
end
/-! for and comprehensions over any walk -/
section
variable {K : PySem.W.Frag} {H : Hp} {Q : VK} {σ : L2.St} {wi : TI} {J : It} {m : Nat} {G : Hp → Prop} {Y : Nat → Hp → V → Hp → Prop} {g : TG} {tb : TS} {te : TE} {n : L2.St → Hp → Prop} {r : VK} {b c : L2.St → Hp → Prop} {vs : List Nat}
theorem z_forW (w : Walk J m G Y) (hi : ∀ R : It → Hp → Prop, R J H → wi σ H R) (Pv : Nat → L2.St → Hp → Prop) (h0 : Pv 0 σ H) (hG : ∀ i σ H, i ≤ m → Pv i σ H → G H)
    (hs : ∀ i x σ H H', i < m → Pv i σ H → Y i H x H' → g x σ H' fun σ2 H2 => tb ⟨Pv (i + 1), r, n, Pv (i + 1)⟩ σ2 H2) (hd : ∀ σ H, Pv m σ H → n σ H) : tFor wi g tb ⟨n, r, b, c⟩ σ H :=
  hi _ (for_it w Pv h0 hG hs hd)
theorem z_lcW (w : Walk J m G Y) (hi : ∀ R : It → Hp → Prop, R J H → wi σ H R) (Pv : Nat → Addr → List V → Hp → Prop)
    (h0 : ∀ D H', H D = none → Same H H' → H' D = some (.lst []) → Pv 0 D [] H') (hG : ∀ i D acc H', Pv i D acc H' → G H')
    (hs : ∀ i x D acc H' H2, i < m → acc.length = i → H' D = some (.lst acc) → Pv i D acc H' → Y i H' x H2 → g x (wipe σ vs) H2 fun σ2 H3 => wipe σ2 vs = wipe σ vs ∧ te σ2 H3 (LcN D i Pv))
    (hd : ∀ D acc H', H D = none → acc.length = m → H' D = some (.lst acc) → Pv m D acc H' → Q (.ref D) H') : tLc wi g tYes te vs σ H Q := by
  refine hi _ fun D hD => ?_
  refine lc_it w (fun i H' => ∃ acc, acc.length = i ∧ H' D = some (.lst acc) ∧ Pv i D acc H') ⟨[], rfl, upd_same, h0 D _ hD (same_upd hD) upd_same⟩ (fun i H' _ ⟨acc, _, _, pv⟩ => hG _ _ _ _ pv) (fun i x H' H2 hi' ⟨acc, hl, hH, pv⟩ y => ?_) (fun H' ⟨acc, hl, hH, pv⟩ => hd D acc H' hD hl hH pv)
  have h := hs i x D acc H' H2 hi' hl hH pv y
  have e : (fun σ2 H2 => wipe σ2 vs = wipe σ vs ∧ te σ2 H2 (LcN D i Pv)) = (fun (σ2 : L2.St) (H2 : Hp) => wipe σ2 vs = wipe σ vs ∧ tYes σ2 H2 fun b H3 => if b = true then te σ2 H3 (LcN D i Pv) else ∃ acc', acc'.length = i + 1 ∧ H3 D = some (.lst acc') ∧ Pv (i + 1) D acc' H3) := by
    funext σ2 H2
    show _ = (wipe σ2 vs = wipe σ vs ∧ if true = true then te σ2 H2 (LcN D i Pv) else ∃ acc', acc'.length = i + 1 ∧ H2 D = some (.lst acc') ∧ Pv (i + 1) D acc' H2)
    rw [if_pos rfl]
  rw [e] at h
  exact h
/-- [e for x in ..]: the values ws -/
theorem z_valsW {ws : List V} (w : Walk J m G Y) (hm : m ≤ 1000) (hi : ∀ R : It → Hp → Prop, R J H → wi σ H R) (hG : ∀ H', Same H H' → G H') (hl : ws.length = m)
    (hs : ∀ i x v H' H2 (R : VK), ws[i]? = some v → i < m → Same H H' → Y i H' x H2 → (∀ H3, Same H' H3 → R v H3) → g x (wipe σ vs) H2 fun σ2 H3 => wipe σ2 vs = wipe σ vs ∧ te σ2 H3 R)
    (hd : ∀ D H', H D = none → Same H H' → H' D = some (.lst ws) → Q (.ref D) H') : tLc wi g tYes te vs σ H Q := by
  refine z_lcW w hi (fun i D acc H' => Same H H' ∧ H D = none ∧ acc = ws.take i) (fun D H' f s _ => ⟨s, f, rfl⟩) (fun i D acc H' h => hG _ h.1) (fun i x D acc H' H2 hi' hl' hD ⟨s', fD, ea⟩ y => ?_) (fun D acc H' fD hl' hD ⟨s', _, ea⟩ => ?_)
  · have hw : ws[i]? = some ws[i] := List.getElem?_eq_getElem (by omega)
    refine hs i x ws[i] H' H2 _ hw hi' s' y fun H3 s3 => ?_
    refine z_lcB (s3 _ _ hD) hl' (by omega) fun H5 hD5 k5 e5 => ⟨fun b o h => ?_, fD, ?_⟩
    · rw [e5 b (ne_of_none h fD)]
      exact s3 _ _ (s' _ _ h)
    · subst ea
      rw [List.take_add_one, hw]
      rfl
  · refine hd D H' fD s' ?_
    rw [hD, ea, ← hl, List.take_length]
/-- [e for x in ..]: a new object each time -/
theorem z_objsW {ob : Nat → HO} (w : Walk J m G Y) (hm : m ≤ 1000) (hi : ∀ R : It → Hp → Prop, R J H → wi σ H R) (hG : ∀ H', Same H H' → G H')
    (hs : ∀ i x H' H2 (R : VK), i < m → Same H H' → Y i H' x H2 → (∀ a H3, H' a = none → Same H' H3 → H3 a = some (ob i) → R (.ref a) H3) → g x (wipe σ vs) H2 fun σ2 H3 => wipe σ2 vs = wipe σ vs ∧ te σ2 H3 R)
    (hd : ∀ (D : Addr) (H' : Hp) (as : List Addr), H D = none → Same H H' → H' D = some (.lst (as.map V.ref)) → as.length = m → as.Nodup → D ∉ as → (∀ i a, as[i]? = some a → H a = none ∧ H' a = some (ob i)) → Q (.ref D) H') : tLc wi g tYes te vs σ H Q := by
  refine z_lcW w hi (fun i D acc H' => Same H H' ∧ H D = none ∧ ∃ as : List Addr, acc = as.map V.ref ∧ as.Nodup ∧ D ∉ as ∧ ∀ i a, as[i]? = some a → H a = none ∧ H' a = some (ob i)) (fun D H' f s _ => ⟨s, f, [], rfl, List.nodup_nil, List.not_mem_nil, fun i a h => (by simp at h)⟩) (fun i D acc H' h => hG _ h.1) (fun i x D acc H' H2 hi' hl' hD ⟨s', fD, as, ea, nd, nD, hv⟩ y => ?_) (fun D acc H' fD hl' hD ⟨s', _, as, ea, nd, nD, hv⟩ => ?_)
  · have la : as.length = i := by
      have := congrArg List.length ea
      rw [List.length_map, hl'] at this
      exact this.symm
    refine hs i x H' H2 _ hi' s' y fun a H3 fa s3 h3 => ?_
    have na : a ∉ as := fun hm => by
      obtain ⟨j, hj⟩ := List.mem_iff_getElem?.mp hm
      have := (hv j a hj).2
      rw [fa] at this
      cases this
    have nDa : a ≠ D := fun z => by
      rw [z, hD] at fa
      cases fa
    refine z_lcB (s3 _ _ hD) hl' (by omega) fun H5 hD5 k5 e5 => ⟨fun b o h => ?_, fD, as ++ [a], by rw [ea, List.map_append]; rfl, ?_, ?_, fun j b hb => ?_⟩
    · rw [e5 b (ne_of_none h fD)]
      exact s3 _ _ (s' _ _ h)
    · rw [List.nodup_append]
      refine ⟨nd, List.pairwise_singleton _ _, fun x hx y hy z => ?_⟩
      rw [List.mem_singleton.mp hy] at z
      exact na (by rw [← z]; exact hx)
    · rw [List.mem_append, List.mem_singleton]
      rintro (h | h)
      · exact nD h
      · exact nDa h.symm
    · rcases Nat.lt_or_ge j as.length with h | h
      · rw [List.getElem?_append_left h] at hb
        have hne : b ≠ D := fun z => nD (by rw [← z]; exact List.mem_of_getElem? hb)
        refine ⟨(hv j b hb).1, ?_⟩
        rw [e5 b hne]
        exact s3 _ _ (hv j b hb).2
      · have hr : j = i := by
          have := (List.getElem?_eq_some_iff.mp hb).1
          rw [List.length_append, List.length_singleton] at this
          omega
        subst hr
        rw [List.getElem?_append_right h, la, Nat.sub_self] at hb
        cases hb
        refine ⟨?_, by rw [e5 a nDa]; exact h3⟩
        cases z : H a with
        | none => rfl
        | some o =>
          have := s' _ _ z
          rw [fa] at this
          cases this
  · have la : as.length = m := by
      have := congrArg List.length ea
      rw [List.length_map, hl'] at this
      exact this.symm
    exact hd D H' as fD s' (by rw [hD, ea]) la nd nD hv
/-! what is walked -/
def It0 (R : It → Hp → Prop) : List V → Hp → Prop := fun _ _ => True
theorem z_iRng {ta : TA} {k : Nat} {R : It → Hp → Prop} (ha : ∀ S : List V → Hp → Prop, S [.int (k : Int)] H → ta σ H S) (hk : k ≤ 1000) (q : R (Itr 0 k) H) : iRng1 ta σ H R := by
  refine ha _ ⟨(k : Int), rfl, by omega, by omega, ?_⟩
  rw [Int.toNat_natCast]
  exact q
theorem z_iList {te : TE} {a : Addr} {xs : List V} {R : It → Hp → Prop} (ha : ∀ S : VK, S (.ref a) H → te σ H S) (h : SqL K H a xs) (q : R (Itl K a) H) : iList K te σ H R := ha _ ⟨a, rfl, ⟨xs, h⟩, q⟩
theorem z_iZip {ta : TA} {a b : Addr} {xs ys : List V} {R : It → Hp → Prop} (ha : ∀ S : List V → Hp → Prop, S [.ref a, .ref b] H → ta σ H S) (h1 : SqL K H a xs) (h2 : SqL K H b ys) (q : R (Itz K a b) H) : iZip K ta σ H R := ha _ ⟨a, b, xs, ys, rfl, h1, h2, q⟩
theorem z_iEnum {ta : TA} {a : Addr} {xs : List V} {R : It → Hp → Prop} (ha : ∀ S : List V → Hp → Prop, S [.ref a] H → ta σ H S) (h1 : SqL K H a xs) (q : R (Ite K a) H) : iEnum K ta σ H R := ha _ ⟨a, xs, rfl, h1, q⟩
def rSumN (K : PySem.W.Frag) : List V → Hp → VK → Prop := rSum K
theorem z_sum {ns : List Int} {a : Addr} (h : SqL K H a (ns.map V.int)) (q : Q (.int ns.sum) H) : rSum K [.ref a] H Q := ⟨a, ns, rfl, h, q⟩
theorem z_reverse {xs : List V} {l : Addr} (h : H l = some (.lst xs)) (q : Q .non (upd H l (.lst xs.reverse))) : rReverse (.ref l) [] H Q := ⟨l, xs, rfl, rfl, h, q⟩
end
/-! one field -/
theorem look1 {f : Str} {v : V} : ([(f, v)] : List (Str × V)).lookup f = some v := by
  unfold List.lookup
  rw [show (f == f) = true from beq_self_eq_true f]
theorem look1n {f m : Str} {v : V} (h : (m == f) = false) : ([(f, v)] : List (Str × V)).lookup m = none := by
  unfold List.lookup
  rw [h]
  rfl
theorem put1 {f : Str} {v w : V} : putF f w [(f, v)] = [(f, w)] := by
  unfold putF
  rw [if_pos rfl]
theorem put0 {f : Str} {w : V} : putF f w [] = [(f, w)] := rfl
end Cw

/-! raise X(f'.. {N} ..'); t[lo:hi]: out of Tf and Ts, without the rest of them -/
namespace Tg
open PySem PySem.Spec PyProof.Rows L2 Z
def okF (m1 : Str) (k : Int) (m2 : Str) : Bool := decide (k.natAbs.log2 < 1920) && decide ((Str.empty ++ m1).length ≤ sizeLine) && decide ((Str.empty ++ m1 ++ (toString k : Str)).length ≤ sizeLine) && decide ((Str.empty ++ m1 ++ (toString k : Str) ++ m2).length ≤ sizeLine)
theorem pmkF {X : Cx} {C : Addr} {x m1 m2 : Str} {k : Int} {e : Expr} {j1 j2 : Nat} {p p1 p2 p3 p4 pos : Pos} (E : ExcX X.K X.mg x C) (hg : Gl X x) (hc : PE X e (tC (.int k))) (ok : okF m1 k m2 = true)
    (hs : starEach [Expr.JoinedStr [.Constant (.str m1) j1 p1, .FormattedValue e (-1) none p2, .Constant (.str m2) j2 p3] p4] X.env = (false, eval (Expr.JoinedStr [.Constant (.str m1) j1 p1, .FormattedValue e (-1) none p2, .Constant (.str m2) j2 p3] p4) X.env) :: starEach [] X.env := by rfl) (hdb : (x == ("__debug__" : Str)) = false := by decide) :
    PMk X (.Call (.Name x p) [.JoinedStr [.Constant (.str m1) j1 p1, .FormattedValue e (-1) none p2, .Constant (.str m2) j2 p3] p4] [] pos) (fun _ H Q => Q (.ref C) none H) := by
  intro pins s σ H Q I h
  unfold okF at ok
  rw [Bool.and_eq_true, Bool.and_eq_true, Bool.and_eq_true, decide_eq_true_eq, decide_eq_true_eq, decide_eq_true_eq, decide_eq_true_eq] at ok
  refine SkE.pmk_own1 PySem.F.excBase_ValueError E.q E.g E.k (raises_own E.c.hs E.t) hg (pe_joined (.cons pe_str (.cons (pe_fmt hc) (.cons pe_str .nil)))) hs hdb pins s σ H Q I ?_
  exact ⟨m1, rfl, ok.1.1.2, .inr ⟨k, rfl, ok.1.1.1, _, rfl, ok.1.2, m2, rfl, ok.2, h⟩⟩
section
variable {K : PySem.W.Frag} {H : Hp} {Q : VK} {a : Addr} {xs : List V}
theorem z_slA {lo hi : Option Int} (h : SqT K H a xs) (q : ∀ p H', Same H H' → SqT K H' p (cutV xs lo hi) → Q (.ref p) H') : rSlA K (.ref a) lo hi H Q := by
  refine ⟨a, xs, rfl, h, fun hw => q a H (fun _ _ z => z) ?_, fun _ p hp => q p _ (same_upd hp) (.inl (.inl upd_same))⟩
  have e : cutV xs lo hi = xs := by
    unfold cutV
    rw [hw.1, hw.2, List.drop_zero]
    exact List.take_of_length_le (by omega)
  rw [e]
  exact h
end
end Tg

/-! a list comprehension without a test, where an exception is handled whose context is None -/
namespace Hl
open PySem PySem.Spec PyProof PyProof.Rows L2 L2H HotX
/-- the block's context bears the handled exception -/
abbrev blkH (X : Cx) (p : Addr × Obj) (s : Shared) (H : Hp) (scope : Scope) (cenv : Env) (fp : List Addr) : Cx := { X.blk s H scope cenv fp with pn := [p] }
section
variable {X : Cx} {p : Addr × Obj} {s0 s t : Shared} {H0 H : Hp} {scope : Scope} {cenv : Env} {fp : List Addr} {pins : List (Addr × Obj)} {σ : L2.St}
theorem toH (I : Inv (X.blk s0 H0 scope cenv fp) [] σ H s) (hp : s.heap.get? p.1 = some p.2 ∧ H p.1 = none ∧ p.1 ≠ cenv.locals ∧ p.1 ∉ frs X.stack ∧ ∀ v, p.2.data ≠ .cell v) : Inv (blkH X p s0 H0 scope cenv fp) [] σ H s := by
  obtain ⟨ok, os, bare, base, loc, cell, free, freeC, _, hok, len⟩ := I
  obtain ⟨a, b, c, d, e, f, g, h, i, j, k, l, m, n, o, q, r, u⟩ := ok
  refine ⟨⟨a, b, c, d, e, f, g, h, i, j, k, l, m, n, o, q, r, u⟩, os, bare, base, loc, cell, free, freeC, ?_, hok, len⟩
  intro z hz
  have : z = p := by simpa using hz
  rw [this]
  exact hp
/-- the block's start -/
theorem startH {own : List (Str × Nat)} (I : Inv X pins σ H s) (hp : p ∈ X.pn) (ok : BlkOk X.N X.env.scope scope own) (nd : X.N.Nodup) (hf : ∀ b ∈ fp, FpOk X pins H b ∧ b < s.heap.objs.size) :
    Inv (blkH X p s H scope (compEnvC scope (cellsFrom (s.heap.objs.size + 1) scope.names (cloFrom X.env.cells scope.names [])) s.heap.objs.size X.env) fp) [] (wipe σ (own.map (·.2))) H { s with heap := pushCells (s.heap.push { cls := .type "dict", data := .dict #[] }) scope.names } := by
  obtain ⟨there, off, nl, nf, nc⟩ := I.pin p (List.mem_append_left _ hp)
  refine toH (block_start I ok nd hf) ⟨?_, off, ?_, ?_, nc⟩
  · exact pushCells_keeps _ _ _ _ (Heap.get?_push_of_some _ there)
  · exact Nat.ne_of_lt (Heap.lt_size there)
  · intro m
    rcases List.mem_cons.mp (I.stkSub p.1 m) with z | z
    · exact nl z
    · exact nf z
/-- the block's state, as its owner sees it -/
theorem ownerH (I0 : Inv X pins σ H0 s0) (out : ∀ b ∈ fp, FpOk X pins H0 b) (I : Inv (blkH X p s0 H0 scope cenv fp) [] (wipe σ vs) H s) : Inv X pins σ H s :=
  I0.call' (ch := fp) I.os I.base I.hok I.bare fun b hb => by
    obtain ⟨_, _, a, b', c, d⟩ := out b hb
    exact ⟨b', (out b hb).2.1, c, d⟩
/-- between two turns -/
def Mid (X : Cx) (p : Addr × Obj) (s0 : Shared) (H0 : Hp) (scope : Scope) (ce : Env) (fp : List Addr) (τ : L2.St) (tn : Nat → Heap → Prop) (W : Nat → Nat → Hp → Prop) (n : Nat) (t : Shared) : Prop :=
  ∃ i H', Inv (blkH X p s0 H0 scope ce fp) [] τ H' t ∧ tn i t.heap ∧ (∀ b ∈ fp, H' b = none) ∧ W i n H'
theorem pe_lcH {elt tg iter : Expr} {own : List (Str × Nat)} {pos : Pos} {wi : TI} {g : TG} {te : TE} (hc : HotC X) (nd : X.N.Nodup) (hi : PIH X tg iter wi) (ok : BlkOk X.N X.env.scope scope own)
    (hg : ∀ (p : Addr × Obj) (s : Shared) (H : Hp) (C : Addr) (cl : List (Str × Addr)) (fp : List Addr), Hot1 X.A p → PG (blkH X p s H scope (compEnvC scope cl C X.env) fp) tg g)
    (he : ∀ (p : Addr × Obj) (s : Shared) (H : Hp) (C : Addr) (cl : List (Str × Addr)) (fp : List Addr), Hot1 X.A p → PE (blkH X p s H scope (compEnvC scope cl C X.env) fp) elt te)
    (hs : ∀ x, foldedSetIterable iter X.env x = pure x := by intro _; rfl) : PE X (.ListComp elt [⟨tg, iter, [], 0⟩] scope pos) (tLc wi g tYes te (own.map (·.2))) := by
  constructor
  intro pins s σ H Q I h
  rw [eval_ListComp]
  obtain ⟨p, hot, mem⟩ := hc
  have closed := closure_ok (env := X.env) (scope := scope) fun y hy e => I.ok.has _ (ok.free y hy e)
  apply wpAny_comprehension_free (use := none) rfl hs closed ok.kind (fun y hy e => by rw [ok.uniq y hy, e])
  apply thn (hi.run pins s σ H _ I h)
  intro xv s1 iters
  apply thn iters
  rintro itv s2 ⟨it, fp, tn, J, H2, rfl, I2, T, t2, out2, plan⟩
  refine wpAny_newObj_type (newEnv_comp ?_) (Nat.zero_le _)
  obtain ⟨D, hD⟩ : ∃ D, s2.heap.objs.size = D := ⟨_, rfl⟩
  obtain ⟨W, ⟨n0, w0⟩, turns⟩ := plan D (I2.hok.fresh (Nat.le_of_eq hD))
  -- the empty list lies at D
  obtain ⟨s3, h3⟩ : ∃ s3 : Shared, { s2 with heap := s2.heap.push { cls := .type "list", data := .seq ([] : List Value).toArray } } = s3 := ⟨_, rfl⟩
  have hp3 : s3.heap = s2.heap.push { cls := .type "list", data := .seq ([] : List Value).toArray } := congrArg Shared.heap h3.symm
  have k3 : ∀ b o, s2.heap.get? b = some o → s3.heap.get? b = some o := fun b o e => by
    rw [hp3]
    exact Heap.get?_push_of_some _ e
  obtain ⟨H3, eH3⟩ : ∃ H3, upd H2 D (.lst []) = H3 := ⟨_, rfl⟩
  have I3 : Inv X pins σ H3 s3 := by
    subst eH3 h3
    exact I2.laid (t' := s2.toks) (fun b o e => Heap.get?_push_of_some _ e) (Nat.le_of_eq hD) ⟨Nat.zero_le _, [], 0, .nil, by rw [← hD]; exact Heap.get?_push_size _ rfl⟩
  have out3 : ∀ b ∈ fp, FpOk X pins H3 b ∧ b < s3.heap.objs.size := fun b hb => by
    obtain ⟨o, e, _⟩ := T.obj _ _ t2 b hb
    refine ⟨⟨?_, (out2 b hb).2⟩, Heap.lt_size (k3 b o e)⟩
    rw [← eH3, upd_ne (by rw [← hD]; exact Nat.ne_of_lt (Heap.lt_size e))]
    exact (out2 b hb).1
  have t3 := T.keep _ _ _ t2 fun b _ o e => k3 b o e
  have I4 := startH (p := p) I3 mem ok nd out3
  have PG4 := hg p s3 H3 s3.heap.objs.size (cellsFrom (s3.heap.objs.size + 1) scope.names (cloFrom X.env.cells scope.names [])) fp hot
  have PE4 := he p s3 H3 s3.heap.objs.size (cellsFrom (s3.heap.objs.size + 1) scope.names (cloFrom X.env.cells scope.names [])) fp hot
  obtain ⟨ce, hce⟩ : ∃ ce, compEnvC scope (cellsFrom (s3.heap.objs.size + 1) scope.names (cloFrom X.env.cells scope.names [])) s3.heap.objs.size X.env = ce := ⟨_, rfl⟩
  have at_ : ce.locals = s3.heap.objs.size := by rw [← hce]; rfl
  obtain ⟨s4, h4⟩ : ∃ s4 : Shared, { s3 with heap := pushCells (s3.heap.push { cls := .type "dict", data := .dict #[] }) scope.names } = s4 := ⟨_, rfl⟩
  have t4 : tn 0 s4.heap := T.keep _ _ _ t3 fun b _ o e => by
    rw [← h4]
    exact pushCells_keeps _ _ _ _ (Heap.get?_push_of_some _ e)
  rw [h3]
  show codeAny _ _ (.compStart (.ListComp elt [⟨tg, iter, [], 0⟩] scope pos) 0 (.ref it) (.ref s2.heap.objs.size) (compEnvC scope (cellsFrom (s3.heap.objs.size + 1) scope.names (cloFrom X.env.cells scope.names [])) s3.heap.objs.size X.env)) (compPost _ _ _ none _ (.ref s2.heap.objs.size) s3.heap.objs.size) { s3 with heap := pushCells (s3.heap.push { cls := .type "dict", data := .dict #[] }) scope.names }
  rw [hce] at I4 PG4 PE4 ⊢
  rw [h4] at I4 ⊢
  rw [hD]
  rw [eH3] at w0
  have hcb : HotC (blkH X p s3 H3 scope ce fp) := ⟨p, hot, List.Mem.head _⟩
  have stat : ∀ {τ : L2.St} {H' : Hp} {t : Shared}, Inv (blkH X p s3 H3 scope ce fp) [] τ H' t → (∀ b ∈ fp, H' b = none) → ∀ b ∈ fp, FpOk (blkH X p s3 H3 scope ce fp) [] H' b := by
    intro τ H' t I' hn b hb
    refine ⟨hn b hb, (I'.ok.exf b hb).1, I'.ok.exfs b hb, .inl hb, fun x c e => (I'.ok.exf b hb).2 x c e, fun z hz => ?_⟩
    have : z = p := by simpa using hz
    rw [this]
    exact (out3 b hb).1.2.2.2.2.2 p (List.mem_append_left _ mem)
  suffices loop : codeAny (model X.prog X.w) X.A (.compLoop (.ListComp elt [⟨tg, iter, [], 0⟩] scope pos) 0 (.ref it) (.ref D) ce) (compPost (model X.prog X.w) X.A X.xe none (EP X pins σ Q) (.ref D) s3.heap.objs.size) s4 from
    codeAny_compStart_list loop (T.self X.A 0 _ _ _ t4 loop)
  apply compLoop_any (Mid X p s3 H3 scope ce fp (wipe σ (own.map (·.2))) tn W) ?_ n0 ⟨0, H3, I4, t4, fun b hb => (out3 b hb).1.1, w0⟩
  rintro n t ⟨i, H5, I5, t5, free5, w5⟩
  rcases turns i n H5 w5 with ⟨stop, q5⟩ | ⟨go, Nx, fewer, step⟩
  · apply thn (T.done (blkH X p s3 H3 scope ce fp) rfl rfl rfl hcb i [] t _ H5 _ I5 (stat I5 free5) t5 stop)
    rintro r s6 ⟨rfl, I6⟩
    have own6 := ownerH I3 (fun b hb => (out3 b hb).1) I6
    have gone : H5 s3.heap.objs.size = none := by
      rw [← at_]
      exact I6.free
    obtain ⟨m, ns, _⟩ := I6.loc
    refine ⟨m, by rw [← at_]; exact ns, fun h' same => ?_⟩
    obtain ⟨_, a, _, b, c, d⟩ := I3.fpOk (Nat.le_refl _) gone
    exact ⟨.ref D, H5, own6.turned (t' := s6.toks) (fun b o hb e => (same.2 b hb).trans e) gone a b c d, rfl, q5⟩
  · apply thn (T.item (blkH X p s3 H3 scope ce fp) rfl rfl rfl hcb i [] t _ H5 _ I5 (stat I5 free5) t5 go)
    rintro r s6 ⟨u, rfl, rest⟩
    apply thn rest
    rintro _ s7 ⟨x, H7, I7, rx, y7, t7, free7⟩
    have pinned := I7.pinned (stat I7 free7) (T.obj _ _ t7)
    apply thnF (PG4.run _ s7 _ H7 x u _ pinned rx (step x H7 y7))
    rintro _ s8 ⟨σ8, H8, I8, same8, q8⟩
    apply wpAny_tests_nil
    show wpAny _ _ (eval elt ce) _ _ _
    apply thnF (PE4.run _ s8 σ8 H8 _ I8 q8)
    rintro z s9 ⟨y, H9, I9, ry, acc, hD9, small, nx⟩
    refine app_ok (X := blkH X p s3 H3 scope ce fp) I9 hD9 small ry fun sA IA => ?_
    obtain ⟨m, less, w'⟩ := fewer _ nx
    have fix : ∀ b ∈ fp, ∀ o, s7.heap.get? b = some o → sA.heap.get? b = some o ∧ upd H9 D (.lst (acc ++ [y])) b = none := fun b hb o e => by
      have := IA.pin (b, o) (List.mem_append_right _ (List.mem_append_right _ (mem_pinsAt hb e)))
      exact ⟨this.1, this.2.1⟩
    refine ⟨m, less, i + 1, _, (IA.unpinned (pins := [])).weak ?_ fun j v e => ?_, T.keep _ _ _ t7 fun b hb o e => (fix b hb o e).1, fun b hb => ?_, w'⟩
    · rw [← same8, wipe_length]
    · rw [← same8] at e
      exact (wipe_some e).1
    · obtain ⟨o, e, _⟩ := T.obj _ _ t7 b hb
      exact (fix b hb o e).2
end
end Hl

/-! exceptions whose context is None: the words for defs that raise -/
namespace L2
open PySem PySem.Spec PyProof.Rows
section
variable {P : Program} {w : World} {K : PySem.W.Frag} {mg : Str → Option Value} {base : Heap}
theorem Fun.okN {x qual : Str} {st : Stmt} {f : Addr} {fd : FuncData} {N ps : List Str} {k : Nat} {sp : Sp} (F : Fun K x qual st f fd) (S : FnScope N ps (defScope st)) (len : ∀ vs H Q E, sp vs H Q E → vs.length = ps.length)
    (body : ∀ (cdv : Value) (A : Around) (outer : List Env) (s : Shared) (H : Hp) (vs : List V) (Q : VK) (E : XK), Room k (A.deeper (envOfC qual (defScope st) s.heap.objs.size f cdv)) → sp vs H Q E →
      ∃ t, PSs (cxOf (L2N.CX P w) P w K mg base N qual (defScope st) f cdv A outer s H E) (defBody st) t ∧ t { nx := fun _ H' => Q .non H', rt := Q } (start N vs) H) : FnOk P w K mg base (L2N.CX P w) (k + 1) f fd ps sp := by
  obtain ⟨_, _, _, _, _, _, cdv, _, _, rfl, look, code⟩ := F.ex
  exact fn_of look code S len (body cdv)
end
end L2
namespace Nn
open PySem PySem.Spec PyProof PyProof.Rows L2 Z
/-- what is told of a context is forgotten -/
theorem cx_imp {P : Program} {w : World} {outer : List Env} {H : Hp} {s s' : Shared} {E : XK} {u : Value} (x : L2N.CX P w outer H s E u s') : L2.CX P w outer H s E u s' := by
  obtain ⟨a, B, H', cls, d, e, fl, rest⟩ := x
  exact ⟨a, B, H', cls, d, e, L2H.flyingZ_imp (fun _ z => L2N.Zn.zc z) fl, rest⟩
theorem toL {P : Program} {w : World} {K : PySem.W.Frag} {mg : Str → Option Value} {base : Heap} {k : Nat} {f : Addr} {fd : FuncData} {ps : List Str} {sp : Sp} (F : FnOk P w K mg base (L2N.CX P w) k f fd ps sp) : FnOk P w K mg base (L2.CX P w) k f fd ps sp := by
  refine ⟨F.len, fun A outer s H args us vs Q E hr e0 hb r h => codeAny_mono (F.run A outer s H args us vs Q E hr e0 hb r h) fun res t q => ?_⟩
  cases res with
  | error e => exact cx_imp q
  | ok fl =>
    cases fl with
    | ret u => exact q
    | next => exact q
    | brk => exact q
    | cont => exact q
theorem passL {X : Cx} : Passes (L2N.CX X.prog X.w) X E0 := by
  intro _ _ _ _ _ _ _ h
  obtain ⟨_, _, _, _, _, _, _, _, _, _, _, _, z⟩ := h
  exact z.elim
theorem pmk {X : Cx} {C : Addr} {x m : Str} {j : Nat} {p p2 pos : Pos} (E : ExcX X.K X.mg x C) (hg : Gl X x) (hdb : (x == ("__debug__" : Str)) = false := by decide) :
    L2N.PMk X (.Call (.Name x p) [.Constant (.str m) j p2] [] pos) (fun _ H Q => Q (.ref C) none H) := L2N.pmk_own PySem.F.excBase_ValueError E.q E.g E.k (raises_own E.c.hs E.t) hg hdb
/-- a statement that is not come to -/
theorem ps_never {X : Cx} {st : Stmt} : PS X st (fun _ _ _ => False) := ⟨fun _ _ _ _ _ _ h => h.elim⟩
theorem passA {X : Cx} (σ : L2.St) : PassesAt (L2.CX X.prog X.w) X σ E0 := by
  intro _ _ _ _ _ _ h
  obtain ⟨_, _, _, _, _, _, _, _, _, _, _, _, z⟩ := h
  exact z.elim
theorem okH {P : Program} {w : World} {K : PySem.W.Frag} {mg : Str → Option Value} {base : Heap} {x qual : Str} {st : Stmt} {f : Addr} {fd : FuncData} {N ps : List Str} {k : Nat} {sp : Sp} (F : Fun K x qual st f fd) (S : FnScope N ps (defScope st)) (len : ∀ vs H Q E, sp vs H Q E → vs.length = ps.length)
    (body : ∀ (cdv : Value) (A : Around) (outer : List Env) (s : Shared) (H : Hp) (vs : List V) (Q : VK) (E : XK) (p : Addr × Obj), L2H.Hot1 A p → L2H.RoomH k (A.deeper (envOfC qual (defScope st) s.heap.objs.size f cdv)) → sp vs H Q E →
      ∃ t, PSs (L2H.cxH (L2.CX P w) P w K mg base N qual (defScope st) f cdv A outer s H E p) (defBody st) t ∧ t { nx := fun _ H' => Q .non H', rt := Q } (start N vs) H) : L2H.FnH P w K mg base (L2.CX P w) (k + 1) f fd ps sp := by
  obtain ⟨_, _, _, _, _, _, cdv, _, _, rfl, look, code⟩ := F.ex
  exact L2H.fn_ofH look code S len (body cdv)
theorem hotB {CX : CXT} {P : Program} {w : World} {K : PySem.W.Frag} {mg : Str → Option Value} {base : Heap} {N : List Str} {qual : Str} {scope : Scope} {f : Addr} {cd : Value} {A : Around} {outer : List Env} {s : Shared} {H : Hp} {E : XK} {p : Addr × Obj} (h : L2H.Hot1 A p) :
    L2H.HotC (L2H.cxH CX P w K mg base N qual scope f cd A outer s H E p) := ⟨p, h, List.Mem.head _⟩
theorem hotK {X : Cx} {p : Addr × Obj} {s : Shared} {H : Hp} {scope : Scope} {ce : Env} {fp : List Addr} (h : L2H.Hot1 X.A p) : L2H.HotC (Hl.blkH X p s H scope ce fp) := ⟨p, h, List.Mem.head _⟩
theorem z_methHE {C : Addr} {m : Str} {sp : Sp} {E : L2.St → XK} {ta : TE} {t : TA} {σ : L2.St} {H : Hp} {Q : VK} (h : ta σ H (Cw.QMeth C m σ t fun vs H2 => sp vs H2 Q (E σ))) : L2H.tMethH C m sp E ta t σ H Q := by
  have e : (Cw.QMeth C m σ t fun vs H2 => sp vs H2 Q (E σ)) = fun x H1 => ∃ a dx fs, x = V.ref a ∧ H1 a = some (.ins C dx fs) ∧ fs.lookup m = none ∧ t σ H1 fun vs H2 => sp (x :: vs) H2 Q (E σ) := by
    funext x H1
    refine propext ⟨?_, ?_⟩
    · rintro ⟨a, dx, fs, rfl, r⟩
      exact ⟨a, dx, fs, rfl, r⟩
    · rintro ⟨a, dx, fs, rfl, r⟩
      exact ⟨a, dx, fs, rfl, r⟩
  rw [e] at h
  exact h
theorem unitsH {k : Nat} {A : Around} (r : L2H.RoomH k A) : A.units + 64 < cLine := by have := r.un; omega
end Nn

/-! {**a, **b} -/
namespace Dm
open PySem PySem.Spec PyProof.Rows
section
variable {prog : Program} {w : World} {K : Type} [DecidableEq K] {knd : KeyKind prog w K} {A : Around} {E : Value → Shared → Prop} {s : Shared}
theorem put_pairs {d : Addr} {kvs : List (K × Value)} {k : K} {key v : Value} {Q : Unit → Shared → Prop} (hkey : knd.is k key = true) (hm : s.heap.DictOf knd d kvs)
    (hQ : ∀ h', h'.DictOf knd d (stored kvs k v) → Heap.SameBut d s.heap h' → Q () { s with heap := h' })
    (hsz : kvs.length ≤ sizeLine) :
    wpAny (model prog w) A (dictPut d (knd.hash k) key v) Q E s := by
  obtain ⟨o, es, ep, ho, hc, hd, hk, hp, hn⟩ := hm
  have hes : es.size ≤ sizeLine := by
    have e1 := hp.length
    have e2 : es.toList.length = es.size := by simp
    omega
  unfold dictPut
  refine wpAny_bind (wpAny_dictFind_of hkey ho hd hk ?_)
  have hidx : (es.findIdx? fun e => knd.is k e.key) = kvs.findIdx? fun kv => decide (kv.1 = k) := by
    rw [← hp.findIdx k]; obtain ⟨l⟩ := es; simp
  cases hi : es.findIdx? fun e => knd.is k e.key with
  | some i =>
    refine wpAny_updateDict ho hd (hQ _ ⟨_, _, ep, Heap.get?_update_self _ ho (Obj.isFreed_of_dict (Obj.data_mapDict hd _)),
      hc.mapDict _, Obj.data_mapDict hd _, hk.modify _ _, ?_, ?_⟩ (Heap.SameBut.update ..))
    · rw [stored, if_pos (any_of_findIdx_some (hidx ▸ hi))]
      have hl : (es.toList.findIdx? fun e => knd.is k e.key) = some i := by rw [← hi]; obtain ⟨l⟩ := es; simp
      have := hp.modify hn hl v
      obtain ⟨l⟩ := es
      simpa using this
    · rw [stored, if_pos (any_of_findIdx_some (hidx ▸ hi)), keys_map_store]; exact hn
  | none =>
    have hnot : k ∉ kvs.map (·.1) := not_mem_of_findIdx_none (hidx ▸ hi)
    have hany : ¬ (kvs.any fun kv => decide (kv.1 = k)) = true := by
      rw [List.any_eq_true]; rintro ⟨kv, hkv, he⟩
      exact hnot (List.mem_map.mpr ⟨kv, hkv, of_decide_eq_true he⟩)
    refine wpAny_updateDictKeys (hz := hes) ho hd (hQ _ ⟨_, _, ep + 1, Heap.get?_update_self _ ho (Obj.isFreed_of_dict (Obj.data_mapDictKeys hd _)),
      hc.mapDictKeys _, Obj.data_mapDictKeys hd _, hk.push hkey _, ?_, ?_⟩ (Heap.SameBut.update ..))
    · rw [stored, if_neg hany]
      have := hp.append hkey (knd.hash k) v
      obtain ⟨l⟩ := es
      simpa using this
    · rw [stored, if_neg hany, List.map_append, List.nodup_append]
      refine ⟨hn, by simp, ?_⟩
      intro x hx y hy
      simp only [List.map_cons, List.map_nil, List.mem_singleton] at hy
      subst hy
      exact fun e => hnot (e ▸ hx)
theorem pairs_at : ∀ {es : List DictEntry} {kvs : List (K × Value)} {i : Nat} {e : DictEntry}, Pairs knd es kvs → es[i]? = some e → ∃ k, kvs[i]? = some (k, e.val) ∧ knd.is k e.key = true
  | _, _, _, _, .nil, h => by cases h
  | _, _, 0, _, .cons h1 h2 _, h => by
    cases h
    exact ⟨_, by rw [List.getElem?_cons_zero, h2], h1⟩
  | _, _, i + 1, _, .cons _ _ t, h => by
    obtain ⟨k, h1, h2⟩ := pairs_at (i := i) t (by simpa using h)
    exact ⟨k, by simpa using h1, h2⟩
theorem merge_pairs {d a : Addr} {kvs more : List (K × Value)} {Q : Unit → Shared → Prop} (hda : d ≠ a) (haS : (a == sysModules) = false)
    (hm : s.heap.DictOf knd d kvs) (ha : s.heap.DictOf knd a more) (hsz : kvs.length + more.length ≤ sizeLine)
    (hQ : ∀ h', h'.DictOf knd d (merged kvs more) → Heap.SameBut d s.heap h' → Q () { s with heap := h' }) :
    wpAny (model prog w) A (mergeMapping d (.ref a) false) Q E s := by
  have hT := ha.typeIs
  obtain ⟨o, es, ep, ho, hc, hd, hk, hp, hn⟩ := id hm
  obtain ⟨oa, esa, epa, hoa, hca, hdata, hka, hpa, hna⟩ := id ha
  have hlen : esa.size = more.length := by
    have e1 := hpa.length
    have e2 : esa.toList.length = esa.size := by simp
    omega
  unfold mergeMapping
  refine wpAny_bind (wpAny_isInstance hT isSubtype_dict_dict ?_)
  rw [if_pos rfl]
  refine wpAny_bind (wpAny_specialOf hT F.slot_dict_iter.lookup ?_)
  simp only [beq_self_eq_true, pure_bind]
  rw [if_neg (by rw [haS]; exact Bool.false_ne_true)]
  refine wpAny_bind (wpAny_dictEntries ho hd ?_)
  have loop : wpAny (model prog w) A (do
      let l ← dictEntries a
      let epoch ← dictEpoch a
      forIn (List.range l.size) PUnit.unit fun i (_ : PUnit) => (do
          let l' ← dictEntries a
          match l'[i]? with
            | some e => do
              holding [e.key, e.val] (if false = true then do
                  let x ← dictFind d e.key e.hash
                  if x.isSome = true then do
                      rule "dict.merge.duplicate-key"
                      let y ← newExc (Value.type "KeyError") [e.key]
                      let r ← raiseNew y
                      (fun (_ : Unit) => dictPut d e.hash e.key e.val) r
                    else (fun (_ : Unit) => dictPut d e.hash e.key e.val) ()
                else (fun (_ : Unit) => dictPut d e.hash e.key e.val) ())
              let ep' ← dictEpoch a
              if (ep' != epoch) = true then do
                  (unsupported "dict.changed-during-merge" : Sem PUnit)
                  pure (ForInStep.yield PUnit.unit)
                else pure (ForInStep.yield PUnit.unit)
            | _ => do
              (unsupported "dict.changed-during-merge" : Sem PUnit)
              pure (ForInStep.yield PUnit.unit) : Sem (ForInStep PUnit))
      pure ()) Q E s := by
    refine wpAny_bind (wpAny_dictEntries hoa hdata ?_)
    refine wpAny_bind (wpAny_dictEpoch hoa hdata ?_)
    refine wpAny_bind ?_
    rw [List.range_eq_range']
    refine wpAny_forIn_list _
      (fun rest _ s' => ∃ h' i, s' = { s with heap := h' } ∧ rest = List.range' i (esa.size - i) ∧ i ≤ esa.size ∧ h'.DictOf knd d (merged kvs (more.take i)) ∧ h'.get? a = some oa ∧ Heap.SameBut d s.heap h')
      _ ?_ ?_ _ _ ⟨s.heap, 0, rfl, by simp, Nat.zero_le _, by simpa [merged] using hm, hoa, Heap.SameBut.refl _ _⟩
    · rintro x rest b s' ⟨h', i, rfl, hr, hi, hd', hoa', hs'⟩
      have hlt : i < esa.size := by
        rcases Nat.lt_or_ge i esa.size with h | h
        · exact h
        · rw [Nat.sub_eq_zero_of_le h] at hr; simp at hr
      obtain ⟨rfl, hrest⟩ : x = i ∧ rest = List.range' (i + 1) (esa.size - (i + 1)) := by
        have e : esa.size - i = (esa.size - (i + 1)) + 1 := by omega
        rw [e, List.range'_succ] at hr
        injection hr with h1 h2
        exact ⟨h1, h2⟩
      refine wpAny_bind (wpAny_dictEntries hoa' hdata ?_)
      have he : esa[x]? = some esa[x] := Array.getElem?_eq_getElem hlt
      obtain ⟨k, hk1, hk2⟩ := pairs_at (i := x) (e := esa[x]) hpa (by rw [Array.getElem?_toList]; exact he)
      obtain ⟨k', hk3, hk4⟩ := hka esa[x] (Array.getElem_mem hlt)
      obtain rfl : k = k' := knd.inj _ _ _ hk2 hk3
      rw [he]
      dsimp only
      rw [if_neg (by decide)]
      have hmx : (merged kvs (more.take x)).length ≤ sizeLine := by
        have e1 := merged_length_le kvs (more.take x)
        have e2 : (more.take x).length ≤ more.length := by rw [List.length_take]; omega
        omega
      rw [hk4]
      refine wpAny_bind (wpAny_holding (put_pairs (s := { s with heap := h' }) hk2 hd' (fun h'' hd'' hs'' => ?_) hmx))
      have hoa'' : h''.get? a = some oa := (hs''.2 a (Ne.symm hda)).trans hoa'
      refine wpAny_bind (wpAny_dictEpoch hoa'' hdata ?_)
      rw [if_neg (by simp)]
      exact wpAny_pure ⟨h'', x + 1, rfl, hrest, hlt, by rw [merged_take_succ kvs more x _ hk1]; exact hd'', hoa'', hs'.trans hs''⟩
    · rintro b s' ⟨h', i, rfl, hr, hi, hd', hoa', hs'⟩
      have hin : i = esa.size := by
        rcases Nat.lt_or_ge i esa.size with h | h
        · have e : esa.size - i = (esa.size - (i + 1)) + 1 := by omega
          rw [e, List.range'_succ] at hr; exact nomatch hr
        · exact Nat.le_antisymm hi h
      refine wpAny_pure (hQ h' ?_ hs')
      rw [hin, hlen, List.take_length] at hd'; exact hd'
  split
  · refine wpAny_bind (wpAny_dictEntries hoa hdata ?_)
    refine wpAny_bind ?_
    rw [← Array.forIn_toList]
    refine wpAny_forIn_list _ (fun rest _ s' => s' = s ∧ ∀ e ∈ rest, e ∈ esa) _ ?_ ?_ _ _ ⟨rfl, fun e h => by simpa using h⟩
    · rintro e rest b s' ⟨rfl, hr⟩
      obtain ⟨k, hk3, _⟩ := hka e (hr e (.head _))
      have hv := knd.byValue k e.key hk3
      have nr : ∀ b, e.key ≠ .ref b := fun b z => by rw [z] at hv; exact Bool.noConfusion (show false = true from hv)
      split
      · rename_i b z
        exact absurd z (nr b)
      · exact wpAny_pure ⟨rfl, fun e h => hr e (.tail _ h)⟩
    · rintro b s' ⟨rfl, _⟩
      exact loop
  · exact loop
end
end Dm

namespace Dm
open PySem PySem.Spec PyProof.Rows L2
def tMrg2 (ta tb : TE) : TE := fun σ H Q => ∀ p, H p = none → ta σ (upd H p (.dK [])) fun x H1 => ∃ a kvs, x = .ref a ∧ H1 a = some (.dK kvs) ∧ a ≠ p ∧ H1 p = some (.dK []) ∧ kvs.length ≤ 1000 ∧
  tb σ (upd H1 p (.dK (mergeK [] kvs))) fun y H2 => ∃ b more, y = .ref b ∧ H2 b = some (.dK more) ∧ b ≠ p ∧ H2 p = some (.dK (mergeK [] kvs)) ∧ more.length ≤ 1000 ∧ Q (.ref p) (upd H2 p (.dK (mergeK (mergeK [] kvs) more)))
section
variable {X : Cx} {pins : List (Addr × Obj)} {σ : L2.St} {H : Hp} {s : Shared}
theorem d_merge {p a : Addr} {kvs more : List (Key × V)} {A : Around} {E : Value → Shared → Prop} {Q : Unit → Shared → Prop} (I : Inv X pins σ H s) (hp : H p = some (.dK kvs)) (ha : H a = some (.dK more)) (hne : a ≠ p) (hl : kvs.length + more.length ≤ 3000)
    (h : ∀ s', Inv X pins σ (upd H p (.dK (mergeK kvs more))) s' → Q () s') : wpAny (model X.prog X.w) A (mergeMapping p (.ref a) false) Q E s := by
  obtain ⟨z, hd, vs, rel, dd⟩ := dk_of I.hok hp
  obtain ⟨z2, hd2, vs2, rel2, dd2⟩ := dk_of I.hok ha
  refine merge_pairs (Ne.symm hne) hd2 dd dd2 (by rw [← rel.length, ← rel2.length, sizeLine_eq]; omega) fun h' dd' hs => h _ ?_
  have he : ∃ q, h'.get? p = some q := let ⟨q, _, _, hq, _⟩ := dd'; ⟨q, hq⟩
  have hz : (mergeK kvs more).length ≤ sizeLine := by
    have h1 := length_mergeK more kvs
    rw [sizeLine_eq]; omega
  exact d_write (t' := s.toks) I (by rw [hp]; exact True.intro) hs he (dk_new hz hd (rel2.merge rel) dd')
theorem pe_mrg2 {e1 e2 : Expr} {ta tb : TE} {pos : Pos} (h1 : PE X e1 ta) (h2 : PE X e2 tb) : PE X (.Dict [none, none] [e1, e2] pos) (tMrg2 ta tb) := by
  refine ⟨fun pins s σ H Q I q => ?_⟩
  have hn := I.hok.fresh (Nat.le_refl s.heap.objs.size)
  have I1 := I.laid (a := s.heap.objs.size) (o := .dK []) (h' := s.heap.push { cls := .type "dict", data := .dict #[] }) (t' := s.toks) (fun _ _ q => Heap.get?_push_of_some _ q) (Nat.le_refl _) (dk_empty s.heap I.big)
  rw [arm_eval_Dict]
  refine wpAny_bind (wpAny_standAt ?_)
  show wpAny _ _ (dictDisplay [(none, do let x ← eval e1 X.env; standAt pos; pure x), (none, do let x ← eval e2 X.env; standAt pos; pure x)]) _ _ _
  unfold dictDisplay
  simp only [List.forIn_cons, List.forIn_nil, List.isEmpty_nil, if_true, pure_bind, bind_assoc]
  refine wpAny_bind (wpAny_alloc ?_)
  refine wpAny_bind (wpAny_holding (wpAny_bind (thn (h1.run pins _ σ _ _ I1 (q _ hn)) fun u s2 ⟨x, H1, I2, rx, a, kvs, ex, hka, hne, hkp, hl1, q2⟩ => ?_)))
  subst ex
  obtain rfl : u = Value.ref a := rx
  refine wpAny_bind (wpAny_standAt (wpAny_pure ?_))
  refine wpAny_bind (wpAny_onRaise (wpAny_tryCatch (wpAny_onRaise (wpAny_holding (d_merge I2 hkp hka hne (by rw [List.length_nil]; omega) fun s3 I3 => ?_)))))
  refine wpAny_bind (wpAny_holding (wpAny_bind (thn (h2.run pins _ σ _ _ I3 q2) fun u s2 ⟨x, H2, I4, rx, b, more, ex, hkb, hnb, hkp2, hl2, q3⟩ => ?_)))
  subst ex
  obtain rfl : u = Value.ref b := rx
  refine wpAny_bind (wpAny_standAt (wpAny_pure ?_))
  have l0 := length_mergeK kvs []
  rw [List.length_nil] at l0
  refine wpAny_bind (wpAny_onRaise (wpAny_tryCatch (wpAny_onRaise (wpAny_holding (d_merge I4 hkp2 hkb hnb (by omega) fun s5 I5 => ?_)))))
  exact wpAny_pure ⟨.ref s.heap.objs.size, _, I5, rfl, q3⟩
/-- one of two readings -/
def tOr2 (t u : TE) : TE := fun σ H Q => t σ H Q ∨ u σ H Q
theorem pe_or2 {e : Expr} {t u : TE} (h : PE X e t) (k : PE X e u) : PE X e (tOr2 t u) := ⟨fun pins s σ H Q I q => q.elim (h.run pins s σ H Q I) (k.run pins s σ H Q I)⟩
/-- sorted(d): the keys, ascending -/
def rSortD : List V → Hp → VK → Prop := fun xs H Q => ∃ (a : Addr) (kvs : List (Key × V)) (ks : List Int), xs = [.ref a] ∧ Rd H a (.dK kvs) ∧ kvs.map (·.1) = ks.map Sum.inl ∧ ks.length < 64 ∧
    ∀ (ys : List Int) (p : Addr), ys.Perm ks → ys.Pairwise (· ≤ ·) → H p = none → Q (.ref p) (upd H p (.lst (ys.map V.int)))
theorem cr_sortD (hc : X.calm = true) : CallR X (.builtin "sorted") rSortD := call_sortedDI hc
end
end Dm


/-! dict(t) of a tuple of pairs; {**a, **b}; plain tuples -/
namespace Dm
open PySem PySem.Spec PyProof.Rows L2 Z

/-- a tuple of which it is known that it has no dict of its own -/
def PlT (H : Hp) (a : Addr) (xs : List V) : Prop := ∃ o : Obj, H a = some (.frz o (.tup xs)) ∧ o.cls = .type "tuple" ∧ o.dict = none
theorem PlT.sq {K : PySem.W.Frag} {H : Hp} {a : Addr} {xs : List V} (h : PlT H a xs) : SqT K H a xs := by
  obtain ⟨o, e, _⟩ := h
  exact .inl (.inr ⟨o, e⟩)
theorem PlT.mono {H H' : Hp} {a : Addr} {xs : List V} (s : Same H H') (h : PlT H a xs) : PlT H' a xs := by
  obtain ⟨o, e, r⟩ := h
  exact ⟨o, s _ _ e, r⟩
theorem PlT.kp {H H' : Hp} {a p : Addr} {xs ys : List V} (k : Kp p H H') (hp : H p = some (.lst ys)) (h : PlT H a xs) : PlT H' a xs := by
  obtain ⟨o, e, r⟩ := h
  refine ⟨o, k _ _ (fun z => ?_) e, r⟩
  subst z
  rw [e] at hp
  cases hp
theorem PlT.ne {H : Hp} {a p : Addr} {xs : List V} {o : HO} (h : PlT H a xs) (hp : H p = some o) (ho : ∀ ob u, o ≠ .frz ob u) : a ≠ p := by
  obtain ⟨ob, e, _⟩ := h
  intro z
  subst z
  rw [e] at hp
  exact ho _ _ (Option.some.inj hp).symm
abbrev NewF (Q : VK) : List V → Hp → Prop := fun xs H1 => xs.length ≤ sizeLine ∧ ∀ (p : Addr) (o : Obj), H1 p = none → o.cls = .type "tuple" → o.dict = none → Q (.ref p) (upd H1 p (.frz o (.tup xs)))
def tTupF (t : TA) : TE := fun σ H Q => t σ H (NewF Q)
section
variable {X : Cx} {es : List Expr} {t : TA} {pos : Pos}
theorem pe_tupF {x1} (h : PA X es t) : PE X (.Tuple es x1 pos) (tTupF t) := by
  refine ⟨fun pins s σ H Q I hq => ?_⟩
  refine wpAny_Tuple_spliced (thn (h.run pos pins s σ H _ I hq) fun us s1 ⟨xs, H1, I1, r, z, q⟩ => ⟨by rw [← r.length]; exact z, ?_⟩)
  have hf : H1 s1.heap.objs.size = none := I1.hok.fresh (Nat.le_refl _)
  refine ⟨.ref s1.heap.objs.size, upd H1 s1.heap.objs.size (.frz { cls := .type "tuple", data := .seq us.toArray } (.tup xs)), I1.laid (t' := s1.toks) (fun b u e => Heap.get?_push_of_some _ e) (Nat.le_refl _) ?_, rfl, q _ _ hf rfl rfl⟩
  exact ⟨Heap.get?_push_size _ rfl, z, us, r, ⟨_, Heap.get?_push_size _ rfl, rfl, _, rfl⟩⟩
end
def rTupOfF (K : PySem.W.Frag) : List V → Hp → VK → Prop := fun xs H Q => ∃ p ys, xs = [.ref p] ∧ SqL K H p ys ∧ ∀ (l : Addr) (o : Obj), H l = none → o.cls = .type "tuple" → o.dict = none → Q (.ref l) (upd H l (.frz o (.tup ys)))
theorem c_tupOfF {X : Cx} : CallR X (.type "tuple") (rTupOfF X.K) := by
  intro pins s σ H xs us Q I r h
  obtain ⟨p, ys, rfl, hq, q⟩ := h
  obtain ⟨u, rfl, rx⟩ := vals1 r
  cases rx
  obtain ⟨its, r', pl, hz⟩ := I.list hq
  have hlen := r'.length
  refine call_tuple_list pl.isList (fun h' kp => ?_) (by simp only [List.size_toArray] <;> omega)
  have I1 : Inv X pins σ H { s with heap := h' } := I.kept (t' := s.toks) kp
  have I2 : Inv X pins σ (upd H h'.objs.size (.frz { cls := .type "tuple", data := .seq its.toArray } (.tup ys))) { s with heap := h'.push { cls := .type "tuple", data := .seq its.toArray } } :=
    I1.laid (t' := s.toks) (fun b o e => Heap.get?_push_of_some _ e) (Nat.le_refl _) (show ObjOk X.prog X.w _ _ _ (.frz { cls := .type "tuple", data := .seq its.toArray } (.tup ys)) from ⟨Heap.get?_push_size _ rfl, hz, its, r', IsTup.new _ _⟩)
  exact ⟨.ref h'.objs.size, _, I2, rfl, q _ _ (I1.hok.fresh (Nat.le_refl _)) rfl rfl⟩

/-! ### dict(t) -/
def rDictT (K : PySem.W.Frag) : List V → Hp → VK → Prop := fun xs H Q => ∃ (a : Addr) (ps : List Addr) (kvs : List (Key × V)), xs = [.ref a] ∧ PlT H a (ps.map V.ref) ∧ Paired (fun p kv => SqT K H p [kV kv.1, kv.2]) ps kvs ∧
    ∀ p, H p = none → Q (.ref p) (upd H p (.dK (mergeK [] kvs)))
theorem call_dictT {X : Cx} (hcalm : X.calm = true) : CallR X (.type "dict") (rDictT X.K) := by
  intro pins s σ H xs us Q I r q
  obtain ⟨a, ps, kvs, ex, ⟨o, hq, hc, hd⟩, hp, q⟩ := q
  subst ex
  obtain ⟨u, eu, rx⟩ := vals1 r
  subst eu
  cases rx
  obtain ⟨ho, hz, its, rv, o', ho', hc', n, hdat⟩ := (show ObjOk X.prog X.w H s.heap a (.frz o (.tup (ps.map V.ref))) from I.hok a _ hq)
  rw [ho] at ho'
  cases ho'
  have ei := refs_at rv
  subst ei
  rw [List.length_map] at hz
  obtain ⟨prs, rel, hl, hpr⟩ := pairs_of I hp
  -- the pairs by their keys' values
  have hval : ∀ j, j < prs.length → ∃ b u y, ps[j]? = some b ∧ prs[j]? = some y ∧ IsTup s.heap b #[u, y.2] ∧ keyIs y.1 u = true := fun j hj => by
    obtain ⟨b, u, e1, e2, e3⟩ := hpr j _ (List.getElem?_eq_getElem hj)
    exact ⟨b, u, _, e1, List.getElem?_eq_getElem hj, e2, e3⟩
  let kof : Nat → Value := fun j => if h : j < prs.length then (hval j h).choose_spec.choose else .none
  let vps : List (Value × Value) := (List.range prs.length).map fun j => (kof j, (prs[j]?.map (·.2)).getD .none)
  have hvl : vps.length = prs.length := by simp [vps]
  have hat : ∀ j k v, vps[j]? = some (k, v) → ∃ (b : Addr) (y : Key × Value), ps[j]? = some b ∧ prs[j]? = some y ∧ v = y.2 ∧ IsTup s.heap b #[k, v] ∧ keyIs y.1 k = true := fun j k v e => by
    have hj : j < prs.length := by
      have := (List.getElem?_eq_some_iff.mp e).1
      omega
    have e2 : vps[j]? = some (kof j, (prs[j]?.map (·.2)).getD .none) := by
      simp only [vps, List.getElem?_map, List.getElem?_range hj, Option.map_some]
    rw [e2] at e
    have e := Option.some.inj e
    have hs := (hval j hj).choose_spec.choose_spec
    obtain ⟨y, h1, h2, h3, h4⟩ := hs
    have ek : kof j = (hval j hj).choose_spec.choose := by simp only [kof, hj, dif_pos]
    have e3 : k = kof j := (congrArg Prod.fst e).symm
    have e4 : v = y.2 := by
      have := (congrArg Prod.snd e).symm
      rw [h2] at this
      exact this
    refine ⟨_, y, h1, h2, e4, ?_, ?_⟩
    · rw [e3, ek, e4]
      exact h3
    · rw [e3, ek]
      exact h4
  have P := PairArg.tuple (prog := X.prog) (w := X.w) a (ps.map Value.ref).toArray (fun j => (ps[j]?).getD 0) vps
  refine PySem.call_dict_pairs (knd := mixKind X.prog X.w) (kvs := prs) P (I.ok.hd hcalm) ⟨⟨o, n, ho, hc, hd, hdat⟩, ?_, ?_⟩ ⟨by omega, ?_⟩ (by rw [hvl, hl]; exact hz) fun h' tk hd' k => ?_
  · simp only [List.size_toArray, List.length_map]
    omega
  · intro j k v e
    obtain ⟨b, y, h1, h2, h3, h4, h5⟩ := hat j k v e
    refine ⟨by simp [h1], .inl ?_⟩
    show s.heap.IsTuple ((ps[j]?).getD 0) #[k, v]
    rw [show (ps[j]?).getD 0 = b by rw [h1]; rfl]
    exact h4
  · intro i key v e
    obtain ⟨b, y, h1, h2, h3, h4, h5⟩ := hat i key v e
    exact ⟨y.1, by rw [h2, h3], h5⟩
  · have hm : (s.heap.objs.size == sysModules) = false := beq_eq_false_iff_ne.mpr (Nat.ne_of_gt I.big)
    have hlen : (mergeK [] kvs).length ≤ sizeLine := by
      refine Nat.le_trans (length_mergeK kvs []) ?_
      rw [List.length_nil, Nat.zero_add, rel.length, hl]
      exact hz
    exact ⟨.ref s.heap.objs.size, upd H s.heap.objs.size (.dK (mergeK [] kvs)), I.laid (t' := tk) (fun b o e => k b o (by simp) e) (Nat.le_refl _) (show ObjOk X.prog X.w _ _ _ (.dK (mergeK [] kvs)) from ⟨hlen, hm, merged [] prs, KV.merge rel .nil, hd'⟩), rfl, q _ (I.hok.fresh (Nat.le_refl _))⟩
end Dm

namespace G
open PySem PySem.Spec PyProof.Rows L2 Z
def topS (i : Nat) : Stmt := PySem.Challenge.pw_fontwinding_k09_whole_order_of_equations.main.body.getD i (.Pass ⟨0, 0, 0, 0⟩)
abbrev s_ratio : Stmt := topS 12
abbrev s_add : Stmt := topS 13
abbrev s_subtract : Stmt := topS 14
abbrev s_multiply : Stmt := topS 15
abbrev s_divide : Stmt := topS 16
abbrev s_known_form : Stmt := topS 18
abbrev s_unknown_form : Stmt := topS 19
abbrev s_add_forms : Stmt := topS 20
abbrev s_subtract_forms : Stmt := topS 21
abbrev s_combine_forms : Stmt := topS 22
abbrev s_scale_form : Stmt := topS 23
abbrev s_replace_unknown : Stmt := topS 24
abbrev s_coefficient : Stmt := topS 25
abbrev s_Equations___init__ : Stmt := inClass (topS 29) 0
abbrev s_Equations_new_unknown : Stmt := inClass (topS 29) 1
abbrev s_Equations_kind : Stmt := inClass (topS 29) 3
abbrev s_Equations_form : Stmt := inClass (topS 29) 4
abbrev s_Equations_reduce : Stmt := inClass (topS 29) 5
abbrev s_Equations_equate : Stmt := inClass (topS 29) 6
abbrev s_Equations__forms_with : Stmt := inClass (topS 29) 7
abbrev s__law_cell : Stmt := topS 31
abbrev s__law_stream : Stmt := topS 32
abbrev s__law_next : Stmt := topS 33
abbrev s__law_made : Stmt := topS 40
abbrev s__law_sides : Stmt := topS 41
abbrev s__law_begun : Stmt := topS 43
abbrev s__law_order : Stmt := topS 44
abbrev s__law_states : Stmt := topS 45
abbrev s__law_run : Stmt := topS 46
abbrev s__law_contradicts : Stmt := topS 47
abbrev s__law_too_great : Stmt := topS 48
abbrev s__law_holds_still : Stmt := topS 49
abbrev s_law : Stmt := topS 50
theorem sc_ratio : FnScope ["n", "d", "common", "top", "bottom"] ["n", "d"] (defScope s_ratio) := ⟨rfl, rfl, rfl, by decide +kernel, rfl, by decide +kernel, by decide +kernel⟩
theorem sc_add : FnScope ["a", "b"] ["a", "b"] (defScope s_add) := ⟨rfl, rfl, rfl, by decide +kernel, rfl, by decide +kernel, by decide +kernel⟩
theorem sc_subtract : FnScope ["a", "b"] ["a", "b"] (defScope s_subtract) := ⟨rfl, rfl, rfl, by decide +kernel, rfl, by decide +kernel, by decide +kernel⟩
theorem sc_multiply : FnScope ["a", "b"] ["a", "b"] (defScope s_multiply) := ⟨rfl, rfl, rfl, by decide +kernel, rfl, by decide +kernel, by decide +kernel⟩
theorem sc_divide : FnScope ["a", "b"] ["a", "b"] (defScope s_divide) := ⟨rfl, rfl, rfl, by decide +kernel, rfl, by decide +kernel, by decide +kernel⟩
theorem sc_known_form : FnScope ["number"] ["number"] (defScope s_known_form) := ⟨rfl, rfl, rfl, by decide +kernel, rfl, by decide +kernel, by decide +kernel⟩
theorem sc_unknown_form : FnScope ["unknown"] ["unknown"] (defScope s_unknown_form) := ⟨rfl, rfl, rfl, by decide +kernel, rfl, by decide +kernel, by decide +kernel⟩
theorem sc_add_forms : FnScope ["a", "b"] ["a", "b"] (defScope s_add_forms) := ⟨rfl, rfl, rfl, by decide +kernel, rfl, by decide +kernel, by decide +kernel⟩
theorem sc_subtract_forms : FnScope ["a", "b"] ["a", "b"] (defScope s_subtract_forms) := ⟨rfl, rfl, rfl, by decide +kernel, rfl, by decide +kernel, by decide +kernel⟩
theorem sc_combine_forms : FnScope ["a", "b", "operation", "constant", "left", "right", "terms", "unknown", "number"] ["a", "b", "operation"] (defScope s_combine_forms) := ⟨rfl, rfl, rfl, by decide +kernel, rfl, by decide +kernel, by decide +kernel⟩
theorem sc_scale_form : FnScope ["form", "number", "constant", "terms", "unknown", "factor", "scaled"] ["form", "number"] (defScope s_scale_form) := ⟨rfl, rfl, rfl, by decide +kernel, rfl, by decide +kernel, by decide +kernel⟩
theorem sc_replace_unknown : FnScope ["form", "unknown", "other", "factor", "terms", "term"] ["form", "unknown", "other"] (defScope s_replace_unknown) := ⟨rfl, rfl, rfl, by decide +kernel, rfl, by decide +kernel, by decide +kernel⟩
theorem sc_coefficient : FnScope ["form", "unknown", "at", "factor"] ["form", "unknown"] (defScope s_coefficient) := ⟨rfl, rfl, rfl, by decide +kernel, rfl, by decide +kernel, by decide +kernel⟩
theorem sc_Equations___init__ : FnScope ["self"] ["self"] (defScope s_Equations___init__) := ⟨rfl, rfl, rfl, by decide +kernel, rfl, by decide +kernel, by decide +kernel⟩
theorem sc_Equations_new_unknown : FnScope ["self", "unknown"] ["self"] (defScope s_Equations_new_unknown) := ⟨rfl, rfl, rfl, by decide +kernel, rfl, by decide +kernel, by decide +kernel⟩
theorem sc_Equations_kind : FnScope ["self", "unknown", "form"] ["self", "unknown"] (defScope s_Equations_kind) := ⟨rfl, rfl, rfl, by decide +kernel, rfl, by decide +kernel, by decide +kernel⟩
theorem sc_Equations_form : FnScope ["self", "unknown"] ["self", "unknown"] (defScope s_Equations_form) := ⟨rfl, rfl, rfl, by decide +kernel, rfl, by decide +kernel, by decide +kernel⟩
theorem sc_Equations_reduce : FnScope ["self", "form", "reduced", "unknown", "factor"] ["self", "form"] (defScope s_Equations_reduce) := ⟨rfl, rfl, rfl, by decide +kernel, rfl, by decide +kernel, by decide +kernel⟩
theorem sc_Equations_equate : FnScope ["self", "left", "right", "constant", "terms", "unknown", "factor", "rest"] ["self", "left", "right"] (defScope s_Equations_equate) := ⟨rfl, rfl, rfl, by decide +kernel, rfl, by decide +kernel, by decide +kernel⟩
theorem sc_Equations__forms_with : FnScope ["self", "unknown", "rest", "forms", "at", "form"] ["self", "unknown", "rest"] (defScope s_Equations__forms_with) := ⟨rfl, rfl, rfl, by decide +kernel, rfl, by decide +kernel, by decide +kernel⟩
theorem sc__law_cell : FnScope ["script", "k"] ["script", "k"] (defScope s__law_cell) := ⟨rfl, rfl, rfl, by decide +kernel, rfl, by decide +kernel, by decide +kernel⟩
theorem sc__law_stream : FnScope ["cell"] ["cell"] (defScope s__law_stream) := ⟨rfl, rfl, rfl, by decide +kernel, rfl, by decide +kernel, by decide +kernel⟩
theorem sc__law_next : FnScope ["stream", "size", "drawn", "mixed"] ["stream", "size"] (defScope s__law_next) := ⟨rfl, rfl, rfl, by decide +kernel, rfl, by decide +kernel, by decide +kernel⟩
theorem sc__law_made : FnScope ["factors", "constant", "terms", "unknown"] ["factors", "constant"] (defScope s__law_made) := ⟨rfl, rfl, rfl, by decide +kernel, rfl, by decide +kernel, by decide +kernel⟩
theorem sc__law_sides : FnScope ["stream", "factors", "constant", "left", "right", "factor", "moved"] ["stream", "factors", "constant"] (defScope s__law_sides) := ⟨rfl, rfl, rfl, by decide +kernel, rfl, by decide +kernel, by decide +kernel⟩
theorem sc__law_begun : FnScope ["count", "equations", "k"] ["count"] (defScope s__law_begun) := ⟨rfl, rfl, rfl, by decide +kernel, rfl, by decide +kernel, by decide +kernel⟩
theorem sc__law_order : FnScope ["stream", "rows", "rest", "order", "k"] ["stream", "rows"] (defScope s__law_order) := ⟨rfl, rfl, rfl, by decide +kernel, rfl, by decide +kernel, by decide +kernel⟩
theorem sc__law_states : FnScope ["equations", "count", "unknown"] ["equations", "count"] (defScope s__law_states) := ⟨rfl, rfl, rfl, by decide +kernel, rfl, by decide +kernel, by decide +kernel⟩
theorem sc__law_run : FnScope ["stream", "rows", "solution", "equations", "factors", "constant", "k", "left", "right"] ["stream", "rows", "solution"] (defScope s__law_run) := ⟨rfl, rfl, rfl, by decide +kernel, rfl, by decide +kernel, by decide +kernel⟩
theorem sc__law_contradicts : FnScope ["equations", "factors", "solution", "constant", "k"] ["equations", "factors", "solution"] (defScope s__law_contradicts) := ⟨rfl, rfl, rfl, by decide +kernel, rfl, by decide +kernel, by decide +kernel⟩
theorem sc__law_too_great : FnScope ["stream", "equations", "part", "before"] ["stream"] (defScope s__law_too_great) := ⟨rfl, rfl, rfl, by decide +kernel, rfl, by decide +kernel, by decide +kernel⟩
theorem sc__law_holds_still : FnScope ["equations", "factors", "solution", "constant", "k"] ["equations", "factors", "solution"] (defScope s__law_holds_still) := ⟨rfl, rfl, rfl, by decide +kernel, rfl, by decide +kernel, by decide +kernel⟩
theorem sc_law : FnScope ["script", "stream", "count", "solution", "k", "rows", "own", "factors", "m", "a", "b", "other", "again", "first", "second", "states", "row"] ["script"] (defScope s_law) := ⟨rfl, rfl, rfl, by decide +kernel, rfl, by decide +kernel, by decide +kernel⟩
structure Txt (K : PySem.W.Frag) (mg : Str → Option Value) (A : Nat → Addr) (D : Nat → FuncData) : Prop where
  F_ratio : Fun K "ratio" "ratio" s_ratio (A 7) (D 7)
  m_ratio : mg "ratio" = some (.ref (A 7))
  b_ratio : Binds K (D 7) ["n", "d"] []
  F_add : Fun K "add" "add" s_add (A 8) (D 8)
  m_add : mg "add" = some (.ref (A 8))
  b_add : Binds K (D 8) ["a", "b"] []
  F_subtract : Fun K "subtract" "subtract" s_subtract (A 9) (D 9)
  m_subtract : mg "subtract" = some (.ref (A 9))
  b_subtract : Binds K (D 9) ["a", "b"] []
  F_multiply : Fun K "multiply" "multiply" s_multiply (A 10) (D 10)
  m_multiply : mg "multiply" = some (.ref (A 10))
  b_multiply : Binds K (D 10) ["a", "b"] []
  F_divide : Fun K "divide" "divide" s_divide (A 11) (D 11)
  m_divide : mg "divide" = some (.ref (A 11))
  b_divide : Binds K (D 11) ["a", "b"] []
  F_known_form : Fun K "known_form" "known_form" s_known_form (A 12) (D 12)
  m_known_form : mg "known_form" = some (.ref (A 12))
  b_known_form : Binds K (D 12) ["number"] []
  F_unknown_form : Fun K "unknown_form" "unknown_form" s_unknown_form (A 13) (D 13)
  m_unknown_form : mg "unknown_form" = some (.ref (A 13))
  b_unknown_form : Binds K (D 13) ["unknown"] []
  F_add_forms : Fun K "add_forms" "add_forms" s_add_forms (A 14) (D 14)
  m_add_forms : mg "add_forms" = some (.ref (A 14))
  b_add_forms : Binds K (D 14) ["a", "b"] []
  F_subtract_forms : Fun K "subtract_forms" "subtract_forms" s_subtract_forms (A 15) (D 15)
  m_subtract_forms : mg "subtract_forms" = some (.ref (A 15))
  b_subtract_forms : Binds K (D 15) ["a", "b"] []
  F_combine_forms : Fun K "combine_forms" "combine_forms" s_combine_forms (A 16) (D 16)
  m_combine_forms : mg "combine_forms" = some (.ref (A 16))
  b_combine_forms : Binds K (D 16) ["a", "b", "operation"] []
  F_scale_form : Fun K "scale_form" "scale_form" s_scale_form (A 17) (D 17)
  m_scale_form : mg "scale_form" = some (.ref (A 17))
  b_scale_form : Binds K (D 17) ["form", "number"] []
  F_replace_unknown : Fun K "replace_unknown" "replace_unknown" s_replace_unknown (A 18) (D 18)
  m_replace_unknown : mg "replace_unknown" = some (.ref (A 18))
  b_replace_unknown : Binds K (D 18) ["form", "unknown", "other"] []
  F_coefficient : Fun K "coefficient" "coefficient" s_coefficient (A 19) (D 19)
  m_coefficient : mg "coefficient" = some (.ref (A 19))
  b_coefficient : Binds K (D 19) ["form", "unknown"] []
  F_Equations___init__ : Fun K "__init__" "Equations.__init__" s_Equations___init__ (A 20) (D 20)
  b_Equations___init__ : Binds K (D 20) ["self"] []
  F_Equations_new_unknown : Fun K "new_unknown" "Equations.new_unknown" s_Equations_new_unknown (A 21) (D 21)
  m_Equations_new_unknown : Meth K (A 6) "new_unknown" (A 21)
  b_Equations_new_unknown : Binds K (D 21) ["self"] []
  F_Equations_kind : Fun K "kind" "Equations.kind" s_Equations_kind (A 22) (D 22)
  m_Equations_kind : Meth K (A 6) "kind" (A 22)
  b_Equations_kind : Binds K (D 22) ["self", "unknown"] []
  F_Equations_form : Fun K "form" "Equations.form" s_Equations_form (A 23) (D 23)
  m_Equations_form : Meth K (A 6) "form" (A 23)
  b_Equations_form : Binds K (D 23) ["self", "unknown"] []
  F_Equations_reduce : Fun K "reduce" "Equations.reduce" s_Equations_reduce (A 24) (D 24)
  m_Equations_reduce : Meth K (A 6) "reduce" (A 24)
  b_Equations_reduce : Binds K (D 24) ["self", "form"] []
  F_Equations_equate : Fun K "equate" "Equations.equate" s_Equations_equate (A 25) (D 25)
  m_Equations_equate : Meth K (A 6) "equate" (A 25)
  b_Equations_equate : Binds K (D 25) ["self", "left", "right"] []
  F_Equations__forms_with : Fun K "_forms_with" "Equations._forms_with" s_Equations__forms_with (A 26) (D 26)
  m_Equations__forms_with : Meth K (A 6) "_forms_with" (A 26)
  b_Equations__forms_with : Binds K (D 26) ["self", "unknown", "rest"] []
  F__law_cell : Fun K "_law_cell" "_law_cell" s__law_cell (A 27) (D 27)
  m__law_cell : mg "_law_cell" = some (.ref (A 27))
  b__law_cell : Binds K (D 27) ["script", "k"] []
  F__law_stream : Fun K "_law_stream" "_law_stream" s__law_stream (A 28) (D 28)
  m__law_stream : mg "_law_stream" = some (.ref (A 28))
  b__law_stream : Binds K (D 28) ["cell"] []
  F__law_next : Fun K "_law_next" "_law_next" s__law_next (A 29) (D 29)
  m__law_next : mg "_law_next" = some (.ref (A 29))
  b__law_next : Binds K (D 29) ["stream", "size"] []
  F__law_made : Fun K "_law_made" "_law_made" s__law_made (A 30) (D 30)
  m__law_made : mg "_law_made" = some (.ref (A 30))
  b__law_made : Binds K (D 30) ["factors", "constant"] []
  F__law_sides : Fun K "_law_sides" "_law_sides" s__law_sides (A 31) (D 31)
  m__law_sides : mg "_law_sides" = some (.ref (A 31))
  b__law_sides : Binds K (D 31) ["stream", "factors", "constant"] []
  F__law_begun : Fun K "_law_begun" "_law_begun" s__law_begun (A 32) (D 32)
  m__law_begun : mg "_law_begun" = some (.ref (A 32))
  b__law_begun : Binds K (D 32) ["count"] []
  F__law_order : Fun K "_law_order" "_law_order" s__law_order (A 33) (D 33)
  m__law_order : mg "_law_order" = some (.ref (A 33))
  b__law_order : Binds K (D 33) ["stream", "rows"] []
  F__law_states : Fun K "_law_states" "_law_states" s__law_states (A 34) (D 34)
  m__law_states : mg "_law_states" = some (.ref (A 34))
  b__law_states : Binds K (D 34) ["equations", "count"] []
  F__law_run : Fun K "_law_run" "_law_run" s__law_run (A 35) (D 35)
  m__law_run : mg "_law_run" = some (.ref (A 35))
  b__law_run : Binds K (D 35) ["stream", "rows", "solution"] []
  F__law_contradicts : Fun K "_law_contradicts" "_law_contradicts" s__law_contradicts (A 36) (D 36)
  m__law_contradicts : mg "_law_contradicts" = some (.ref (A 36))
  b__law_contradicts : Binds K (D 36) ["equations", "factors", "solution"] []
  F__law_too_great : Fun K "_law_too_great" "_law_too_great" s__law_too_great (A 37) (D 37)
  m__law_too_great : mg "_law_too_great" = some (.ref (A 37))
  b__law_too_great : Binds K (D 37) ["stream"] []
  F__law_holds_still : Fun K "_law_holds_still" "_law_holds_still" s__law_holds_still (A 38) (D 38)
  m__law_holds_still : mg "_law_holds_still" = some (.ref (A 38))
  b__law_holds_still : Binds K (D 38) ["equations", "factors", "solution"] []
  F_law : Fun K "law" "law" s_law (A 39) (D 39)
  m_law : mg "law" = some (.ref (A 39))
  b_law : Binds K (D 39) ["script"] []
  q_Equations : Cls K (A 6)
  g_Equations : mg "Equations" = some (.ref (A 6))
  M_Equations : Mk K (A 6) (A 20)
  nf_Equations__forms : NoAttr K (A 6) "_forms"
  x_FontError : Z.ExcX K mg "FontError" (A 0)
  x_TooGreat : Z.ExcX K mg "TooGreat" (A 1)
  x_DivisionByZero : Z.ExcX K mg "DivisionByZero" (A 2)
  x_Contradiction : Z.ExcX K mg "Contradiction" (A 3)
  x_OutOfRange : Z.ExcX K mg "OutOfRange" (A 4)
  x_TooMany : Z.ExcX K mg "TooMany" (A 5)
  e_FontError_FontError : PySem.W.subIn K (.ref (A 0)) (.ref (A 0)) = some true
  e_FontError_TooGreat : PySem.W.subIn K (.ref (A 0)) (.ref (A 1)) = some false
  e_FontError_DivisionByZero : PySem.W.subIn K (.ref (A 0)) (.ref (A 2)) = some false
  e_FontError_Contradiction : PySem.W.subIn K (.ref (A 0)) (.ref (A 3)) = some false
  e_FontError_OutOfRange : PySem.W.subIn K (.ref (A 0)) (.ref (A 4)) = some false
  e_FontError_TooMany : PySem.W.subIn K (.ref (A 0)) (.ref (A 5)) = some false
  e_TooGreat_FontError : PySem.W.subIn K (.ref (A 1)) (.ref (A 0)) = some true
  e_TooGreat_TooGreat : PySem.W.subIn K (.ref (A 1)) (.ref (A 1)) = some true
  e_TooGreat_DivisionByZero : PySem.W.subIn K (.ref (A 1)) (.ref (A 2)) = some false
  e_TooGreat_Contradiction : PySem.W.subIn K (.ref (A 1)) (.ref (A 3)) = some false
  e_TooGreat_OutOfRange : PySem.W.subIn K (.ref (A 1)) (.ref (A 4)) = some false
  e_TooGreat_TooMany : PySem.W.subIn K (.ref (A 1)) (.ref (A 5)) = some false
  e_DivisionByZero_FontError : PySem.W.subIn K (.ref (A 2)) (.ref (A 0)) = some true
  e_DivisionByZero_TooGreat : PySem.W.subIn K (.ref (A 2)) (.ref (A 1)) = some false
  e_DivisionByZero_DivisionByZero : PySem.W.subIn K (.ref (A 2)) (.ref (A 2)) = some true
  e_DivisionByZero_Contradiction : PySem.W.subIn K (.ref (A 2)) (.ref (A 3)) = some false
  e_DivisionByZero_OutOfRange : PySem.W.subIn K (.ref (A 2)) (.ref (A 4)) = some false
  e_DivisionByZero_TooMany : PySem.W.subIn K (.ref (A 2)) (.ref (A 5)) = some false
  e_Contradiction_FontError : PySem.W.subIn K (.ref (A 3)) (.ref (A 0)) = some true
  e_Contradiction_TooGreat : PySem.W.subIn K (.ref (A 3)) (.ref (A 1)) = some false
  e_Contradiction_DivisionByZero : PySem.W.subIn K (.ref (A 3)) (.ref (A 2)) = some false
  e_Contradiction_Contradiction : PySem.W.subIn K (.ref (A 3)) (.ref (A 3)) = some true
  e_Contradiction_OutOfRange : PySem.W.subIn K (.ref (A 3)) (.ref (A 4)) = some false
  e_Contradiction_TooMany : PySem.W.subIn K (.ref (A 3)) (.ref (A 5)) = some false
  e_OutOfRange_FontError : PySem.W.subIn K (.ref (A 4)) (.ref (A 0)) = some true
  e_OutOfRange_TooGreat : PySem.W.subIn K (.ref (A 4)) (.ref (A 1)) = some false
  e_OutOfRange_DivisionByZero : PySem.W.subIn K (.ref (A 4)) (.ref (A 2)) = some false
  e_OutOfRange_Contradiction : PySem.W.subIn K (.ref (A 4)) (.ref (A 3)) = some false
  e_OutOfRange_OutOfRange : PySem.W.subIn K (.ref (A 4)) (.ref (A 4)) = some true
  e_OutOfRange_TooMany : PySem.W.subIn K (.ref (A 4)) (.ref (A 5)) = some false
  e_TooMany_FontError : PySem.W.subIn K (.ref (A 5)) (.ref (A 0)) = some true
  e_TooMany_TooGreat : PySem.W.subIn K (.ref (A 5)) (.ref (A 1)) = some false
  e_TooMany_DivisionByZero : PySem.W.subIn K (.ref (A 5)) (.ref (A 2)) = some false
  e_TooMany_Contradiction : PySem.W.subIn K (.ref (A 5)) (.ref (A 3)) = some false
  e_TooMany_OutOfRange : PySem.W.subIn K (.ref (A 5)) (.ref (A 4)) = some false
  e_TooMany_TooMany : PySem.W.subIn K (.ref (A 5)) (.ref (A 5)) = some true
  z_dict : mg "dict" = none
  z_enumerate : mg "enumerate" = none
  z_int : mg "int" = none
  z_len : mg "len" = none
  z_list : mg "list" = none
  z_max : mg "max" = none
  z_min : mg "min" = none
  z_range : mg "range" = none
  z_sorted : mg "sorted" = none
  z_sum : mg "sum" = none
  z_tuple : mg "tuple" = none
  l_gcd : mg "gcd" = some (.builtin "math.gcd")
  c_ZERO : mg "ZERO" = some (.ref (A 40))
  d_ZERO : ∀ H : Hp, Dp K H (.ref (A 40)) (.tuple [(.int (0)), (.int (1))])
  c_ONE : mg "ONE" = some (.ref (A 41))
  d_ONE : ∀ H : Hp, Dp K H (.ref (A 41)) (.tuple [(.int (1)), (.int (1))])
  c_MINUS_ONE : mg "MINUS_ONE" = some (.ref (A 42))
  d_MINUS_ONE : ∀ H : Hp, Dp K H (.ref (A 42)) (.tuple [(.int (-1)), (.int (1))])
  c_LIMIT : ∃ u, mg "LIMIT" = some u ∧ RelV (.int (1000000000000000000)) u
  c_MOST_UNKNOWNS : ∃ u, mg "MOST_UNKNOWNS" = some u ∧ RelV (.int (80)) u
local macro_rules | `(tactic| walk_at "z1") => `(tactic| first
  | with_reducible refine z_seq ?_
  | with_reducible refine z_asg ?_
  | with_reducible refine z_asgS ?_
  | with_reducible refine z_ifs ?_
  | ((with_reducible refine' z_var ?h ?_); case h => with_unfolding_all exact rfl)
  | with_reducible refine z_c ?_
  | with_reducible refine z_op ?_
  | with_reducible refine z_un ?_
  | with_reducible refine z_I0 ?_
  | ((with_reducible refine z_I ?h ?_); case h => first | (exact Or.inr ⟨by decide, by decide⟩) | (exact Or.inl ⟨by decide, by decide⟩) | (show (0 : Int) < _; first | assumption | omega))
  | with_reducible refine z_U ?_
  | with_reducible refine z_eqI ?_
  | with_reducible refine z_neI ?_
  | with_reducible refine z_test ?_
  | with_reducible refine z_tB ?_
  | with_reducible refine z_bl ?_
  | with_reducible refine z_notT ?_
  | with_reducible refine z_andT ?_
  | with_reducible refine z_orT ?_
  | with_reducible refine z_andV ?_
  | with_reducible refine z_orV ?_
  | with_reducible refine z_notV ?_
  | with_reducible refine z_ifE ?_
  | with_reducible refine z_ifT ?_
  | with_reducible refine z_ifF ?_
  | with_reducible refine z_ifNT ?_
  | with_reducible refine z_ifNF ?_
  | with_reducible refine z_chain ?_
  | with_reducible refine z_nil ?_
  | with_reducible refine z_cons ?_
  | with_reducible refine z_tup ?_
  | with_reducible refine z_lst ?_
  | with_reducible refine z_cb ?_
  | with_reducible refine z_call ?_
  | with_reducible refine z_callS ?_
  | with_reducible refine z_int1 ?_
  | with_reducible refine z_int1b ?_
  | with_reducible refine z_abs ?_
  | with_reducible refine z_gcd ?_
  | with_reducible refine z_ret ?_
  | with_reducible refine z_retN ?_
  | with_reducible refine z_drop ?_
  | with_reducible refine z_next ?_
  | with_reducible refine z_brk ?_
  | with_reducible refine z_cont ?_
  | with_reducible refine z_par ?_
  | with_reducible refine z_two ?_
  | with_reducible refine z_asgT ?_
  | with_reducible refine z_sl ?_
  | with_reducible refine z_noPart ?_
  | with_reducible refine z_part ?_
  | with_reducible refine z_partI ?_
  | with_reducible refine z_gName ?_
  | with_reducible refine z_gcons ?_
  | with_reducible refine z_gnil ?_
  | ((with_reducible refine' z_up ?h ?hm ?_); (case h => walk_at "sq"); (case hm => exact rfl))
  | ((with_reducible refine' z_gT ?h ?hm ?_); (case h => walk_at "sq"); (case hm => exact rfl))
  | with_reducible refine z_isII ?_
  | with_reducible refine z_isNN ?_
  | with_reducible refine z_isNR ?_
  | with_reducible refine z_notNN ?_
  | with_reducible refine z_notNR ?_
  | with_reducible refine z_isIB ?_
  | with_reducible refine z_isBB ?_
  | ((with_reducible refine' z_isT ?h ?_); (case h => walk_at "sq"))
  | ((with_reducible refine' z_isLL ?h ?_); case h => assumption)
  | ((with_reducible refine z_newT ?h ?_); case h => exact Nat.le_of_ble_eq_true rfl)
  | ((with_reducible refine z_newL ?h ?_); case h => exact Nat.le_of_ble_eq_true rfl)
  | ((with_reducible refine' z_ixL ?h ?h2 ?_); (case h => walk_at "sq"); (case h2 => exact rfl))
  | ((with_reducible refine' z_ixT ?h ?h2 ?_); (case h => walk_at "sq"); (case h2 => exact rfl))
  | ((with_reducible refine' z_lenL ?h ?_); case h => walk_at "sq")
  | ((with_reducible refine' z_lenT ?h ?_); case h => walk_at "sq")
  | ((with_reducible refine z_ifYes ?h ?_); (case h => exact rfl))
  | ((with_reducible refine z_ifNo ?h ?_); (case h => exact rfl)))
local macro_rules | `(tactic| walk_at "sq") => `(tactic| first | assumption | exact Or.inl (Or.inl (by assumption)) | exact Or.inl (Or.inl upd_same))
local macro_rules | `(tactic| walk_at "z") => `(tactic| repeat (walk_at "z1"))
/-! ### promises -/
def sp__law_cell (K : PySem.W.Frag) : Sp := fun vs H Q _ => ∃ (l : Addr) (ns : List Int) (j : Nat), vs = [.ref l, .int (j : Int)] ∧ SqL K H l (ns.map V.int) ∧ ∀ v, Q (.int v) H
/-- a stream: three ints, whatever they are -/
def IsStm (H : Hp) (p : Addr) : Prop := ∃ a b m : Int, H p = some (.lst [.int a, .int b, .int m])
def sp__law_stream : Sp := fun vs H Q _ => ∃ c : Int, vs = [.int c] ∧ ∀ p H' a b m, H p = none → Same H H' → H' p = some (.lst [.int a, .int b, .int m]) → Q (.ref p) H'
def sp__law_next : Sp := fun vs H Q _ => ∃ (p : Addr) (z : Int), vs = [.ref p, .int z] ∧ IsStm H p ∧ 0 < z ∧ z.natAbs < 2 ^ 1000 ∧ ∀ v a b m, 0 ≤ v → v < z → Q (.int v) (upd H p (.lst [.int a, .int b, .int m]))
section
theorem ok__law_cell {P : Program} {w : World} {K : PySem.W.Frag} {mg : Str → Option Value} {base : Heap} {A : Nat → Addr} {D : Nat → FuncData} (T : Txt K mg A D) : FnOk P w K mg base (L2.CX P w) 1 (A 27) (D 27) ["script", "k"] (sp__law_cell K) := by
  refine T.F__law_cell.okX sc__law_cell (fun vs H Q E h => ?_) (fun cdv A' outer s H vs Q E hr h => ?_)
  · obtain ⟨l, ns, j, rfl, _⟩ := h
    rfl
  obtain ⟨l, ns, j, rfl, hS, q⟩ := h
  refine ⟨_, (pss_cons (ps_if (pt_cmpR op_lt (pv 1) (pe_callB Z.c_len (by rfl) T.z_len (by decide +kernel) (pa_cons (pv 0) pa_nil)) (nomark _))
  (pss_one (ps_ret (pe_ix ix_list (pv 0) (pv 1) (fun _ _ => rfl))))
  pss_nil)
  (pss_one (ps_ret pe_int))), ?_⟩
  walk_at "z"
  refine z_if (fun hj => ?_) (fun _ => ?_)
  · walk_at "z"
    rw [List.length_map] at hj
    have hj' : j < ns.length := by omega
    refine z_ixL hS (v := .int ns[j]) (atI_nat (by rw [List.getElem?_map, List.getElem?_eq_getElem hj']; rfl)) (q _)
  · walk_at "z"
    exact q 0
theorem ok__law_stream {P : Program} {w : World} {K : PySem.W.Frag} {mg : Str → Option Value} {base : Heap} {A : Nat → Addr} {D : Nat → FuncData} (T : Txt K mg A D) : FnOk P w K mg base (L2.CX P w) 1 (A 28) (D 28) ["cell"] sp__law_stream := by
  refine T.F__law_stream.okX sc__law_stream (fun vs H Q E h => ?_) (fun cdv A' outer s H vs Q E hr h => ?_)
  · obtain ⟨c, rfl, _⟩ := h
    rfl
  obtain ⟨c, rfl, q⟩ := h
  refine ⟨_, (pss_cons (ps_if (pt_cmpR op_ge (pv 0) (Z.pe_powc (v := 1000000000000000000) ⟨by decide, by decide, by decide⟩ (by decide)) (nomark _))
  (pss_one (ps_ret (pe_lst (pa_cons (pv 0) (pa_cons pe_int (pa_cons (pe_op op_mod (pe_callTy Z.c_int (by rfl) T.z_int (by decide +kernel) (pa_cons (pv 0) pa_nil)) pe_int) pa_nil))))))
  pss_nil)
  (pss_one (ps_ret (pe_lst (pa_cons pe_int (pa_cons pe_int (pa_cons (pe_op op_mod (pe_callTy Z.c_int (by rfl) T.z_int (by decide +kernel) (pa_cons (pv 0) pa_nil)) pe_int) pa_nil))))))), ?_⟩
  walk_at "z"
  refine z_if (fun hj => ?_) (fun _ => ?_)
  · walk_at "z"
    exact fun p H' hp s h => q p H' _ _ _ hp s h
  · walk_at "z"
    exact fun p H' hp s h => q p H' _ _ _ hp s h
theorem ok__law_next {P : Program} {w : World} {K : PySem.W.Frag} {mg : Str → Option Value} {base : Heap} {A : Nat → Addr} {D : Nat → FuncData} (T : Txt K mg A D) : FnOk P w K mg base (L2.CX P w) 1 (A 29) (D 29) ["stream", "size"] sp__law_next := by
  refine T.F__law_next.okX sc__law_next (fun vs H Q E h => ?_) (fun cdv A' outer s H vs Q E hr h => ?_)
  · obtain ⟨p, z, rfl, _⟩ := h
    rfl
  obtain ⟨p, z, rfl, ⟨a, b, m, hp⟩, hz, hz2, q⟩ := h
  refine ⟨_, (pss_cons (ps_if (pt_cmpR op_gt (pe_ix ix_list (pv 0) pe_int (fun _ _ => rfl)) pe_int (nomark _))
  (pss_cons (ps_set (i := 2) sc__law_next.nd rfl (.inl rfl) (pe_op op_mod (pe_callTy Z.c_int (by rfl) T.z_int (by decide +kernel) (pa_cons (pe_ix ix_list (pv 0) pe_int (fun _ _ => rfl)) pa_nil)) (pv 1)))
  (pss_cons (ps_asg (pe_op op_fdivW (pe_ix ix_list (pv 0) pe_int (fun _ _ => rfl)) (pv 1)) (pg_sub (pv 0) pe_int set_list))
  (pss_one (ps_ret (pv 2)))))
  pss_nil)
  (pss_cons (ps_asg (pe_op op_add (pe_ix ix_list (pv 0) pe_int (fun _ _ => rfl)) pe_int) (pg_sub (pv 0) pe_int set_list))
  (pss_cons (ps_set (i := 3) sc__law_next.nd rfl (.inl rfl) (pe_op op_mod (pe_callTy Z.c_int (by rfl) T.z_int (by decide +kernel) (pa_cons (pe_op op_add (pe_op op_mul (pe_ix ix_list (pv 0) pe_int (fun _ _ => rfl)) pe_int) (pe_op op_mul (pe_ix ix_list (pv 0) pe_int (fun _ _ => rfl)) pe_int)) pa_nil)) pe_int))
  (pss_cons (ps_set (i := 3) sc__law_next.nd rfl (.inl rfl) (pe_op op_mod (pe_callTy Z.c_int (by rfl) T.z_int (by decide +kernel) (pa_cons (pe_op op_add (pe_op op_mulW (pv 3) (pv 3)) (pe_op op_mul (pe_ix ix_list (pv 0) pe_int (fun _ _ => rfl)) pe_int)) pa_nil)) pe_int))
  (pss_cons (ps_set (i := 3) sc__law_next.nd rfl (.inl rfl) (pe_op op_mod (pe_callTy Z.c_int (by rfl) T.z_int (by decide +kernel) (pa_cons (pe_op op_add (pe_op op_mul (pv 3) pe_int) (pe_ix ix_list (pv 0) pe_int (fun _ _ => rfl))) pa_nil)) pe_int))
  (pss_one (ps_ret (pe_op op_mod (pe_callTy Z.c_int (by rfl) T.z_int (by decide +kernel) (pa_cons (pv 3) pa_nil)) (pv 1))))))))), ?_⟩
  walk_at "z"
  refine z_if (fun hj => ?_) (fun _ => ?_)
  · walk_at "z"
    refine z_I (wide_div hz hz2 (by decide) (by decide)) ?_
    walk_at "z"
    refine z_setL hp rfl ?_
    walk_at "z"
    exact q _ _ _ _ (Int.emod_nonneg _ (by omega)) (Int.emod_lt_of_pos _ hz)
  · walk_at "z"
    refine z_setL hp rfl ?_
    have hp1 : (upd H p (HO.lst ([V.int a, V.int b, V.int m].set (Int.toNat 1) (V.int (b + 1))))) p = some (.lst [V.int a, V.int (b + 1), V.int m]) := upd_same
    walk_at "z"
    refine z_I ?_ ?_
    · exact wide_mul (a := 32) (b := 32) (by omega) (by omega) (by decide) (by decide) (by decide)
    walk_at "z"
    exact q _ _ _ _ (Int.emod_nonneg _ (by omega)) (Int.emod_lt_of_pos _ hz)
end

/-! ### numbers in lowest terms -/
theorem gd_pos {n d : Int} (h : d ≠ 0) : 0 < gd n d := by
  unfold gd
  have : 0 < Nat.gcd n.natAbs d.natAbs := Nat.gcd_pos_of_pos_right _ (by omega)
  omega
theorem gd_dvd_l (n d : Int) : gd n d ∣ n := by
  unfold gd
  exact Int.dvd_trans (Int.natCast_dvd_natCast.mpr (Nat.gcd_dvd_left _ _)) (Int.natAbs_dvd_self)
theorem gd_dvd_r (n d : Int) : gd n d ∣ d := by
  unfold gd
  exact Int.dvd_trans (Int.natCast_dvd_natCast.mpr (Nat.gcd_dvd_right _ _)) (Int.natAbs_dvd_self)
theorem rd_pos {n d : Int} (h : d ≠ 0) : 0 < rd n d := by
  have g := gd_pos (n := n) h
  obtain ⟨k, hk⟩ := gd_dvd_r n d
  unfold rd
  split
  · rename_i hd
    have e : -d = gd n d * (-k) := by rw [Int.mul_neg, ← hk]
    rw [e, Int.mul_ediv_cancel_left _ (by omega)]
    have : ¬ 0 ≤ k := fun z => by have := Int.mul_nonneg (Int.le_of_lt g) z; omega
    omega
  · rename_i hd
    have e : d / gd n d = k := Int.ediv_eq_of_eq_mul_right (by omega) hk
    rw [e]
    have : ¬ k ≤ 0 := fun z => by have := Int.mul_nonpos_of_nonneg_of_nonpos (Int.le_of_lt g) z; omega
    omega
/-- what the program divides: by the negative of the common divisor where d is negative -/
theorem fdiv_neg {n g : Int} (hg : 0 < g) (h : g ∣ n) : Int.fdiv n (-g) = -n / g := by
  obtain ⟨k, rfl⟩ := h
  rw [show g * k = (-g) * (-k) by rw [Int.neg_mul_neg], Int.mul_fdiv_cancel_left _ (by omega), Int.neg_mul_neg, show -(g * k) = g * (-k) by rw [Int.mul_neg], Int.mul_ediv_cancel_left _ (by omega)]
theorem fdiv_pos {n g : Int} (hg : 0 < g) : Int.fdiv n g = n / g := Int.fdiv_eq_ediv_of_nonneg _ (by omega)
theorem gd_log {n d : Int} {k : Nat} (h : d ≠ 0) (hd : d.natAbs < 2 ^ k) : (gd n d).natAbs < 2 ^ k := by
  have : Nat.gcd n.natAbs d.natAbs ≤ d.natAbs := Nat.gcd_le_right _ (by omega)
  unfold gd
  omega
theorem cfd {j : Int} (h : j ≠ 0) (hj : j.natAbs < 2 ^ 1000) : CFd 0 j := ⟨h, Nat.lt_of_lt_of_le (PySem.Flt.log2_lt_of (by decide) hj) (by decide)⟩
theorem lt4 {a : Nat} (h : a < 2 ^ 400) : a < 2 ^ 1000 := Nat.lt_of_lt_of_le h (Nat.pow_le_pow_right (by decide) (by decide))
theorem lt1000 {a : Nat} (h : a < 2 ^ 100) : a < 2 ^ 1000 := Nat.lt_of_lt_of_le h (Nat.pow_le_pow_right (by decide) (by decide))
/-! ### ratio -/
/-- a value that stands for d is handed back -/
def RetD (K : PySem.W.Frag) (H : Hp) (d : PyData) (Q : VK) : Prop := ∀ v H', Same H H' → Dp K H' v d → Q v H'
def OutQ (K : PySem.W.Frag) (A : Nat → Addr) (r : Rat) (H : Hp) (Q : VK) (E : XK) : Prop := (¬ fitsQ r → E (.ref (A 1)) none H) ∧ (fitsQ r → RetD K H (qD r) Q)
def sp_ratio (K : PySem.W.Frag) (A : Nat → Addr) : Sp := fun vs H Q E => ∃ n d : Int, vs = [.int n, .int d] ∧ n.natAbs < 2 ^ 1000 ∧ d.natAbs < 2 ^ 1000 ∧ (d = 0 → E (.ref (A 2)) none H) ∧ (d ≠ 0 → OutQ K A (Rat.divInt n d) H Q E)
theorem fits_q {n d : Int} (h : d ≠ 0) : fitsQ (Rat.divInt n d) ↔ (-lim ≤ rn n d ∧ rn n d ≤ lim ∧ rd n d ≤ lim) := by
  rw [rn_q h, rd_q h]
  rfl
section
theorem ok_ratio {P : Program} {w : World} {K : PySem.W.Frag} {mg : Str → Option Value} {base : Heap} {A : Nat → Addr} {D : Nat → FuncData} (T : Txt K mg A D) : FnOk P w K mg base (L2N.CX P w) 1 (A 7) (D 7) ["n", "d"] (sp_ratio K A) := by
  refine T.F_ratio.okN sc_ratio (fun vs H Q E h => ?_) (fun cdv A' outer s H vs Q E hr h => ?_)
  · obtain ⟨n, d, rfl, _⟩ := h
    rfl
  obtain ⟨n, d, rfl, hn, hd, k0, kO⟩ := h
  refine ⟨_, (pss_cons (ps_if (pt_cmpR op_eq (pv 1) pe_int (nomark _))
  (pss_one (L2N.ps_raise rfl (L2N.takes_of rfl rfl rfl rfl) (Nn.pmk T.x_DivisionByZero (by rfl))))
  pss_nil)
  (pss_cons (ps_set (i := 2) sc_ratio.nd rfl (.inl rfl) (pe_callBfun cr_gcd (by rfl) T.l_gcd (pa_cons (pv 0) (pa_cons (pv 1) pa_nil))))
  (pss_cons (ps_if (pt_cmpR op_lt (pv 1) pe_int (nomark _))
  (pss_one (ps_set (i := 2) sc_ratio.nd rfl (.inl rfl) (pe_un un_neg (pv 2))))
  pss_nil)
  (pss_cons (ps_set (i := 3) sc_ratio.nd rfl (.inl rfl) (pe_op Z.op_fdivZ (pv 0) (pv 2)))
  (pss_cons (ps_set (i := 4) sc_ratio.nd rfl (.inl rfl) (pe_op Z.op_fdivZ (pv 1) (pv 2)))
  (pss_cons (ps_if (PW.pt (pw_or (pt_not (pt_chain op_le op_le (pe_un un_neg (Z.pe_globE T.c_LIMIT)) (pv 3) (Z.pe_globE T.c_LIMIT))) (pw_or1 (pt_cmpR op_gt (pv 4) (Z.pe_globE T.c_LIMIT) (nomark _)))))
  (pss_one (L2N.ps_raise rfl (L2N.takes_of rfl rfl rfl rfl) (Nn.pmk T.x_TooGreat (by rfl))))
  pss_nil)
  (pss_one (ps_ret (pe_tup (pa_cons (pv 3) (pa_cons (pv 4) pa_nil))))))))))), ?_⟩
  walk_at "z"
  refine z_if (fun h0 => k0 h0) (fun h0 => ?_)
  walk_at "z"
  have hg := gd_pos (n := n) h0
  have hgl := gd_log (n := n) h0 hd
  have end1 : ¬ (-lim ≤ rn n d ∧ rn n d ≤ lim ∧ rd n d ≤ lim) → E (.ref (A 1)) none H := fun f => (kO h0).1 fun z => f ((fits_q h0).mp z)
  have end2 : (-lim ≤ rn n d ∧ rn n d ≤ lim ∧ rd n d ≤ lim) → ∀ p H', Same H H' → H' p = some (.tup [.int (rn n d), .int (rd n d)]) → Q (.ref p) H' := fun f p H' s h => (kO h0).2 ((fits_q h0).mpr f) (.ref p) H' s (dp_mkq (by rw [← rn_q h0, ← rd_q h0]; exact h))
  refine z_if (fun hd0 => ?_) (fun hd0 => ?_)
  · have e1 : Int.fdiv n (-((Nat.gcd n.natAbs d.natAbs : Nat) : Int)) = rn n d := by
      show Int.fdiv n (-gd n d) = rn n d
      rw [fdiv_neg hg (gd_dvd_l n d)]
      unfold rn
      rw [if_pos hd0]
    have e2 : Int.fdiv d (-((Nat.gcd n.natAbs d.natAbs : Nat) : Int)) = rd n d := by
      show Int.fdiv d (-gd n d) = rd n d
      rw [fdiv_neg hg (gd_dvd_r n d)]
      unfold rd
      rw [if_pos hd0]
    walk_at "z"
    refine z_I (show CFd _ (-gd n d) from cfd (by omega) (by omega)) ?_
    rw [e1]
    walk_at "z"
    refine z_I (show CFd _ (-gd n d) from cfd (by omega) (by omega)) ?_
    rw [e2]
    walk_at "z"
    refine z_if (fun c1 => ?_) (fun c1 => ?_)
    · walk_at "z"
      refine z_ifN (fun c2 => ?_) (fun c2 => ?_)
      · walk_at "z"
        exact end1 fun f => c2 f.2.1
      · walk_at "z"
        refine z_if (fun c3 => ?_) (fun c3 => ?_)
        · exact end1 fun f => by have := f.2.2; unfold lim at this; omega
        · walk_at "z"
          exact fun p H' _ s h => end2 ⟨c1, c2, by unfold lim; omega⟩ p H' s h
    · walk_at "z"
      exact end1 fun f => c1 f.1
  · have e1 : Int.fdiv n (((Nat.gcd n.natAbs d.natAbs : Nat) : Int)) = rn n d := by
      show Int.fdiv n (gd n d) = rn n d
      rw [fdiv_pos hg]
      unfold rn
      rw [if_neg hd0]
    have e2 : Int.fdiv d (((Nat.gcd n.natAbs d.natAbs : Nat) : Int)) = rd n d := by
      show Int.fdiv d (gd n d) = rd n d
      rw [fdiv_pos hg]
      unfold rd
      rw [if_neg hd0]
    walk_at "z"
    refine z_I (show CFd _ (gd n d) from cfd (by omega) (by omega)) ?_
    rw [e1]
    walk_at "z"
    refine z_I (show CFd _ (gd n d) from cfd (by omega) (by omega)) ?_
    rw [e2]
    walk_at "z"
    refine z_if (fun c1 => ?_) (fun c1 => ?_)
    · walk_at "z"
      refine z_ifN (fun c2 => ?_) (fun c2 => ?_)
      · walk_at "z"
        exact end1 fun f => c2 f.2.1
      · walk_at "z"
        refine z_if (fun c3 => ?_) (fun c3 => ?_)
        · exact end1 fun f => by have := f.2.2; unfold lim at this; omega
        · walk_at "z"
          exact fun p H' _ s h => end2 ⟨c1, c2, by unfold lim; omega⟩ p H' s h
    · walk_at "z"
      exact end1 fun f => c1 f.1
end



/-! ### the draws of a law: the heap H0 stands, a stream stands at p -/
structure Sd (H0 H : Hp) (p : Addr) : Prop where
  same : Same H0 H
  fresh : H0 p = none
  stm : IsStm H p
theorem Sd.mk0 {H H' : Hp} {p : Addr} {a b m : Int} (h : H p = none) (s : Same H H') (e : H' p = some (.lst [.int a, .int b, .int m])) : Sd H H' p := ⟨s, h, a, b, m, e⟩
theorem Sd.mono {H0 H H' : Hp} {p : Addr} (S : Sd H0 H p) (s : Same H H') : Sd H0 H' p := by
  obtain ⟨a, b, m, e⟩ := S.stm
  exact ⟨S.same.trans s, S.fresh, a, b, m, s _ _ e⟩
theorem nx {H0 H : Hp} {p : Addr} {z : Int} {Q : VK} {E : XK} (S : Sd H0 H p) (hz : 0 < z) (hz2 : z.natAbs < 2 ^ 1000) (q : ∀ v H', 0 ≤ v → v < z → Sd H0 H' p → (∀ b, b ≠ p → H' b = H b) → Q (.int v) H') : sp__law_next [.ref p, .int z] H Q E := by
  refine ⟨p, z, rfl, S.stm, hz, hz2, fun v a b m h0 h1 => q v _ h0 h1 ⟨fun c o e => ?_, S.fresh, a, b, m, upd_same⟩ fun b hb => upd_ne hb⟩
  rw [upd_ne (ne_of_none e S.fresh)]
  exact S.same c o e
theorem Sd.ext {H0 H : Hp} {p q : Addr} {o : HO} (S : Sd H0 H p) (h : H q = none) : Sd H0 (upd H q o) p := by
  obtain ⟨a, b, m, hp⟩ := S.stm
  exact ⟨S.same.trans (same_upd h), S.fresh, a, b, m, by rw [upd_ne (ne_of_none hp h)]; exact hp⟩
theorem kp_refl {p : Addr} {H : Hp} : Kp p H H := fun _ _ _ e => e
theorem _root_.Z.Kp.trans' {p : Addr} {H H1 H2 : Hp} (a : Kp p H H1) (b : Kp p H1 H2) : Kp p H H2 := fun c o h e => b c o h (a c o h e)
theorem kp_eq {p : Addr} {H H' : Hp} (k : ∀ b, b ≠ p → H' b = H b) : Kp p H H' := fun b o h e => by
  rw [k b h]
  exact e
theorem kp_of {p : Addr} {H H' : Hp} (s : Same H H') : Kp p H H' := fun b x _ e => s b x e
theorem Sd.ne {H0 H : Hp} {p q : Addr} {xs : List V} (S : Sd H0 H p) (h : H q = some (.tup xs)) : q ≠ p := by
  obtain ⟨_, _, _, e⟩ := S.stm
  exact ne_of h e (by intro z; cases z)
theorem Sd.ne0 {H0 H : Hp} {p q : Addr} (S : Sd H0 H p) (h : H q = none) : q ≠ p := by
  obtain ⟨_, _, _, e⟩ := S.stm
  exact Ne.symm (ne_of_none e h)
theorem lt400 {a : Nat} (h : a < 2 ^ 100) : a < 2 ^ 400 := Nat.lt_of_lt_of_le h (Nat.pow_le_pow_right (by decide) (by decide))
theorem kp_sd {H0 H H' : Hp} {p : Addr} {K : PySem.W.Frag} {v : V} {d : PyData} (S : Sd H0 H p) (k : Kp p H H') (t : tupOnly d = true) (h : Dp K H v d) : Dp K H' v d := by
  obtain ⟨a, b, m, e⟩ := S.stm
  exact dp_kp k e t h
/-! ### the four operations, and comparing -/
def Bg (r : Rat) : Prop := r.num.natAbs < 2 ^ 200 ∧ r.den < 2 ^ 200
theorem _root_.Z.Bd.bg {r : Rat} {p q : Nat} (h : Bd r p q) (h1 : p < 2 ^ 200) (h2 : q < 2 ^ 200) : Bg r := ⟨Nat.lt_of_le_of_lt h.1 h1, Nat.lt_of_le_of_lt h.2 h2⟩
theorem fits_bg {r : Rat} (h : fitsQ r) : Bg r := by
  unfold fitsQ lim at h
  unfold Bg
  omega
theorem mul600 {a b : Int} (ha : a.natAbs < 2 ^ 200) (hb : b.natAbs < 2 ^ 200) : (a * b).natAbs < 2 ^ 400 := wide_lt ha hb
theorem add600 {a b : Int} (ha : a.natAbs < 2 ^ 400) (hb : b.natAbs < 2 ^ 400) : (a + b).natAbs < 2 ^ 1000 := by
  have h1 : (a + b).natAbs ≤ a.natAbs + b.natAbs := Int.natAbs_add_le a b
  have h2 : (2 : Nat) ^ 400 + 2 ^ 400 ≤ 2 ^ 1000 := by
    rw [show (2 : Nat) ^ 400 + 2 ^ 400 = 2 ^ 401 by rw [← Nat.two_mul, ← Nat.pow_succ']]
    exact Nat.pow_le_pow_right (by decide) (by decide)
  omega
theorem sub600 {a b : Int} (ha : a.natAbs < 2 ^ 400) (hb : b.natAbs < 2 ^ 400) : (a - b).natAbs < 2 ^ 1000 := by
  rw [Int.sub_eq_add_neg]
  exact add600 ha (by rw [Int.natAbs_neg]; exact hb)
theorem nat200 {n : Nat} (h : n < 2 ^ 200) : ((n : Int)).natAbs < 2 ^ 200 := by omega
def sp_op (K : PySem.W.Frag) (A : Nat → Addr) (f : Rat → Rat → Rat) : Sp := fun vs H Q E => ∃ (v w : V) (a b : Rat), vs = [v, w] ∧ Dp K H v (qD a) ∧ Dp K H w (qD b) ∧ Bg a ∧ Bg b ∧ OutQ K A (f a b) H Q E
def sp_divide (K : PySem.W.Frag) (A : Nat → Addr) : Sp := fun vs H Q E => ∃ (v w : V) (a b : Rat), vs = [v, w] ∧ Dp K H v (qD a) ∧ Dp K H w (qD b) ∧ Bg a ∧ Bg b ∧ (b = 0 → E (.ref (A 2)) none H) ∧ (b ≠ 0 → OutQ K A (a / b) H Q E)
theorem rat_use {K : PySem.W.Frag} {A : Nat → Addr} {n d : Int} {H : Hp} {Q : VK} {E : XK} (hn : n.natAbs < 2 ^ 1000) (hd : d.natAbs < 2 ^ 1000) (h0 : d ≠ 0) (k : OutQ K A (Rat.divInt n d) H Q E) : sp_ratio K A [.int n, .int d] H Q E := ⟨n, d, rfl, hn, hd, fun z => absurd z h0, fun _ => k⟩
def cmpQ (a b : Rat) : Int := if a < b then -1 else if b < a then 1 else 0
def sp_compare (K : PySem.W.Frag) : Sp := fun vs H Q _ => ∃ (v w : V) (a b : Rat), vs = [v, w] ∧ Dp K H v (qD a) ∧ Dp K H w (qD b) ∧ Bg a ∧ Bg b ∧ Q (.int (cmpQ a b)) H

section
theorem ok_add {P : Program} {w : World} {K : PySem.W.Frag} {mg : Str → Option Value} {base : Heap} {A : Nat → Addr} {D : Nat → FuncData} (T : Txt K mg A D) : FnOk P w K mg base (L2N.CX P w) 2 (A 8) (D 8) ["a", "b"] (sp_op K A (· + ·)) := by
  refine T.F_add.okN sc_add (fun vs H Q E h => ?_) (fun cdv A' outer s H vs Q E hr h => ?_)
  · obtain ⟨v, w', a, b, rfl, _⟩ := h
    rfl
  obtain ⟨_, _, a, b, rfl, ha, hb, ga, gb, q⟩ := h
  obtain ⟨p, rfl, hp⟩ := dp_q ha
  obtain ⟨p2, rfl, hp2⟩ := dp_q hb
  refine ⟨_, (pss_one (ps_ret (pe_call (ok_ratio T) (hr.mono (by decide)) (by rfl) T.m_ratio T.F_ratio.kp T.b_ratio .nil (L2N.passes_call (L2N.takes_of rfl rfl rfl rfl) (fun _ _ _ _ h => h)) (pa_cons (pe_op op_add (pe_op op_mulW (pe_ix ix_tup (pv 0) pe_int (fun _ _ => rfl)) (pe_ix ix_tup (pv 1) pe_int (fun _ _ => rfl))) (pe_op op_mulW (pe_ix ix_tup (pv 1) pe_int (fun _ _ => rfl)) (pe_ix ix_tup (pv 0) pe_int (fun _ _ => rfl)))) (pa_cons (pe_op op_mulW (pe_ix ix_tup (pv 0) pe_int (fun _ _ => rfl)) (pe_ix ix_tup (pv 1) pe_int (fun _ _ => rfl))) pa_nil))))), ?_⟩
  walk_at "z"
  refine z_I (wide_mul ga.1 (nat200 gb.2) (by decide) (by decide) (by decide)) ?_
  walk_at "z"
  refine z_I (wide_mul gb.1 (nat200 ga.2) (by decide) (by decide) (by decide)) ?_
  walk_at "z"
  refine z_I (wide_mul (nat200 ga.2) (nat200 gb.2) (by decide) (by decide) (by decide)) ?_
  walk_at "z"
  have q : OutQ K A (a + b) H Q E := q
  rw [show a + b = _ from q_add a b] at q
  exact rat_use (add600 (mul600 ga.1 (nat200 gb.2)) (mul600 gb.1 (nat200 ga.2))) (lt4 (mul600 (nat200 ga.2) (nat200 gb.2))) (q_dd a b) q
end

section
theorem ok_subtract {P : Program} {w : World} {K : PySem.W.Frag} {mg : Str → Option Value} {base : Heap} {A : Nat → Addr} {D : Nat → FuncData} (T : Txt K mg A D) : FnOk P w K mg base (L2N.CX P w) 2 (A 9) (D 9) ["a", "b"] (sp_op K A (· - ·)) := by
  refine T.F_subtract.okN sc_subtract (fun vs H Q E h => ?_) (fun cdv A' outer s H vs Q E hr h => ?_)
  · obtain ⟨v, w', a, b, rfl, _⟩ := h
    rfl
  obtain ⟨_, _, a, b, rfl, ha, hb, ga, gb, q⟩ := h
  obtain ⟨p, rfl, hp⟩ := dp_q ha
  obtain ⟨p2, rfl, hp2⟩ := dp_q hb
  refine ⟨_, (pss_one (ps_ret (pe_call (ok_ratio T) (hr.mono (by decide)) (by rfl) T.m_ratio T.F_ratio.kp T.b_ratio .nil (L2N.passes_call (L2N.takes_of rfl rfl rfl rfl) (fun _ _ _ _ h => h)) (pa_cons (pe_op op_sub (pe_op op_mulW (pe_ix ix_tup (pv 0) pe_int (fun _ _ => rfl)) (pe_ix ix_tup (pv 1) pe_int (fun _ _ => rfl))) (pe_op op_mulW (pe_ix ix_tup (pv 1) pe_int (fun _ _ => rfl)) (pe_ix ix_tup (pv 0) pe_int (fun _ _ => rfl)))) (pa_cons (pe_op op_mulW (pe_ix ix_tup (pv 0) pe_int (fun _ _ => rfl)) (pe_ix ix_tup (pv 1) pe_int (fun _ _ => rfl))) pa_nil))))), ?_⟩
  walk_at "z"
  refine z_I (wide_mul ga.1 (nat200 gb.2) (by decide) (by decide) (by decide)) ?_
  walk_at "z"
  refine z_I (wide_mul gb.1 (nat200 ga.2) (by decide) (by decide) (by decide)) ?_
  walk_at "z"
  refine z_I (wide_mul (nat200 ga.2) (nat200 gb.2) (by decide) (by decide) (by decide)) ?_
  walk_at "z"
  have q : OutQ K A (a - b) H Q E := q
  rw [show a - b = _ from q_sub a b] at q
  exact rat_use (sub600 (mul600 ga.1 (nat200 gb.2)) (mul600 gb.1 (nat200 ga.2))) (lt4 (mul600 (nat200 ga.2) (nat200 gb.2))) (q_dd a b) q
end

section
theorem ok_multiply {P : Program} {w : World} {K : PySem.W.Frag} {mg : Str → Option Value} {base : Heap} {A : Nat → Addr} {D : Nat → FuncData} (T : Txt K mg A D) : FnOk P w K mg base (L2N.CX P w) 2 (A 10) (D 10) ["a", "b"] (sp_op K A (· * ·)) := by
  refine T.F_multiply.okN sc_multiply (fun vs H Q E h => ?_) (fun cdv A' outer s H vs Q E hr h => ?_)
  · obtain ⟨v, w', a, b, rfl, _⟩ := h
    rfl
  obtain ⟨_, _, a, b, rfl, ha, hb, ga, gb, q⟩ := h
  obtain ⟨p, rfl, hp⟩ := dp_q ha
  obtain ⟨p2, rfl, hp2⟩ := dp_q hb
  refine ⟨_, (pss_one (ps_ret (pe_call (ok_ratio T) (hr.mono (by decide)) (by rfl) T.m_ratio T.F_ratio.kp T.b_ratio .nil (L2N.passes_call (L2N.takes_of rfl rfl rfl rfl) (fun _ _ _ _ h => h)) (pa_cons (pe_op op_mulW (pe_ix ix_tup (pv 0) pe_int (fun _ _ => rfl)) (pe_ix ix_tup (pv 1) pe_int (fun _ _ => rfl))) (pa_cons (pe_op op_mulW (pe_ix ix_tup (pv 0) pe_int (fun _ _ => rfl)) (pe_ix ix_tup (pv 1) pe_int (fun _ _ => rfl))) pa_nil))))), ?_⟩
  walk_at "z"
  refine z_I (wide_mul ga.1 gb.1 (by decide) (by decide) (by decide)) ?_
  walk_at "z"
  refine z_I (wide_mul (nat200 ga.2) (nat200 gb.2) (by decide) (by decide) (by decide)) ?_
  walk_at "z"
  have q : OutQ K A (a * b) H Q E := q
  rw [show a * b = _ from q_mul a b] at q
  exact rat_use (lt4 (mul600 ga.1 gb.1)) (lt4 (mul600 (nat200 ga.2) (nat200 gb.2))) (q_dd a b) q
end

section
theorem ok_divide {P : Program} {w : World} {K : PySem.W.Frag} {mg : Str → Option Value} {base : Heap} {A : Nat → Addr} {D : Nat → FuncData} (T : Txt K mg A D) : FnOk P w K mg base (L2N.CX P w) 2 (A 11) (D 11) ["a", "b"] (sp_divide K A) := by
  refine T.F_divide.okN sc_divide (fun vs H Q E h => ?_) (fun cdv A' outer s H vs Q E hr h => ?_)
  · obtain ⟨v, w', a, b, rfl, _⟩ := h
    rfl
  obtain ⟨_, _, a, b, rfl, ha, hb, ga, gb, q0, q⟩ := h
  obtain ⟨p, rfl, hp⟩ := dp_q ha
  obtain ⟨p2, rfl, hp2⟩ := dp_q hb
  refine ⟨_, (pss_one (ps_ret (pe_call (ok_ratio T) (hr.mono (by decide)) (by rfl) T.m_ratio T.F_ratio.kp T.b_ratio .nil (L2N.passes_call (L2N.takes_of rfl rfl rfl rfl) (fun _ _ _ _ h => h)) (pa_cons (pe_op op_mulW (pe_ix ix_tup (pv 0) pe_int (fun _ _ => rfl)) (pe_ix ix_tup (pv 1) pe_int (fun _ _ => rfl))) (pa_cons (pe_op op_mulW (pe_ix ix_tup (pv 0) pe_int (fun _ _ => rfl)) (pe_ix ix_tup (pv 1) pe_int (fun _ _ => rfl))) pa_nil))))), ?_⟩
  walk_at "z"
  refine z_I (wide_mul ga.1 (nat200 gb.2) (by decide) (by decide) (by decide)) ?_
  walk_at "z"
  refine z_I (wide_mul (nat200 ga.2) gb.1 (by decide) (by decide) (by decide)) ?_
  walk_at "z"
  have hden := a.den_nz
  refine ⟨_, _, rfl, lt4 (mul600 ga.1 (nat200 gb.2)), lt4 (mul600 (nat200 ga.2) gb.1), fun z => q0 ?_, fun z => ?_⟩
  · rcases Int.mul_eq_zero.mp z with w | w
    · omega
    · exact Rat.num_eq_zero.mp w
  · have hb0 : b ≠ 0 := fun w => z (by rw [w]; simp)
    rw [← q_div a b hb0]
    exact q hb0
end


/-! ### points and transforms -/
def pD (x y : Rat) : PyData := .tuple [qD x, qD y]
def tD (tx ty xx xy yx yy : Rat) : PyData := .tuple [qD tx, qD ty, qD xx, qD xy, qD yx, qD yy]
def Bl (r : Rat) : Prop := r.num.natAbs < 2 ^ 190 ∧ r.den < 2 ^ 190
theorem _root_.Z.Bd.bl {r : Rat} {p q : Nat} (h : Bd r p q) (h1 : p < 2 ^ 190) (h2 : q < 2 ^ 190) : Bl r := ⟨Nat.lt_of_le_of_lt h.1 h1, Nat.lt_of_le_of_lt h.2 h2⟩
theorem Bl.mul {a b : Int} (ha : a.natAbs < 2 ^ 190) (hb : b.natAbs < 2 ^ 190) : (a * b).natAbs < 2 ^ 380 := wide_lt ha hb
theorem lt380 {a : Nat} (h : a < 2 ^ 380) : a < 2 ^ 400 := Nat.lt_of_lt_of_le h (Nat.pow_le_pow_right (by decide) (by decide))
theorem Bl.add {a b : Int} (ha : a.natAbs < 2 ^ 380) (hb : b.natAbs < 2 ^ 380) : (a + b).natAbs < 2 ^ 400 := by
  have h1 : (a + b).natAbs ≤ a.natAbs + b.natAbs := Int.natAbs_add_le a b
  have h2 : (2 : Nat) ^ 380 + 2 ^ 380 ≤ 2 ^ 400 := by
    rw [show (2 : Nat) ^ 380 + 2 ^ 380 = 2 ^ 381 by rw [← Nat.two_mul, ← Nat.pow_succ']]
    exact Nat.pow_le_pow_right (by decide) (by decide)
  omega
theorem Bl.sub {a b : Int} (ha : a.natAbs < 2 ^ 380) (hb : b.natAbs < 2 ^ 380) : (a - b).natAbs < 2 ^ 400 := by
  rw [Int.sub_eq_add_neg]
  exact Bl.add ha (by rw [Int.natAbs_neg]; exact hb)
theorem nat190 {n : Nat} (h : n < 2 ^ 190) : ((n : Int)).natAbs < 2 ^ 190 := by omega
/-- the law's own operations -/
def sp_lop (K : PySem.W.Frag) (f : Rat → Rat → Rat) : Sp := fun vs H Q _ => ∃ (v w : V) (a b : Rat), vs = [v, w] ∧ Dp K H v (qD a) ∧ Dp K H w (qD b) ∧ Bl a ∧ Bl b ∧ RetD K H (qD (f a b)) Q
section



end
theorem lop {K : PySem.W.Frag} {f : Rat → Rat → Rat} {H : Hp} {v w : V} {a b : Rat} {Q : VK} {E : XK} (ha : Dp K H v (qD a)) (hb : Dp K H w (qD b)) (ga : Bl a) (gb : Bl b) (q : RetD K H (qD (f a b)) Q) : sp_lop K f [v, w] H Q E := ⟨v, w, a, b, rfl, ha, hb, ga, gb, q⟩
theorem opq {K : PySem.W.Frag} {A : Nat → Addr} {f : Rat → Rat → Rat} {H : Hp} {v w : V} {a b : Rat} {Q : VK} {E : XK} (ha : Dp K H v (qD a)) (hb : Dp K H w (qD b)) (ga : Bg a) (gb : Bg b) (hf : fitsQ (f a b)) (q : RetD K H (qD (f a b)) Q) : sp_op K A f [v, w] H Q E :=
  ⟨v, w, a, b, rfl, ha, hb, ga, gb, fun n => absurd hf n, fun _ => q⟩
/-- the point that a transform moves a point to -/
def aX (tx xx xy x y : Rat) : Rat := tx + (xx * x + xy * y)
def sp__law_applied (K : PySem.W.Frag) : Sp := fun vs H Q _ => ∃ (v w : V) (tx ty xx xy yx yy x y : Rat), vs = [v, w] ∧ Dp K H v (tD tx ty xx xy yx yy) ∧ Dp K H w (pD x y) ∧ Bl tx ∧ Bl ty ∧ Bl xx ∧ Bl xy ∧ Bl yx ∧ Bl yy ∧ Bl x ∧ Bl y ∧
  Bl (xx * x) ∧ Bl (xy * y) ∧ Bl (yx * x) ∧ Bl (yy * y) ∧ Bl (xx * x + xy * y) ∧ Bl (yx * x + yy * y) ∧ RetD K H (pD (aX tx xx xy x y) (aX ty yx yy x y)) Q
theorem dp_p {K : PySem.W.Frag} {H : Hp} {p : Addr} {v w : V} {x y : Rat} (h : H p = some (.tup [v, w])) (hx : Dp K H v (qD x)) (hy : Dp K H w (qD y)) : Dp K H (.ref p) (pD x y) := dp_mk h (.cons hx (.cons hy .nil))
section

end
/-! ### forms: terms as a list of unknowns with coefficients -/
abbrev Tms := List (Int × Rat)
abbrev Fm := Rat × Tms
def cf : Tms → Int → Rat
  | [], _ => 0
  | t :: r, u => if t.1 = u then t.2 else cf r u
structure Wf (ts : Tms) : Prop where
  asc : ts.Pairwise (fun a b => a.1 < b.1)
  nz : ∀ t ∈ ts, t.2 ≠ 0
theorem cf_none : ∀ {ts : Tms} {u : Int}, (∀ t ∈ ts, t.1 ≠ u) → cf ts u = 0
  | [], _, _ => rfl
  | t :: r, u, h => by
    unfold cf
    rw [if_neg (h t (.head _))]
    exact cf_none fun x hx => h x (.tail _ hx)
theorem cf_mem : ∀ {ts : Tms} {t : Int × Rat}, ts.Pairwise (fun a b => a.1 < b.1) → t ∈ ts → cf ts t.1 = t.2
  | s :: r, t, p, h => by
    rw [List.pairwise_cons] at p
    unfold cf
    rcases List.mem_cons.mp h with e | h
    · rw [e, if_pos rfl]
    · rw [if_neg (fun e => by have := p.1 t h; omega)]
      exact cf_mem p.2 h
theorem cf_fm {r : Int → Rat} {u : Int} : ∀ ys : List Int, cf (ys.filterMap fun y => if r y ≠ 0 then some (y, r y) else none) u = if u ∈ ys then r u else 0
  | [] => rfl
  | y :: ys => by
    have ih := cf_fm (r := r) (u := u) ys
    rw [List.filterMap_cons]
    by_cases e : y = u
    · subst e
      by_cases z : r y = 0
      · rw [if_neg (fun h => h z)]
        show cf (ys.filterMap _) y = _
        rw [ih, if_pos (List.mem_cons_self), z]
        split <;> rfl
      · rw [if_pos z, if_pos (List.mem_cons_self)]
        show (if y = y then r y else _) = r y
        rw [if_pos rfl]
    · have e2 : (if u ∈ y :: ys then r u else 0) = if u ∈ ys then r u else 0 := by
        simp only [List.mem_cons, show ¬ u = y from fun z => e z.symm, false_or]
      rw [e2, ← ih]
      by_cases z : r y = 0
      · rw [if_neg (fun h => h z)]
      · rw [if_pos z]
        show (if y = u then r y else _) = _
        rw [if_neg e]
theorem wf_fm {r : Int → Rat} {ys : List Int} (h : ys.Pairwise (· < ·)) : Wf (ys.filterMap fun y => if r y ≠ 0 then some (y, r y) else none) := by
  refine ⟨List.Pairwise.filterMap _ (fun a b hab x hx y hy => ?_) h, fun t ht => ?_⟩
  · split at hx
    · split at hy
      · cases hx
        cases hy
        exact hab
      · cases hy
    · cases hx
  · obtain ⟨y, _, e⟩ := List.mem_filterMap.mp ht
    split at e
    · rename_i z
      cases e
      exact z
    · cases e
theorem fm_mem {r : Int → Rat} {ys : List Int} {t : Int × Rat} (ht : t ∈ ys.filterMap fun y => if r y ≠ 0 then some (y, r y) else none) : t.1 ∈ ys ∧ t.2 = r t.1 := by
  obtain ⟨y, hy, e⟩ := List.mem_filterMap.mp ht
  split at e
  · cases e
    exact ⟨hy, rfl⟩
  · cases e
theorem cf_scale {q : Rat} {u : Int} : ∀ ts : Tms, cf (ts.filterMap fun t => if t.2 * q ≠ 0 then some (t.1, t.2 * q) else none) u = cf ts u * q ∨ ¬ ts.Pairwise (fun a b => a.1 < b.1)
  | [] => .inl (by show (0 : Rat) = 0 * q; rw [Rat.zero_mul])
  | t :: r => by
    rcases cf_scale (q := q) (u := u) r with ih | ih
    · by_cases pw : (t :: r).Pairwise (fun a b => a.1 < b.1)
      · left
        rw [List.filterMap_cons]
        by_cases e : t.1 = u
        · have n : cf r u = 0 := cf_none fun x hx => by
            have := (List.pairwise_cons.mp pw).1 x hx
            omega
          by_cases z : t.2 * q = 0
          · rw [if_neg (fun h => h z)]
            show cf (r.filterMap _) u = _
            rw [ih, n, Rat.zero_mul]
            show _ = (if t.1 = u then t.2 else _) * q
            rw [if_pos e, z]
          · rw [if_pos z]
            show (if t.1 = u then t.2 * q else _) = (if t.1 = u then t.2 else _) * q
            rw [if_pos e, if_pos e]
        · by_cases z : t.2 * q = 0
          · rw [if_neg (fun h => h z)]
            show cf (r.filterMap _) u = (if t.1 = u then t.2 else _) * q
            rw [if_neg e, ih]
          · rw [if_pos z]
            show (if t.1 = u then t.2 * q else _) = (if t.1 = u then t.2 else _) * q
            rw [if_neg e, if_neg e]
            exact ih
      · exact .inr pw
    · right
      intro z
      exact ih (List.pairwise_cons.mp z).2
theorem wf_scale {q : Rat} {ts : Tms} (h : ts.Pairwise (fun a b => a.1 < b.1)) : Wf (ts.filterMap fun t => if t.2 * q ≠ 0 then some (t.1, t.2 * q) else none) := by
  refine ⟨List.Pairwise.filterMap _ (fun a b hab x hx y hy => ?_) h, fun t ht => ?_⟩
  · split at hx
    · split at hy
      · cases hx
        cases hy
        exact hab
      · cases hy
    · cases hx
  · obtain ⟨y, _, e⟩ := List.mem_filterMap.mp ht
    split at e
    · rename_i z
      cases e
      exact z
    · cases e
theorem cf_without {u v : Int} : ∀ ts : Tms, cf (ts.filter fun t => decide (¬ t.1 = v)) u = if u = v then 0 else cf ts u
  | [] => by
    show (0 : Rat) = _
    split <;> rfl
  | t :: r => by
    have ih := cf_without (u := u) (v := v) r
    rw [List.filter_cons]
    by_cases e : t.1 = v
    · rw [if_neg (by simp [e])]
      rw [ih]
      by_cases z : u = v
      · rw [if_pos z, if_pos z]
      · rw [if_neg z, if_neg z]
        show _ = if t.1 = u then _ else _
        rw [if_neg (fun k => z (k.symm.trans e))]
    · rw [if_pos (by simp [e])]
      show (if t.1 = u then t.2 else _) = _
      by_cases z : u = v
      · rw [if_pos z, if_neg (fun k => e (k.trans z)), ih, if_pos z]
      · rw [if_neg z]
        show _ = if t.1 = u then t.2 else _
        rw [ih, if_neg z]
theorem wf_without {v : Int} {ts : Tms} (h : Wf ts) : Wf (ts.filter fun t => decide (¬ t.1 = v)) := ⟨h.asc.filter _, fun t ht => h.nz t (List.mem_filter.mp ht).1⟩
theorem cf_ne {ts : Tms} {u : Int} (h : cf ts u ≠ 0) : ∃ t ∈ ts, t.1 = u := by
  induction ts with
  | nil => exact absurd rfl h
  | cons t r ih =>
    by_cases e : t.1 = u
    · exact ⟨t, .head _, e⟩
    · unfold cf at h
      rw [if_neg e] at h
      obtain ⟨x, hx, ex⟩ := ih h
      exact ⟨x, .tail _ hx, ex⟩
theorem cf_in {ts : Tms} (u : Int) : cf ts u = 0 ∨ (u, cf ts u) ∈ ts := by
  induction ts with
  | nil => exact .inl rfl
  | cons t r ih =>
    unfold cf
    by_cases e : t.1 = u
    · rw [if_pos e]
      exact .inr (by rw [← e]; exact .head _)
    · rw [if_neg e]
      exact ih.imp id fun h => .tail _ h
/-- terms are determined by their coefficients -/
theorem wf_ext : ∀ {ts us : Tms}, Wf ts → Wf us → (∀ u, cf ts u = cf us u) → ts = us
  | [], [], _, _, _ => rfl
  | [], t :: r, _, h, e => by
    have := e t.1
    rw [cf_mem h.asc (.head _)] at this
    exact absurd this.symm (h.nz t (.head _))
  | t :: r, [], h, _, e => by
    have := e t.1
    rw [cf_mem h.asc (.head _)] at this
    exact absurd this (h.nz t (.head _))
  | t :: r, s :: q, h, k, e => by
    have pt := List.pairwise_cons.mp h.asc
    have ps := List.pairwise_cons.mp k.asc
    have a1 : t.1 = s.1 := by
      have e1 := e t.1
      have e2 := e s.1
      rw [cf_mem h.asc (.head _)] at e1
      rw [cf_mem k.asc (.head _)] at e2
      obtain ⟨x, hx, ex⟩ := cf_ne (e1 ▸ h.nz t (.head _))
      obtain ⟨y, hy, ey⟩ := cf_ne (e2.symm ▸ k.nz s (.head _))
      have b1 : s.1 ≤ t.1 := by
        rcases List.mem_cons.mp hx with z | z
        · rw [z] at ex; omega
        · have := ps.1 x z; omega
      have b2 : t.1 ≤ s.1 := by
        rcases List.mem_cons.mp hy with z | z
        · rw [z] at ey; omega
        · have := pt.1 y z; omega
      omega
    have a2 : t.2 = s.2 := by
      have e1 := e t.1
      rw [cf_mem h.asc (.head _), a1, cf_mem k.asc (.head _)] at e1
      exact e1
    have ih := wf_ext (ts := r) (us := q) ⟨pt.2, fun x hx => h.nz x (.tail _ hx)⟩ ⟨ps.2, fun x hx => k.nz x (.tail _ hx)⟩ fun u => by
      by_cases z : t.1 = u
      · rw [cf_none fun x hx => by have := pt.1 x hx; omega, cf_none fun x hx => by have := ps.1 x hx; omega]
      · have := e u
        unfold cf at this
        rw [if_neg z, if_neg (fun k => z (a1.trans k))] at this
        exact this
    rw [ih, Prod.ext a1 a2]
/-! ### forms as data -/
def tmD (t : Int × Rat) : PyData := .tuple [.int t.1, qD t.2]
def fmD (f : Fm) : PyData := .tuple [qD f.1, .tuple (f.2.map tmD)]
def FmAt (K : PySem.W.Frag) (H : Hp) (v : V) (f : Fm) : Prop := ∃ a cv t vs, v = .ref a ∧ SqT K H a [cv, .ref t] ∧ Dp K H cv (qD f.1) ∧ Dm.PlT H t vs ∧ DpAll K H vs (f.2.map tmD)
section
variable {K : PySem.W.Frag} {H H' : Hp}
theorem FmAt.dp {v : V} {f : Fm} (h : FmAt K H v f) : Dp K H v (fmD f) := by
  obtain ⟨a, cv, t, vs, rfl, h1, h2, h3, h4⟩ := h
  exact .tup h1 (.cons h2 (.cons (.tup h3.sq h4) .nil))
theorem FmAt.mono {v : V} {f : Fm} (s : Same H H') (h : FmAt K H v f) : FmAt K H' v f := by
  obtain ⟨a, cv, t, vs, rfl, h1, h2, h3, h4⟩ := h
  exact ⟨a, cv, t, vs, rfl, seqT s h1, dp_mono s h2, h3.mono s, dp_monoA s h4⟩
theorem tup_q (r : Rat) : tupOnly (qD r) = true := rfl
theorem tup_tms : ∀ ts : Tms, tupOnlyA (ts.map tmD) = true
  | [] => rfl
  | a :: r => by
    show (tupOnly (tmD a) && tupOnlyA (r.map tmD)) = true
    rw [tup_tms r]
    rfl
theorem FmAt.kp {v : V} {f : Fm} {p : Addr} {xs : List V} (k : Kp p H H') (hp : H p = some (.lst xs)) (h : FmAt K H v f) : FmAt K H' v f := by
  obtain ⟨a, cv, t, vs, rfl, h1, h2, h3, h4⟩ := h
  exact ⟨a, cv, t, vs, rfl, seqT_kp k hp h1, dp_kp k hp (tup_q _) h2, h3.kp k hp, dp_kpA k hp (tup_tms _) h4⟩
theorem dp_tm {v : V} {t : Int × Rat} (h : Dp K H v (tmD t)) : ∃ p w, v = .ref p ∧ SqT K H p [.int t.1, w] ∧ Dp K H w (qD t.2) := by
  obtain ⟨p, v1, v2, rfl, hS, d1, d2⟩ := dp_t2 h
  obtain rfl := dp_int d1
  exact ⟨p, v2, rfl, hS, d2⟩
theorem dpa_len' : ∀ {ds : List PyData} {vs : List V}, DpAll K H vs ds → vs.length = ds.length
  | _, _, .nil => rfl
  | _, _, .cons _ a => by rw [List.length_cons, List.length_cons, dpa_len' a]
theorem dpa_gev' : ∀ {ds : List PyData} {vs : List V} {i : Nat} {v : V}, DpAll K H vs ds → vs[i]? = some v → ∃ d, ds[i]? = some d ∧ Dp K H v d
  | _, _, _, _, .nil, e => by cases e
  | _, _, 0, _, .cons h _, e => by
    cases e
    exact ⟨_, rfl, h⟩
  | _, _, i + 1, _, .cons _ a, e => dpa_gev' (i := i) a (by simpa using e)
theorem dpa_snoc {d : PyData} {v : V} (k : Dp K H v d) : ∀ {ds : List PyData} {vs : List V}, DpAll K H vs ds → DpAll K H (vs ++ [v]) (ds ++ [d])
  | _, _, .nil => .cons k .nil
  | _, _, .cons h a => .cons h (dpa_snoc k a)
/-- the terms as a dict's pairs -/
theorem tms_pairs : ∀ {ts : Tms} {vs : List V}, DpAll K H vs (ts.map tmD) → ∃ (ps : List Addr) (kvs : List (Key × V)), vs = ps.map V.ref ∧ Paired (fun p kv => SqT K H p [kV kv.1, kv.2]) ps kvs ∧
    kvs.map (·.1) = ts.map (fun t => Sum.inl t.1) ∧ ∀ u, (valV kvs (.inl u) = none ∧ cf ts u = 0) ∨ ∃ w, valV kvs (.inl u) = some w ∧ Dp K H w (qD (cf ts u))
  | [], _, h => by
    rw [dpa_nil h]
    exact ⟨[], [], rfl, .nil, rfl, fun u => .inl ⟨rfl, rfl⟩⟩
  | t :: r, _, h => by
    obtain ⟨v, vs, rfl, h1, h2⟩ := dpa_cons h
    obtain ⟨ps, kvs, rfl, hp, hk, hv⟩ := tms_pairs h2
    obtain ⟨p, w, rfl, hS, d⟩ := dp_tm h1
    refine ⟨p :: ps, (.inl t.1, w) :: kvs, rfl, .cons hS hp, by rw [List.map_cons, hk]; rfl, fun u => ?_⟩
    by_cases e : t.1 = u
    · rw [valV_pos (by rw [e])]
      unfold cf
      rw [if_pos e]
      exact .inr ⟨w, rfl, d⟩
    · rw [valV_neg (fun z => e (by injection z))]
      unfold cf
      rw [if_neg e]
      exact hv u
end
/-! ### keys of a merged dict -/
theorem key_old {L : List (Key × V)} {k : Key} (v : V) (e : k ∈ L.map (·.1)) : (putK L k v).map (·.1) = L.map (·.1) := by
  unfold putK
  rw [if_pos ?_]
  · rw [List.map_map]
    apply List.map_congr_left
    intro x _
    show (if x.1 = k then (x.1, v) else x).1 = x.1
    split <;> rfl
  · rw [List.any_eq_true]
    obtain ⟨x, hx, ex⟩ := List.mem_map.mp e
    exact ⟨x, hx, decide_eq_true ex⟩
theorem key_new {L : List (Key × V)} {k : Key} (v : V) (e : ¬ k ∈ L.map (·.1)) : (putK L k v).map (·.1) = L.map (·.1) ++ [k] := by
  unfold putK
  rw [if_neg ?_]
  · rw [List.map_append]; rfl
  · rw [List.any_eq_true]
    rintro ⟨x, hx, ex⟩
    exact e (List.mem_map.mpr ⟨x, hx, of_decide_eq_true ex⟩)
theorem inl_mem {u : Int} {ks : List Int} : (Sum.inl u : Key) ∈ ks.map Sum.inl ↔ u ∈ ks := by
  rw [List.mem_map]
  exact ⟨fun ⟨x, hx, e⟩ => by injection e with e; rw [← e]; exact hx, fun h => ⟨u, h, rfl⟩⟩
theorem keys_merge : ∀ {R L : List (Key × V)} {ks rs : List Int}, L.map (·.1) = ks.map Sum.inl → ks.Nodup → R.map (·.1) = rs.map Sum.inl →
    ∃ ks' : List Int, (mergeK L R).map (·.1) = ks'.map Sum.inl ∧ ks'.Nodup ∧ ∀ u, u ∈ ks' ↔ u ∈ ks ∨ u ∈ rs
  | [], L, ks, rs, hL, hn, hR => by
    have : rs = [] := by
      cases rs with
      | nil => rfl
      | cons _ _ => cases hR
    subst this
    exact ⟨ks, hL, hn, fun u => by simp⟩
  | p :: R, L, ks, rs, hL, hn, hR => by
    match rs, hR with
    | r :: rs, hR =>
      rw [List.map_cons, List.map_cons] at hR
      injection hR with e1 e2
      by_cases c : r ∈ ks
      · obtain ⟨ks', h1, h2, h3⟩ := keys_merge (R := R) (L := putK L p.1 p.2) (ks := ks) (rs := rs) (by rw [key_old _ (by rw [hL, e1]; exact inl_mem.mpr c), hL]) hn e2
        refine ⟨ks', h1, h2, fun u => ?_⟩
        rw [h3, List.mem_cons]
        exact ⟨fun h => h.imp id .inr, fun h => h.elim .inl fun h => h.elim (fun z => .inl (z ▸ c)) .inr⟩
      · obtain ⟨ks', h1, h2, h3⟩ := keys_merge (R := R) (L := putK L p.1 p.2) (ks := ks ++ [r]) (rs := rs) (by rw [key_new _ (by rw [hL, e1]; exact fun z => c (inl_mem.mp z)), hL, e1, List.map_append]; rfl)
          (by rw [List.nodup_append]; exact ⟨hn, by simp, fun x hx y hy => by rw [List.mem_singleton.mp hy]; exact fun z => c (z ▸ hx)⟩) e2
        refine ⟨ks', h1, h2, fun u => ?_⟩
        rw [h3, List.mem_append, List.mem_singleton, List.mem_cons]
        exact ⟨fun h => h.elim (fun h => h.elim .inl fun h => .inr (.inl h)) fun h => .inr (.inr h), fun h => h.elim (fun h => .inl (.inl h)) fun h => h.elim (fun h => .inl (.inr h)) .inr⟩
theorem mergeK_nodup : ∀ {more acc : List (Key × V)}, ((acc ++ more).map (·.1)).Nodup → mergeK acc more = acc ++ more
  | [], acc, _ => by rw [List.append_nil]; rfl
  | p :: r, acc, h => by
    have f : valV acc p.1 = none := by
      have n : p.1 ∉ acc.map (·.1) := fun z => by
        rw [List.map_append, List.nodup_append] at h
        exact h.2.2 _ z _ (by rw [List.map_cons]; exact .head _) rfl
      have q := valV_any p.1 acc
      cases e : valV acc p.1 with
      | none => rfl
      | some x =>
        rw [e] at q
        obtain ⟨y, hy, ey⟩ := List.any_eq_true.mp (q.trans rfl)
        exact absurd (List.mem_map.mpr ⟨y, hy, of_decide_eq_true ey⟩) n
    show mergeK (putK acc p.1 p.2) r = _
    rw [putK_new _ f, mergeK_nodup (by simpa using h), List.append_assoc]
    rfl
theorem nodup_le : ∀ {xs ys : List Int}, xs.Nodup → (∀ x ∈ xs, x ∈ ys) → xs.length ≤ ys.length
  | [], _, _, _ => Nat.zero_le _
  | x :: xs, ys, h, s => by
    rw [List.nodup_cons] at h
    have hx := s x (.head _)
    have := nodup_le (xs := xs) (ys := ys.erase x) h.2 fun z hz => (List.mem_erase_of_ne (fun e => by subst e; exact h.1 hz)).mpr (s z (.tail _ hz))
    rw [List.length_erase_of_mem hx] at this
    have p := List.length_pos_of_mem hx
    rw [List.length_cons]
    omega
theorem lt_of_sorted : ∀ {ys : List Int}, ys.Pairwise (· ≤ ·) → ys.Nodup → ys.Pairwise (· < ·)
  | [], _, _ => .nil
  | y :: ys, h, n => by
    rw [List.pairwise_cons] at h
    rw [List.nodup_cons] at n
    exact .cons (fun z hz => by have := h.1 z hz; have : y ≠ z := fun e => n.1 (e ▸ hz); omega) (lt_of_sorted h.2 n.2)
theorem asc_nodup {ts : Tms} (h : ts.Pairwise (fun a b => a.1 < b.1)) : (ts.map (·.1)).Nodup := by
  rw [List.nodup_iff_pairwise_ne, List.pairwise_map]
  exact h.imp fun {a b} z => by omega
theorem inl_nodup {ks : List Int} (h : ks.Nodup) : (ks.map (Sum.inl : Int → Key)).Nodup := by
  rw [List.nodup_iff_pairwise_ne, List.pairwise_map]
  rw [List.nodup_iff_pairwise_ne] at h
  exact h.imp fun {a b} z e => z (by injection e)
/-- the operation that is handed to combine_forms -/
def IsOp (A : Nat → Addr) (fa : Addr) (op : Rat → Rat → Rat) : Prop := (fa = (A 8) ∧ op = (· + ·)) ∨ (fa = (A 9) ∧ op = (· - ·))
theorem IsOp.zero {A : Nat → Addr} {fa : Addr} {op : Rat → Rat → Rat} (h : IsOp A fa op) : op 0 0 = 0 := by
  rcases h with ⟨_, rfl⟩ | ⟨_, rfl⟩
  · exact Rat.add_zero 0
  · exact Rat.sub_self
theorem z_opL {K : PySem.W.Frag} {A : Nat → Addr} {fa : Addr} {op : Rat → Rat → Rat} {i : Nat} {σ : L2.St} {H : Hp} {Q : VK} {E : XK} {t : TA} (hop : IsOp A fa op) (hs : σ[i]? = some (some (.ref fa))) (h : t σ H fun vs H1 => sp_op K A op vs H1 Q E) :
    Dm.tOr2 (tCallL i (A 8) (sp_op K A (· + ·)) [] E t) (tCallL i (A 9) (sp_op K A (· - ·)) [] E t) σ H Q := by
  have e0 : ∀ sp : Sp, (fun (vs : List V) (H1 : Hp) => sp (vs ++ []) H1 Q E) = fun vs H1 => sp vs H1 Q E := fun sp => by
    funext vs H1
    rw [List.append_nil]
  rcases hop with ⟨rfl, rfl⟩ | ⟨rfl, rfl⟩
  · refine .inl ⟨hs, ?_⟩
    rw [e0]
    exact h
  · refine .inr ⟨hs, ?_⟩
    rw [e0]
    exact h
/-! ### the program's forms -/
def FitF (f : Fm) : Prop := fitsQ f.1 ∧ ∀ u, fitsQ (cf f.2 u)
def Keys (ts : Tms) (U : List Int) : Prop := ∀ t ∈ ts, t.1 ∈ U
theorem fits0 : fitsQ 0 := by unfold fitsQ lim; decide
theorem FitF.of {f : Fm} (h : fitsQ f.1) (k : ∀ t ∈ f.2, fitsQ t.2) : FitF f := ⟨h, fun u => by
  rcases cf_in (ts := f.2) u with e | e
  · rw [e]; exact fits0
  · exact k _ e⟩
theorem FitF.mem {f : Fm} (h : FitF f) (w : Wf f.2) {t : Int × Rat} (ht : t ∈ f.2) : fitsQ t.2 := by
  rw [← cf_mem w.asc ht]
  exact h.2 _
/-- a form is handed back, or TooGreat is raised -/
def RetF (K : PySem.W.Frag) (A : Nat → Addr) (c : Rat) (r : Int → Rat) (H : Hp) (Q : VK) (E : XK) : Prop :=
  ((fitsQ c ∧ ∀ u, fitsQ (r u)) → ∀ v ts H', Same H H' → FmAt K H' v (c, ts) → Wf ts → (∀ u, cf ts u = r u) → Q v H') ∧ (¬ (fitsQ c ∧ ∀ u, fitsQ (r u)) → ∀ H', Same H H' → E (.ref (A 1)) none H')
/-- a dict of the terms -/
def DcF (K : PySem.W.Frag) (H : Hp) (p : Addr) (ts : Tms) : Prop := ∃ kvs : List (Key × V), H p = some (.dK kvs) ∧ kvs.map (·.1) = ts.map (fun t => Sum.inl t.1) ∧
  ∀ u, (valV kvs (.inl u) = none ∧ cf ts u = 0) ∨ ∃ w, valV kvs (.inl u) = some w ∧ Dp K H w (qD (cf ts u))
section
variable {K : PySem.W.Frag} {H H' : Hp} {p : Addr} {ts us : Tms} {Q : VK}
theorem DcF.mono (s : Same H H') (h : DcF K H p ts) : DcF K H' p ts := by
  obtain ⟨kvs, e, hk, hv⟩ := h
  exact ⟨kvs, s _ _ e, hk, fun u => (hv u).imp id fun ⟨w, h1, h2⟩ => ⟨w, h1, dp_mono s h2⟩⟩
theorem DcF.kp {D : Addr} {xs : List V} (k : Kp D H H') (hp : H D = some (.lst xs)) (h : DcF K H p ts) : DcF K H' p ts := by
  obtain ⟨kvs, e, hk, hv⟩ := h
  refine ⟨kvs, k _ _ (fun z => ?_) e, hk, fun u => (hv u).imp id fun ⟨w, h1, h2⟩ => ⟨w, h1, dp_kp k hp (tup_q _) h2⟩⟩
  rw [z, hp] at e
  cases e
theorem DcF.keys {kvs : List (Key × V)} (hk : kvs.map (·.1) = ts.map (fun t => (Sum.inl t.1 : Key))) : kvs.map (·.1) = (ts.map (·.1)).map Sum.inl := by rw [hk, List.map_map]; rfl
theorem z_dictF {t : Addr} {vs : List V} (hp : Dm.PlT H t vs) (hd : DpAll K H vs (ts.map tmD)) (asc : ts.Pairwise (fun a b => a.1 < b.1)) (q : ∀ p H', H p = none → Same H H' → DcF K H' p ts → Q (.ref p) H') : Dm.rDictT K [.ref t] H Q := by
  obtain ⟨ps, kvs, rfl, hps, hk, hv⟩ := tms_pairs hd
  refine ⟨t, ps, kvs, rfl, hp, hps, fun p h0 => q p _ h0 (same_upd h0) ?_⟩
  have e : mergeK [] kvs = kvs := by
    have n : (([] ++ kvs : List (Key × V)).map (·.1)).Nodup := by
      rw [List.nil_append, DcF.keys hk]
      exact inl_nodup (asc_nodup asc)
    exact mergeK_nodup n
  rw [e]
  exact ⟨kvs, upd_same, hk, fun u => (hv u).imp id fun ⟨w, h1, h2⟩ => ⟨w, h1, dp_mono (same_upd h0) h2⟩⟩
theorem DcF.len {kvs : List (Key × V)} (hk : kvs.map (·.1) = ts.map (fun t => (Sum.inl t.1 : Key))) : kvs.length = ts.length := by
  have := congrArg List.length hk
  rwa [List.length_map, List.length_map] at this
theorem z_mrg {i j : Nat} {σ : L2.St} {a b : Addr} (hi : σ[i]? = some (some (.ref a))) (hj : σ[j]? = some (some (.ref b))) (ha : DcF K H a ts) (hb : DcF K H b us) (na : ts.Pairwise (fun a b => a.1 < b.1)) (la : ts.length ≤ 1000) (lb : us.length ≤ 1000)
    (q : ∀ p H' (M : List (Key × V)) (ks : List Int), H p = none → Same H H' → H' p = some (.dK M) → M.map (·.1) = ks.map Sum.inl → ks.Nodup → (∀ u, u ∈ ks ↔ u ∈ ts.map (·.1) ∨ u ∈ us.map (·.1)) → Q (.ref p) H') : Dm.tMrg2 (tVar i) (tVar j) σ H Q := by
  obtain ⟨L, eL, hL, _⟩ := ha
  obtain ⟨R, eR, hR, _⟩ := hb
  have lL := DcF.len hL
  have lR := DcF.len hR
  have mL : mergeK [] L = L := by
    have n : (([] ++ L : List (Key × V)).map (·.1)).Nodup := by
      rw [List.nil_append, DcF.keys hL]
      exact inl_nodup (asc_nodup na)
    exact mergeK_nodup n
  intro p h0
  have ap := ne_of_none eL h0
  have bp := ne_of_none eR h0
  refine ⟨_, hi, a, L, rfl, by rw [upd_ne ap]; exact eL, ap, upd_same, by omega, _, hj, b, R, rfl, by rw [upd_ne bp, upd_ne bp]; exact eR, bp, upd_same, by omega, ?_⟩
  rw [mL]
  obtain ⟨ks, h1, h2, h3⟩ := keys_merge (L := L) (R := R) (DcF.keys hL) (asc_nodup na) (DcF.keys hR)
  rw [show upd (upd (upd H p (.dK [])) p (.dK L)) p (.dK (mergeK L R)) = upd H p (.dK (mergeK L R)) by rw [upd_upd, upd_upd]]
  exact q p _ _ ks h0 (same_upd h0) upd_same h1 h2 h3
theorem z_sortD {a : Addr} {M : List (Key × V)} {ks U : List Int} (h : H a = some (.dK M)) (hk : M.map (·.1) = ks.map Sum.inl) (nd : ks.Nodup) (hU : U.length < 64) (kU : ∀ u ∈ ks, u ∈ U)
    (q : ∀ p H' (ys : List Int), H p = none → Same H H' → H' p = some (.lst (ys.map V.int)) → ys.Pairwise (· < ·) → (∀ u, u ∈ ys ↔ u ∈ ks) → ys.length < 64 → Q (.ref p) H') : Dm.rSortD [.ref a] H Q := by
  have hl := nodup_le nd kU
  refine ⟨a, M, ks, rfl, .inl h, hk, by omega, fun ys p pm pw h0 => q p _ ys h0 (same_upd h0) upd_same (lt_of_sorted pw (pm.nodup_iff.mpr nd)) (fun u => pm.mem_iff) (by rw [pm.length_eq]; omega)⟩
theorem z_get {i j : Nat} {σ : L2.St} {a : Addr} {u : Int} {z : V} (hi : σ[i]? = some (some (.ref a))) (hj : σ[j]? = some (some (.int u))) (ha : DcF K H a ts) (hz : Dp K H z (qD 0)) (q : ∀ w, Dp K H w (qD (cf ts u)) → Q w H) : tDGet2 (tVar i) (tVar j) (tC z) σ H Q := by
  obtain ⟨L, eL, hL, hv⟩ := ha
  refine ⟨_, hi, a, rfl, .inl ⟨L, .inl eL⟩, _, hj, _, DGet.k (k := .inl u) eL, ?_⟩
  rcases hv u with ⟨e, c⟩ | ⟨w, e, d⟩
  · rw [e]
    exact q z (by rw [c]; exact hz)
  · rw [e]
    exact q w d
theorem same_kpD {H0 : Hp} {D : Addr} (s : Same H0 H) (h0 : H0 D = none) (k : Kp D H H') : Same H0 H' := fun b x e => k _ _ (ne_of_none e h0) (s _ _ e)
end
def sp_combine (K : PySem.W.Frag) (A : Nat → Addr) : Sp := fun vs H Q E => ∃ (v w : V) (fa : Addr) (op : Rat → Rat → Rat) (f g : Fm) (U : List Int), vs = [v, w, .ref fa] ∧ IsOp A fa op ∧ FmAt K H v f ∧ FmAt K H w g ∧ Wf f.2 ∧ Wf g.2 ∧ FitF f ∧ FitF g ∧ U.length < 64 ∧ Keys f.2 U ∧ Keys g.2 U ∧
  RetF K A (op f.1 g.1) (fun u => op (cf f.2 u) (cf g.2 u)) H Q E
theorem keys_len {ts : Tms} {U : List Int} (w : Wf ts) (k : Keys ts U) : ts.length ≤ U.length := by
  have := nodup_le (asc_nodup w.asc) (ys := U) fun x hx => by
    obtain ⟨t, ht, rfl⟩ := List.mem_map.mp hx
    exact k t ht
  rwa [List.length_map] at this
section
theorem ok_combine_forms {P : Program} {w : World} {K : PySem.W.Frag} {mg : Str → Option Value} {base : Heap} {A : Nat → Addr} {D : Nat → FuncData} (T : Txt K mg A D) : FnOk P w K mg base (L2N.CX P w) 3 (A 16) (D 16) ["a", "b", "operation"] (sp_combine K A) := by
  refine T.F_combine_forms.okN sc_combine_forms (fun vs H Q E h => ?_) (fun cdv A' outer s H vs Q E hr h => ?_)
  · obtain ⟨v, w', fa, op, f, g, U, rfl, _⟩ := h
    rfl
  obtain ⟨v, w', fa, op, f, g, U, rfl, hop, hf, hg, wf, wg, ff, fg, hU, kf, kg, q⟩ := h
  refine ⟨_, (pss_cons (ps_set (i := 3) sc_combine_forms.nd rfl (.inl rfl) (Dm.pe_or2 (pe_callL (i := 2) (ok_add T) (hr.mono (by decide)) (by rfl) (.inl rfl) T.F_add.kp T.b_add .nil (L2N.passes_call (L2N.takes_of rfl rfl rfl rfl) (fun _ _ _ _ h => h)) (pa_cons (pe_ix ix_tup (pv 0) pe_int (fun _ _ => rfl)) (pa_cons (pe_ix ix_tup (pv 1) pe_int (fun _ _ => rfl)) pa_nil))) (pe_callL (i := 2) (ok_subtract T) (hr.mono (by decide)) (by rfl) (.inl rfl) T.F_subtract.kp T.b_subtract .nil (L2N.passes_call (L2N.takes_of rfl rfl rfl rfl) (fun _ _ _ _ h => h)) (pa_cons (pe_ix ix_tup (pv 0) pe_int (fun _ _ => rfl)) (pa_cons (pe_ix ix_tup (pv 1) pe_int (fun _ _ => rfl)) pa_nil)))))
  (pss_cons (ps_set (i := 4) sc_combine_forms.nd rfl (.inl rfl) (pe_callTy (Dm.call_dictT rfl) (by rfl) T.z_dict (by decide +kernel) (pa_cons (pe_ix ix_tup (pv 0) pe_int (fun _ _ => rfl)) pa_nil)))
  (pss_cons (ps_set (i := 5) sc_combine_forms.nd rfl (.inl rfl) (pe_callTy (Dm.call_dictT rfl) (by rfl) T.z_dict (by decide +kernel) (pa_cons (pe_ix ix_tup (pv 1) pe_int (fun _ _ => rfl)) pa_nil)))
  (pss_cons (ps_set (i := 6) sc_combine_forms.nd rfl (.inl rfl) (pe_lst pa_nil))
  (pss_cons (ps_for (passes_of rfl) rfl (pi_list (pe_callB (Dm.cr_sortD rfl) (by rfl) T.z_sorted (by decide +kernel) (pa_cons (Dm.pe_mrg2 (pv 4) (pv 5)) pa_nil))) (pg_name (i := 7) sc_combine_forms.nd rfl (.inl rfl))
  (pss_cons (ps_set (i := 8) sc_combine_forms.nd rfl (.inl rfl) (Dm.pe_or2 (pe_callL (i := 2) (ok_add T) (hr.mono (by decide)) (by rfl) (.inl rfl) T.F_add.kp T.b_add .nil (L2N.passes_call (L2N.takes_of rfl rfl rfl rfl) (fun _ _ _ _ h => h)) (pa_cons (pe_dget2 (Nat.lt_of_le_of_lt (Nat.add_le_add_left (by decide) _) hr.units) (pv 4) (pv 7) (Z.pe_globR T.c_ZERO) ⟨rfl, rfl, rfl, rfl⟩) (pa_cons (pe_dget2 (Nat.lt_of_le_of_lt (Nat.add_le_add_left (by decide) _) hr.units) (pv 5) (pv 7) (Z.pe_globR T.c_ZERO) ⟨rfl, rfl, rfl, rfl⟩) pa_nil))) (pe_callL (i := 2) (ok_subtract T) (hr.mono (by decide)) (by rfl) (.inl rfl) T.F_subtract.kp T.b_subtract .nil (L2N.passes_call (L2N.takes_of rfl rfl rfl rfl) (fun _ _ _ _ h => h)) (pa_cons (pe_dget2 (Nat.lt_of_le_of_lt (Nat.add_le_add_left (by decide) _) hr.units) (pv 4) (pv 7) (Z.pe_globR T.c_ZERO) ⟨rfl, rfl, rfl, rfl⟩) (pa_cons (pe_dget2 (Nat.lt_of_le_of_lt (Nat.add_le_add_left (by decide) _) hr.units) (pv 5) (pv 7) (Z.pe_globR T.c_ZERO) ⟨rfl, rfl, rfl, rfl⟩) pa_nil)))))
  (pss_one (ps_if (pt_cmpR (op_neD hr.units) (pv 8) (Z.pe_globR T.c_ZERO) (nomark _))
  (pss_one (ps_expr (pe_bm PySem.F.plainAttrs_list PySem.F.slot_list_append PySem.F.type_list_append mt_append (pv 6) (pa_cons (pe_tup (pa_cons (pv 7) (pa_cons (pv 8) pa_nil))) pa_nil))))
  pss_nil))))
  (pss_one (ps_ret (pe_tup (pa_cons (pv 3) (pa_cons (pe_callTy Dm.c_tupOfF (by rfl) T.z_tuple (by decide +kernel) (pa_cons (pv 6) pa_nil)) pa_nil)))))))))), ?_⟩
  obtain ⟨a, ca, ta, va, rfl, sa, da, pa, la⟩ := hf
  obtain ⟨b, cb, tb, vb, rfl, sb, db, pb, lb⟩ := hg
  walk_at "z"
  refine z_opL hop rfl ?_
  walk_at "z"
  refine ⟨_, _, f.1, g.1, rfl, da, db, fits_bg ff.1, fits_bg fg.1, fun n => q.2 (fun z => n z.1) H (fun _ _ z => z), fun hc v1 H1 s1 d1 => ?_⟩
  walk_at "z"
  refine z_ixT (seqT s1 sa) (i := 1) rfl ?_
  walk_at "z"
  refine z_dictF (pa.mono s1) (dp_monoA s1 la) wf.asc fun p2 H2 f2 s2 e2 => ?_
  walk_at "z"
  refine z_ixT (seqT (s1.trans s2) sb) (i := 1) rfl ?_
  walk_at "z"
  refine z_dictF (pb.mono (s1.trans s2)) (dp_monoA (s1.trans s2) lb) wg.asc fun p3 H3 f3 s3 e3 => ?_
  walk_at "z"
  intro D H4 fD s4 hD
  walk_at "z"
  refine z_forE ?_
  walk_at "z"
  have kl1 := keys_len wf kf
  have kl2 := keys_len wg kg
  refine z_mrg rfl rfl ((e2.mono s3).mono s4) (e3.mono s4) wf.asc (by omega) (by omega) fun p5 H5 M ks f5 s5 h5 hM nd mk => ?_
  walk_at "z"
  refine z_sortD h5 hM nd hU (fun u hu => ?_) fun L H6 ys f6 s6 h6 pw my ly => ?_
  · rcases (mk u).mp hu with h | h
    · obtain ⟨t, ht, rfl⟩ := List.mem_map.mp h
      exact kf t ht
    · obtain ⟨t, ht, rfl⟩ := List.mem_map.mp h
      exact kg t ht
  have s46 := s5.trans s6
  have s16 := ((s2.trans s3).trans s4).trans s46
  have dL := ((e2.mono s3).mono s4).mono s46
  have dR := (e3.mono s4).mono s46
  have hD6 := s46 _ _ hD
  have d16 := dp_mono s16 d1
  have hDf : H D = none := fresh_of ((s1.trans s2).trans s3) fD
  have s06 := s1.trans s16
  unfold ForL
  refine z_forL (fun R q => q) (.inl (.inl h6)) (fun i σ' H' => Kp D H6 H' ∧ (∃ acc, H' D = some (.lst acc) ∧ DpAll K H' acc (((ys.take i).filterMap fun y => if op (cf f.2 y) (cf g.2 y) ≠ 0 then some (y, op (cf f.2 y) (cf g.2 y)) else none).map tmD)) ∧
      (∃ x1 x2, σ' = [some (.ref a), some (.ref b), some (.ref fa), some v1, some (.ref p2), some (.ref p3), some (.ref D), x1, x2]) ∧ ∀ y ∈ ys.take i, fitsQ (op (cf f.2 y) (cf g.2 y)))
    ⟨fun _ _ _ e => e, ⟨[], hD6, .nil⟩, ⟨_, _, rfl⟩, fun _ h => (by cases h)⟩ (fun i σ' H' _ h => .inl (.inl (h.1 _ _ (fun z => ?_) h6))) ?_ ?_
  · exact absurd z.symm (ne_of_none (s5 _ _ hD) f6)
  · rintro i x σ' H' hx ⟨k7, ⟨acc, h7, a7⟩, ⟨x1, x2, rfl⟩, fy⟩
    rw [List.getElem?_map] at hx
    cases hy : ys[i]? with
    | none => rw [hy] at hx; cases hx
    | some y =>
      rw [hy] at hx
      cases hx
      have dL7 := dL.kp k7 hD6
      have dR7 := dR.kp k7 hD6
      walk_at "z"
      refine z_opL hop rfl ?_
      walk_at "z"
      refine z_get rfl rfl dL7 (T.d_ZERO H') fun w1 dw1 => ?_
      walk_at "z"
      refine z_get rfl rfl dR7 (T.d_ZERO H') fun w2 dw2 => ?_
      walk_at "z"
      refine ⟨_, _, _, _, rfl, dw1, dw2, fits_bg (ff.2 y), fits_bg (fg.2 y), fun n => q.2 (fun z => n (z.2 y)) H' (same_kpD s06 hDf k7), fun hcy v8 H8 s8 d8 => ?_⟩
      have fy8 : ∀ z ∈ ys.take (i + 1), fitsQ (op (cf f.2 z) (cf g.2 z)) := fun z hz => by
        rw [List.take_add_one, hy] at hz
        rcases List.mem_append.mp hz with h | h
        · exact fy z h
        · cases List.mem_singleton.mp h
          exact hcy
      walk_at "z"
      refine z_neQ d8 (show Dp K H8 _ (qD 0) from T.d_ZERO H8) ?_
      walk_at "z"
      have e8 : (ys.take (i + 1)).filterMap (fun y => if op (cf f.2 y) (cf g.2 y) ≠ 0 then some (y, op (cf f.2 y) (cf g.2 y)) else none) = ((ys.take i).filterMap fun y => if op (cf f.2 y) (cf g.2 y) ≠ 0 then some (y, op (cf f.2 y) (cf g.2 y)) else none) ++ (if op (cf f.2 y) (cf g.2 y) ≠ 0 then [(y, op (cf f.2 y) (cf g.2 y))] else []) := by
        rw [List.take_add_one, hy, List.filterMap_append]
        congr 1
        by_cases c : op (cf f.2 y) (cf g.2 y) ≠ 0
        · rw [if_pos c]
          show List.filterMap _ [y] = _
          rw [List.filterMap_cons, if_pos c]
          rfl
        · rw [if_neg c]
          show List.filterMap _ [y] = _
          rw [List.filterMap_cons, if_neg c]
          rfl
      have la : acc.length < 1000 := by
        have := dpa_len' a7
        rw [List.length_map] at this
        have h2 := List.length_filterMap_le (fun y => if op (cf f.2 y) (cf g.2 y) ≠ 0 then some (y, op (cf f.2 y) (cf g.2 y)) else none) (ys.take i)
        have h3 : (ys.take i).length ≤ ys.length := by rw [List.length_take]; omega
        omega
      refine z_if (fun c => ?_) (fun c => ?_)
      · walk_at "z"
        refine z_bmL (fun R q => by walk_at "z"; exact q) (s8 _ _ h7) ?_
        walk_at "z"
        intro p9 H9 f9 s9 h9
        walk_at "z"
        have hD9 := s9 _ _ (s8 _ _ h7)
        refine z_append hD9 la ?_
        walk_at "z"
        have k9 : Kp D H9 (upd H9 D (.lst (acc ++ [.ref p9]))) := fun b x hb e => by rw [upd_ne hb]; exact e
        refine ⟨(k7.trans' (kp_of (s8.trans s9))).trans' k9, ⟨_, upd_same, ?_⟩, ⟨_, _, rfl⟩, fy8⟩
        rw [e8, if_pos c, List.map_append]
        exact dp_kpA k9 hD9 (by rw [← List.map_append]; exact tup_tms _) (dpa_snoc (dp_mk h9 (.cons (.int _) (.cons (dp_mono s9 d8) .nil))) (dp_monoA (s8.trans s9) a7))
      · walk_at "z"
        refine ⟨k7.trans' (kp_of s8), ⟨acc, s8 _ _ h7, ?_⟩, ⟨_, _, rfl⟩, fy8⟩
        rw [e8, if_neg c, List.append_nil]
        exact dp_monoA s8 a7
  · rintro σ' H' ⟨k7, ⟨acc, h7, a7⟩, ⟨x1, x2, rfl⟩, fy⟩
    rw [List.length_map, List.take_length] at a7 fy
    walk_at "z"
    have s07 := same_kpD s06 hDf k7
    refine ⟨D, acc, rfl, .inl (.inl h7), fun t o ft oc od => ?_⟩
    walk_at "z"
    intro p9 H9 f9 s9 h9
    have mz : ∀ u, ¬ u ∈ ys → op (cf f.2 u) (cf g.2 u) = 0 := fun u hu => by
      have h0 : ¬ (u ∈ f.2.map (·.1) ∨ u ∈ g.2.map (·.1)) := fun z => hu ((my u).mpr ((mk u).mpr z))
      rw [cf_none fun t ht e => h0 (.inl (List.mem_map.mpr ⟨t, ht, e⟩)), cf_none fun t ht e => h0 (.inr (List.mem_map.mpr ⟨t, ht, e⟩)), hop.zero]
    have ss := same_upd (o := .frz o (.tup acc)) ft
    refine q.1 ⟨hc, fun u => ?_⟩ _ (ys.filterMap fun y => if op (cf f.2 y) (cf g.2 y) ≠ 0 then some (y, op (cf f.2 y) (cf g.2 y)) else none) H9 ((s07.trans ss).trans s9) ?_ (wf_fm (r := fun y => op (cf f.2 y) (cf g.2 y)) pw) fun u => ?_
    · by_cases hu : u ∈ ys
      · exact fy u hu
      · show fitsQ (op _ _)
        rw [mz u hu]
        exact fits0
    · have d7 := dp_kp k7 hD6 (tup_q _) d16
      exact ⟨p9, v1, t, acc, rfl, .inl (.inl h9), dp_mono s9 (dp_mono ss d7), Dm.PlT.mono s9 ⟨o, upd_same, oc, od⟩, dp_monoA s9 (dp_monoA ss a7)⟩
    · rw [cf_fm (r := fun y => op (cf f.2 y) (cf g.2 y))]
      by_cases hu : u ∈ ys
      · rw [if_pos hu]
      · rw [if_neg hu]
        exact (mz u hu).symm
end
/-! ### comprehensions over a tuple, with a test -/
def LcTE (K : PySem.W.Frag) (g : TG) (tt : TT) (te : TE) (vs : List Nat) (σ : L2.St) (Q : VK) : VK := fun x H1 => tLc (iTup K (tC x)) g tt te vs σ H1 Q
def ForT (K : PySem.W.Frag) (g : TG) (tb : TS) (n : L2.St → Hp → Prop) (r : VK) (b c : L2.St → Hp → Prop) (σ : L2.St) : VK := fun x H1 => tFor (iTup K (tC x)) g tb ⟨n, r, b, c⟩ σ H1
section
variable {K : PySem.W.Frag} {H : Hp} {Q : VK} {σ : L2.St}
theorem z_lcTE {tl : TE} {g : TG} {tt : TT} {te : TE} {vs : List Nat} (h : tl σ H (LcTE K g tt te vs σ Q)) : tLc (iTup K tl) g tt te vs σ H Q := h
theorem z_forTE {tl : TE} {g : TG} {tb : TS} {n : L2.St → Hp → Prop} {r : VK} {b c : L2.St → Hp → Prop} (h : tl σ H (ForT K g tb n r b c σ)) : tFor (iTup K tl) g tb ⟨n, r, b, c⟩ σ H := h
theorem z_forTT {g : TG} {tb : TS} {n : L2.St → Hp → Prop} {r : VK} {b c : L2.St → Hp → Prop} {a : Addr} {xs : List V} (hx : SqT K H a xs) (Pv : Nat → L2.St → Hp → Prop) (h0 : Pv 0 σ H) (hl : ∀ i σ H, i ≤ xs.length → Pv i σ H → SqT K H a xs)
    (hs : ∀ i x σ H, xs[i]? = some x → Pv i σ H → g x σ H fun σ2 H2 => tb ⟨Pv (i + 1), r, n, Pv (i + 1)⟩ σ2 H2) (hd : ∀ σ H, Pv xs.length σ H → n σ H) : ForT K g tb n r b c σ (.ref a) H := z_forT (fun R q => q) hx Pv h0 hl hs hd
theorem tupOnly_at : ∀ {ds : List PyData} {i : Nat} {d : PyData}, tupOnlyA ds = true → ds[i]? = some d → tupOnly d = true
  | d0 :: r, 0, d, h, e => by
    have h' : (tupOnly d0 && tupOnlyA r) = true := h
    rw [Bool.and_eq_true] at h'
    cases e
    exact h'.1
  | d0 :: r, i + 1, d, h, e => by
    have h' : (tupOnly d0 && tupOnlyA r) = true := h
    rw [Bool.and_eq_true] at h'
    exact tupOnly_at (i := i) h'.2 (by simpa using e)
theorem tupOnly_all : ∀ {ds : List PyData}, (∀ d ∈ ds, tupOnly d = true) → tupOnlyA ds = true
  | [], _ => rfl
  | d :: r, h => by
    show (tupOnly d && tupOnlyA r) = true
    rw [h d (.head _), tupOnly_all fun x hx => h x (.tail _ hx)]
    rfl
theorem z_lcTT {g : TG} {tt : TT} {te : TE} {vs : List Nat} {a : Addr} {xs : List V} (es : List (Option PyData)) (hl : es.length = xs.length) (hm : xs.length ≤ 1000) (hx : SqT K H a xs) (ht : ∀ d, some d ∈ es → tupOnly d = true)
    (hs : ∀ (i : Nat) (x : V) (H' : Hp) (R : VK) (R0 : Hp → Prop), xs[i]? = some x → Same H H' → (∀ d, es[i]? = some (some d) → ∀ v H3, Same H' H3 → Dp K H3 v d → R v H3) → (es[i]? = some none → ∀ H3, Same H' H3 → R0 H3) → g x (wipe σ vs) H' fun σ2 H2 => wipe σ2 vs = wipe σ vs ∧ tt σ2 H2 fun b H3 => if b = true then te σ2 H3 R else R0 H3)
    (hd : ∀ D acc H', H D = none → Same H H' → H' D = some (.lst acc) → DpAll K H' acc (es.filterMap id) → Q (.ref D) H') : LcTE K g tt te vs σ Q (.ref a) H := by
  refine ⟨a, rfl, ⟨xs, hx⟩, fun D hD => ?_⟩
  have tk : ∀ i, tupOnlyA ((es.take i).filterMap id) = true := fun i => tupOnly_all fun d h => by
    obtain ⟨o, ho, e⟩ := List.mem_filterMap.mp h
    subst e
    exact ht d (List.mem_of_mem_take ho)
  refine lc_tup (xs := xs) (fun i H' => Same H H' ∧ ∃ acc, acc.length ≤ i ∧ H' D = some (.lst acc) ∧ DpAll K H' acc ((es.take i).filterMap id)) ⟨same_upd hD, [], Nat.le_refl _, upd_same, .nil⟩ (fun i H' _ h => seqT h.1 hx) (fun i x H' hi ⟨s', acc, la, hA, dA⟩ => ?_) (fun H' ⟨s', acc, la, hA, dA⟩ => ?_)
  · have hi' : i < xs.length := (List.getElem?_eq_some_iff.mp hi).1
    have h := hs i x H' (LcB D i (fun _ _ _ _ => True) fun H4 => Same H H4 ∧ ∃ acc, acc.length ≤ i + 1 ∧ H4 D = some (.lst acc) ∧ DpAll K H4 acc ((es.take (i + 1)).filterMap id))
      (fun H4 => Same H H4 ∧ ∃ acc, acc.length ≤ i + 1 ∧ H4 D = some (.lst acc) ∧ DpAll K H4 acc ((es.take (i + 1)).filterMap id)) hi s' (fun d ed v H3 s3 dv => ?_) (fun en H3 s3 => ?_)
    · exact h
    · refine ⟨acc, s3 _ _ hA, Nat.lt_of_lt_of_le (show acc.length < 1000 by omega) (by decide), fun b o e => ?_, acc ++ [v], by simp; omega, upd_same, ?_⟩
      · rw [upd_ne (ne_of_none e hD)]
        exact s3 _ _ (s' _ _ e)
      · have k5 : Kp D H3 (upd H3 D (.lst (acc ++ [v]))) := fun b o hb e => by rw [upd_ne hb]; exact e
        have e5 : (es.take (i + 1)).filterMap id = (es.take i).filterMap id ++ [d] := by
          rw [List.take_add_one, ed, List.filterMap_append]; rfl
        rw [e5]
        have td := ht d (List.mem_of_getElem? ed)
        refine dp_kpA k5 (s3 _ _ hA) ?_ (dpa_snoc dv (dp_monoA s3 dA))
        rw [← e5]
        exact tk _
    · have e5 : (es.take (i + 1)).filterMap id = (es.take i).filterMap id := by
        rw [List.take_add_one, en, List.filterMap_append]
        show _ ++ [] = _
        rw [List.append_nil]
      exact ⟨s'.trans s3, acc, by omega, s3 _ _ hA, by rw [e5]; exact dp_monoA s3 dA⟩
  · rw [← hl, List.take_length] at dA
    exact hd D acc H' hD s' hA dA
theorem z_newF {xs : List V} (hl : xs.length ≤ 1000) (q : ∀ p H', H p = none → Same H H' → Dm.PlT H' p xs → Q (.ref p) H') : Dm.NewF Q xs H := ⟨sz hl, fun p o hp oc od => q p _ hp (same_upd hp) ⟨o, upd_same, oc, od⟩⟩
theorem z_tupF {t : TA} (h : t σ H (Dm.NewF Q)) : Dm.tTupF t σ H Q := h
theorem z_tupOfF {p : Addr} {xs : List V} (h : SqL K H p xs) (q : ∀ a H', H a = none → Same H H' → Dm.PlT H' a xs → Q (.ref a) H') : Dm.rTupOfF K [.ref p] H Q := ⟨p, xs, rfl, h, fun l o hl oc od => q l _ hl (same_upd hl) ⟨o, upd_same, oc, od⟩⟩
end
theorem FmAt.mk {K : PySem.W.Frag} {H : Hp} {a t : Addr} {cv : V} {vs : List V} {f : Fm} (h : SqT K H a [cv, .ref t]) (d : Dp K H cv (qD f.1)) (p : Dm.PlT H t vs) (l : DpAll K H vs (f.2.map tmD)) : FmAt K H (.ref a) f := ⟨a, cv, t, vs, rfl, h, d, p, l⟩
local macro_rules | `(tactic| walk_at "z1") => `(tactic| first | with_reducible refine z_tupF ?_ | with_reducible refine z_lcTE ?_ | with_reducible refine z_forTE ?_)
def sp_form2 (K : PySem.W.Frag) (A : Nat → Addr) (op : Rat → Rat → Rat) : Sp := fun vs H Q E => ∃ (v w : V) (f g : Fm) (U : List Int), vs = [v, w] ∧ FmAt K H v f ∧ FmAt K H w g ∧ Wf f.2 ∧ Wf g.2 ∧ FitF f ∧ FitF g ∧ U.length < 64 ∧ Keys f.2 U ∧ Keys g.2 U ∧
  RetF K A (op f.1 g.1) (fun u => op (cf f.2 u) (cf g.2 u)) H Q E
section
theorem ok_add_forms {P : Program} {w : World} {K : PySem.W.Frag} {mg : Str → Option Value} {base : Heap} {A : Nat → Addr} {D : Nat → FuncData} (T : Txt K mg A D) : FnOk P w K mg base (L2N.CX P w) 4 (A 14) (D 14) ["a", "b"] (sp_form2 K A (· + ·)) := by
  refine T.F_add_forms.okN sc_add_forms (fun vs H Q E h => ?_) (fun cdv A' outer s H vs Q E hr h => ?_)
  · obtain ⟨v, w', f, g, U, rfl, _⟩ := h
    rfl
  obtain ⟨v, w', f, g, U, rfl, hf, hg, wf, wg, ff, fg, hU, kf, kg, q⟩ := h
  refine ⟨_, (pss_one (ps_ret (pe_call (ok_combine_forms T) (hr.mono (by decide)) (by rfl) T.m_combine_forms T.F_combine_forms.kp T.b_combine_forms .nil (L2N.passes_call (L2N.takes_of rfl rfl rfl rfl) (fun _ _ _ _ h => h)) (pa_cons (pv 0) (pa_cons (pv 1) (pa_cons (Z.pe_globR T.m_add) pa_nil)))))), ?_⟩
  walk_at "z"
  exact ⟨v, w', _, (· + ·), f, g, U, rfl, .inl ⟨rfl, rfl⟩, hf, hg, wf, wg, ff, fg, hU, kf, kg, q⟩
end
section
theorem ok_subtract_forms {P : Program} {w : World} {K : PySem.W.Frag} {mg : Str → Option Value} {base : Heap} {A : Nat → Addr} {D : Nat → FuncData} (T : Txt K mg A D) : FnOk P w K mg base (L2N.CX P w) 4 (A 15) (D 15) ["a", "b"] (sp_form2 K A (· - ·)) := by
  refine T.F_subtract_forms.okN sc_subtract_forms (fun vs H Q E h => ?_) (fun cdv A' outer s H vs Q E hr h => ?_)
  · obtain ⟨v, w', f, g, U, rfl, _⟩ := h
    rfl
  obtain ⟨v, w', f, g, U, rfl, hf, hg, wf, wg, ff, fg, hU, kf, kg, q⟩ := h
  refine ⟨_, (pss_one (ps_ret (pe_call (ok_combine_forms T) (hr.mono (by decide)) (by rfl) T.m_combine_forms T.F_combine_forms.kp T.b_combine_forms .nil (L2N.passes_call (L2N.takes_of rfl rfl rfl rfl) (fun _ _ _ _ h => h)) (pa_cons (pv 0) (pa_cons (pv 1) (pa_cons (Z.pe_globR T.m_subtract) pa_nil)))))), ?_⟩
  walk_at "z"
  exact ⟨v, w', _, (· - ·), f, g, U, rfl, .inr ⟨rfl, rfl⟩, hf, hg, wf, wg, ff, fg, hU, kf, kg, q⟩
end

/-- a form whose terms may be any tuple -/
def FmS (K : PySem.W.Frag) (H : Hp) (v : V) (f : Fm) : Prop := ∃ a cv t vs, v = .ref a ∧ SqT K H a [cv, .ref t] ∧ Dp K H cv (qD f.1) ∧ SqT K H t vs ∧ DpAll K H vs (f.2.map tmD)
theorem FmAt.s {K : PySem.W.Frag} {H : Hp} {v : V} {f : Fm} (h : FmAt K H v f) : FmS K H v f := by
  obtain ⟨a, cv, t, vs, e, h1, h2, h3, h4⟩ := h
  exact ⟨a, cv, t, vs, e, h1, h2, h3.sq, h4⟩
def sp_scale (K : PySem.W.Frag) (A : Nat → Addr) : Sp := fun vs H Q E => ∃ (v w : V) (f : Fm) (k : Rat), vs = [v, w] ∧ FmS K H v f ∧ Dp K H w (qD k) ∧ Wf f.2 ∧ FitF f ∧ fitsQ k ∧ f.2.length ≤ 900 ∧ RetF K A (f.1 * k) (fun u => cf f.2 u * k) H Q E
section
theorem ok_scale_form {P : Program} {w : World} {K : PySem.W.Frag} {mg : Str → Option Value} {base : Heap} {A : Nat → Addr} {D : Nat → FuncData} (T : Txt K mg A D) : FnOk P w K mg base (L2N.CX P w) 3 (A 17) (D 17) ["form", "number"] (sp_scale K A) := by
  refine T.F_scale_form.okN sc_scale_form (fun vs H Q E h => ?_) (fun cdv A' outer s H vs Q E hr h => ?_)
  · obtain ⟨v, w', f, k, rfl, _⟩ := h
    rfl
  obtain ⟨v, w', f, k, rfl, hf, hw, wf, ff, fk, fl, q⟩ := h
  refine ⟨_, (pss_cons (ps_set (i := 2) sc_scale_form.nd rfl (.inl rfl) (pe_call (ok_multiply T) (hr.mono (by decide)) (by rfl) T.m_multiply T.F_multiply.kp T.b_multiply .nil (L2N.passes_call (L2N.takes_of rfl rfl rfl rfl) (fun _ _ _ _ h => h)) (pa_cons (pe_ix ix_tup (pv 0) pe_int (fun _ _ => rfl)) (pa_cons (pv 1) pa_nil))))
  (pss_cons (ps_set (i := 3) sc_scale_form.nd rfl (.inl rfl) (pe_lst pa_nil))
  (pss_cons (ps_for (passes_of rfl) rfl (pi_tup (pe_ix ix_tup (pv 0) pe_int (fun _ _ => rfl))) (pg_tup (by rfl) (pgs_cons (pg_name (i := 4) sc_scale_form.nd rfl (.inl rfl)) (pgs_cons (pg_name (i := 5) sc_scale_form.nd rfl (.inl rfl)) pgs_nil)))
  (pss_cons (ps_set (i := 6) sc_scale_form.nd rfl (.inl rfl) (pe_call (ok_multiply T) (hr.mono (by decide)) (by rfl) T.m_multiply T.F_multiply.kp T.b_multiply .nil (L2N.passes_call (L2N.takes_of rfl rfl rfl rfl) (fun _ _ _ _ h => h)) (pa_cons (pv 5) (pa_cons (pv 1) pa_nil))))
  (pss_one (ps_if (pt_cmpR (op_neD hr.units) (pv 6) (Z.pe_globR T.c_ZERO) (nomark _))
  (pss_one (ps_expr (pe_bm PySem.F.plainAttrs_list PySem.F.slot_list_append PySem.F.type_list_append mt_append (pv 3) (pa_cons (pe_tup (pa_cons (pv 4) (pa_cons (pv 6) pa_nil))) pa_nil))))
  pss_nil))))
  (pss_one (ps_ret (pe_tup (pa_cons (pv 2) (pa_cons (pe_callTy Dm.c_tupOfF (by rfl) T.z_tuple (by decide +kernel) (pa_cons (pv 3) pa_nil)) pa_nil)))))))), ?_⟩
  obtain ⟨a, ca, ta, va, rfl, sa, da, pa, la⟩ := hf
  walk_at "z"
  refine ⟨_, _, f.1, k, rfl, da, hw, fits_bg ff.1, fits_bg fk, fun n => q.2 (fun z => n z.1) H (fun _ _ z => z), fun hc v1 H1 s1 d1 => ?_⟩
  walk_at "z"
  intro D H2 fD s2 hD
  walk_at "z"
  refine z_ixT (seqT (s1.trans s2) sa) (i := 1) rfl ?_
  have s02 := s1.trans s2
  have p2 := seqT s02 pa
  have l2 := dp_monoA s02 la
  have w2 := dp_mono s02 hw
  have d2 := dp_mono s2 d1
  have hDf := fresh_of s1 fD
  have lv := dpa_len' la
  rw [List.length_map] at lv
  refine z_forTT p2 (fun i σ' H' => Kp D H2 H' ∧ (∃ acc, H' D = some (.lst acc) ∧ DpAll K H' acc (((f.2.take i).filterMap fun t => if t.2 * k ≠ 0 then some (t.1, t.2 * k) else none).map tmD)) ∧
      (∃ x1 x2 x3, σ' = [some (.ref a), some w', some v1, some (.ref D), x1, x2, x3]) ∧ ∀ t ∈ f.2.take i, fitsQ (t.2 * k))
    ⟨fun _ _ _ e => e, ⟨[], hD, .nil⟩, ⟨_, _, _, rfl⟩, fun _ h => (by cases h)⟩ (fun i σ' H' _ h => seqT_kp h.1 hD p2) ?_ ?_
  · rintro i x σ' H' hx ⟨k7, ⟨acc, h7, a7⟩, ⟨x1, x2, x3, rfl⟩, fy⟩
    obtain ⟨d, hd, dx⟩ := dpa_gev' (dp_kpA k7 hD (tup_tms _) l2) hx
    rw [List.getElem?_map] at hd
    cases hy : f.2[i]? with
    | none => rw [hy] at hd; cases hd
    | some t =>
      rw [hy] at hd
      cases hd
      obtain ⟨px, wx, rfl, sx, dwx⟩ := dp_tm dx
      have mt := List.mem_of_getElem? hy
      walk_at "z"
      refine ⟨_, _, t.2, k, rfl, dwx, dp_kp k7 hD (tup_q _) w2, fits_bg (ff.mem wf mt), fits_bg fk, fun n => q.2 (fun z => n ?_) H' (same_kpD s02 hDf k7), fun hcy v8 H8 s8 d8 => ?_⟩
      · rw [← cf_mem wf.asc mt]
        exact z.2 t.1
      have fy8 : ∀ z ∈ f.2.take (i + 1), fitsQ (z.2 * k) := fun z hz => by
        rw [List.take_add_one, hy] at hz
        rcases List.mem_append.mp hz with h | h
        · exact fy z h
        · cases List.mem_singleton.mp h
          exact hcy
      walk_at "z"
      refine z_neQ d8 (show Dp K H8 _ (qD 0) from T.d_ZERO H8) ?_
      walk_at "z"
      have e8 : (f.2.take (i + 1)).filterMap (fun t => if t.2 * k ≠ 0 then some (t.1, t.2 * k) else none) = ((f.2.take i).filterMap fun t => if t.2 * k ≠ 0 then some (t.1, t.2 * k) else none) ++ (if t.2 * k ≠ 0 then [(t.1, t.2 * k)] else []) := by
        rw [List.take_add_one, hy, List.filterMap_append]
        congr 1
        by_cases c : t.2 * k ≠ 0
        · rw [if_pos c]
          show List.filterMap _ [t] = _
          rw [List.filterMap_cons, if_pos c]
          rfl
        · rw [if_neg c]
          show List.filterMap _ [t] = _
          rw [List.filterMap_cons, if_neg c]
          rfl
      have la : acc.length < 1000 := by
        have := dpa_len' a7
        rw [List.length_map] at this
        have h2 := List.length_filterMap_le (fun t : Int × Rat => if t.2 * k ≠ 0 then some (t.1, t.2 * k) else none) (f.2.take i)
        have h3 : (f.2.take i).length ≤ f.2.length := by rw [List.length_take]; omega
        omega
      refine z_if (fun c => ?_) (fun c => ?_)
      · walk_at "z"
        refine z_bmL (fun R q => by walk_at "z"; exact q) (s8 _ _ h7) ?_
        walk_at "z"
        intro p9 H9 f9 s9 h9
        walk_at "z"
        have hD9 := s9 _ _ (s8 _ _ h7)
        refine z_append hD9 la ?_
        walk_at "z"
        have k9 : Kp D H9 (upd H9 D (.lst (acc ++ [.ref p9]))) := fun b x hb e => by rw [upd_ne hb]; exact e
        refine ⟨(k7.trans' (kp_of (s8.trans s9))).trans' k9, ⟨_, upd_same, ?_⟩, ⟨_, _, _, rfl⟩, fy8⟩
        rw [e8, if_pos c, List.map_append]
        exact dp_kpA k9 hD9 (by rw [← List.map_append]; exact tup_tms _) (dpa_snoc (dp_mk h9 (.cons (.int _) (.cons (dp_mono s9 d8) .nil))) (dp_monoA (s8.trans s9) a7))
      · walk_at "z"
        refine ⟨k7.trans' (kp_of s8), ⟨acc, s8 _ _ h7, ?_⟩, ⟨_, _, _, rfl⟩, fy8⟩
        rw [e8, if_neg c, List.append_nil]
        exact dp_monoA s8 a7
  · rintro σ' H' ⟨k7, ⟨acc, h7, a7⟩, ⟨x1, x2, x3, rfl⟩, fy⟩
    rw [lv, List.take_length] at a7 fy
    walk_at "z"
    have s07 := same_kpD s02 hDf k7
    refine z_tupOfF (.inl (.inl h7)) fun t H8 ft s8 p8 => ?_
    walk_at "z"
    intro p9 H9 f9 s9 h9
    refine q.1 ⟨hc, fun u => ?_⟩ _ (f.2.filterMap fun t => if t.2 * k ≠ 0 then some (t.1, t.2 * k) else none) H9 ((s07.trans s8).trans s9) (.mk (.inl (.inl h9)) (dp_mono s9 (dp_mono s8 (dp_kp k7 hD (tup_q _) d2))) (p8.mono s9) (dp_monoA s9 (dp_monoA s8 a7))) (wf_scale wf.asc) fun u => (cf_scale f.2).resolve_right fun z => z wf.asc
    rcases cf_in (ts := f.2) u with e | e
    · show fitsQ (_ * _)
      rw [e, Rat.zero_mul]
      exact fits0
    · exact fy _ e
end
def sp_coefficient (K : PySem.W.Frag) : Sp := fun vs H Q _ => ∃ (v : V) (u : Int) (f : Fm), vs = [v, .int u] ∧ FmAt K H v f ∧ Wf f.2 ∧ ∀ w, Dp K H w (qD (cf f.2 u)) → Q w H
theorem cf_skip {ts : Tms} {i : Nat} {u : Int} {t : Int × Rat} (w : Wf ts) (e : ts[i]? = some t) (h : t.1 = u) : cf ts u = t.2 := by
  rw [← h]
  exact cf_mem w.asc (List.mem_of_getElem? e)
section
theorem ok_coefficient {P : Program} {w : World} {K : PySem.W.Frag} {mg : Str → Option Value} {base : Heap} {A : Nat → Addr} {D : Nat → FuncData} (T : Txt K mg A D) : FnOk P w K mg base (L2N.CX P w) 1 (A 19) (D 19) ["form", "unknown"] (sp_coefficient K) := by
  refine T.F_coefficient.okN sc_coefficient (fun vs H Q E h => ?_) (fun cdv A' outer s H vs Q E hr h => ?_)
  · obtain ⟨v, u, f, rfl, _⟩ := h
    rfl
  obtain ⟨v, u, f, rfl, hf, wf, q⟩ := h
  refine ⟨_, (pss_cons (ps_for (passes_of rfl) rfl (pi_tup (pe_ix ix_tup (pv 0) pe_int (fun _ _ => rfl))) (pg_tup (by rfl) (pgs_cons (pg_name (i := 2) sc_coefficient.nd rfl (.inl rfl)) (pgs_cons (pg_name (i := 3) sc_coefficient.nd rfl (.inl rfl)) pgs_nil)))
  (pss_one (ps_if (pt_cmpR op_eq (pv 2) (pv 1) (nomark _))
  (pss_one (ps_ret (pv 3)))
  pss_nil)))
  (pss_one (ps_ret (Z.pe_globR T.c_ZERO)))), ?_⟩
  obtain ⟨a, ca, ta, va, rfl, sa, da, pa, la⟩ := hf
  walk_at "z"
  have lv := dpa_len' la
  rw [List.length_map] at lv
  refine z_forTT pa.sq (fun i σ' H' => H' = H ∧ (∃ x1 x2, σ' = [some (.ref a), some (.int u), x1, x2]) ∧ ∀ t ∈ f.2.take i, t.1 ≠ u) ⟨rfl, ⟨_, _, rfl⟩, fun _ h => (by cases h)⟩ (fun i σ' H' _ h => by rw [h.1]; exact pa.sq) ?_ ?_
  · rintro i x σ' H' hx ⟨rfl, ⟨x1, x2, rfl⟩, no⟩
    obtain ⟨d, hd, dx⟩ := dpa_gev' la hx
    rw [List.getElem?_map] at hd
    cases hy : f.2[i]? with
    | none => rw [hy] at hd; cases hd
    | some t =>
      rw [hy] at hd
      cases hd
      obtain ⟨px, wx, rfl, sx, dwx⟩ := dp_tm dx
      walk_at "z"
      refine z_if (fun c => ?_) (fun c => ?_)
      · walk_at "z"
        refine q _ ?_
        rw [cf_skip wf hy c]
        exact dwx
      · walk_at "z"
        refine ⟨rfl, ⟨_, _, rfl⟩, fun z hz => ?_⟩
        rw [List.take_add_one, hy] at hz
        rcases List.mem_append.mp hz with h | h
        · exact no z h
        · cases List.mem_singleton.mp h
          exact c
  · rintro σ' H' ⟨rfl, ⟨x1, x2, rfl⟩, no⟩
    rw [lv, List.take_length] at no
    walk_at "z"
    refine q _ ?_
    rw [cf_none no]
    exact T.d_ZERO _
end
def sp_known (K : PySem.W.Frag) : Sp := fun vs H Q _ => ∃ (v : V) (c : Rat), vs = [v] ∧ Dp K H v (qD c) ∧ ∀ w H', Same H H' → FmAt K H' w (c, []) → Q w H'
section
theorem ok_known_form {P : Program} {w : World} {K : PySem.W.Frag} {mg : Str → Option Value} {base : Heap} {A : Nat → Addr} {D : Nat → FuncData} (T : Txt K mg A D) : FnOk P w K mg base (L2N.CX P w) 1 (A 12) (D 12) ["number"] (sp_known K) := by
  refine T.F_known_form.okN sc_known_form (fun vs H Q E h => ?_) (fun cdv A' outer s H vs Q E hr h => ?_)
  · obtain ⟨v, c, rfl, _⟩ := h
    rfl
  obtain ⟨v, c, rfl, hv, q⟩ := h
  refine ⟨_, (pss_one (ps_ret (pe_tup (pa_cons (pv 0) (pa_cons (Dm.pe_tupF pa_nil) pa_nil))))), ?_⟩
  walk_at "z"
  refine z_newF (Nat.le_of_ble_eq_true rfl) fun t H1 f1 s1 p1 => ?_
  walk_at "z"
  intro p9 H9 f9 s9 h9
  exact q _ H9 (s1.trans s9) (.mk (.inl (.inl h9)) (dp_mono s9 (dp_mono s1 hv)) (p1.mono s9) .nil)
end

def sp_unknown (K : PySem.W.Frag) : Sp := fun vs H Q _ => ∃ (u : Int), vs = [.int u] ∧ ∀ w H', Same H H' → FmAt K H' w (0, [(u, 1)]) → Q w H'
section
theorem ok_unknown_form {P : Program} {w : World} {K : PySem.W.Frag} {mg : Str → Option Value} {base : Heap} {A : Nat → Addr} {D : Nat → FuncData} (T : Txt K mg A D) : FnOk P w K mg base (L2N.CX P w) 1 (A 13) (D 13) ["unknown"] (sp_unknown K) := by
  refine T.F_unknown_form.okN sc_unknown_form (fun vs H Q E h => ?_) (fun cdv A' outer s H vs Q E hr h => ?_)
  · obtain ⟨u, rfl, _⟩ := h
    rfl
  obtain ⟨u, rfl, q⟩ := h
  refine ⟨_, (pss_one (ps_ret (pe_tup (pa_cons (Z.pe_globR T.c_ZERO) (pa_cons (Dm.pe_tupF (pa_cons (pe_tup (pa_cons (pv 0) (pa_cons (Z.pe_globR T.c_ONE) pa_nil))) pa_nil)) pa_nil))))), ?_⟩
  walk_at "z"
  intro p7 H7 f7 s7 h7
  walk_at "z"
  refine z_newF (Nat.le_of_ble_eq_true rfl) fun t H1 f1 s1 p1 => ?_
  walk_at "z"
  intro p9 H9 f9 s9 h9
  exact q _ H9 ((s7.trans s1).trans s9) (.mk (.inl (.inl h9)) (T.d_ZERO H9) (p1.mono s9) (.cons (dp_mk ((s1.trans s9) _ _ h7) (.cons (.int _) (.cons (T.d_ONE H9) .nil))) .nil))
end


def sp_replace (K : PySem.W.Frag) (A : Nat → Addr) : Sp := fun vs H Q E => ∃ (v w : V) (u : Int) (f g : Fm) (U : List Int), vs = [v, .int u, w] ∧ FmAt K H v f ∧ FmAt K H w g ∧ Wf f.2 ∧ Wf g.2 ∧ FitF f ∧ FitF g ∧ U.length < 64 ∧ Keys f.2 U ∧ Keys g.2 U ∧
  (cf f.2 u = 0 → Q v H) ∧ (cf f.2 u ≠ 0 → (¬ (fitsQ (g.1 * cf f.2 u) ∧ ∀ x, fitsQ (cf g.2 x * cf f.2 u)) → ∀ H', Same H H' → E (.ref (A 1)) none H') ∧
    ((fitsQ (g.1 * cf f.2 u) ∧ ∀ x, fitsQ (cf g.2 x * cf f.2 u)) → RetF K A (f.1 + g.1 * cf f.2 u) (fun x => (if x = u then 0 else cf f.2 x) + cf g.2 x * cf f.2 u) H Q E))
theorem RetF.mono {K : PySem.W.Frag} {A : Nat → Addr} {c : Rat} {r : Int → Rat} {H H' : Hp} {Q : VK} {E : XK} (s : Same H H') (h : RetF K A c r H Q E) : RetF K A c r H' Q E :=
  ⟨fun ok v ts H2 s2 => h.1 ok v ts H2 (s.trans s2), fun no H2 s2 => h.2 no H2 (s.trans s2)⟩
theorem without_map (u : Int) : ∀ ts : Tms, (ts.map fun t => if t.1 = u then none else some (tmD t)).filterMap id = (ts.filter fun t => decide (¬ t.1 = u)).map tmD
  | [] => rfl
  | t :: r => by
    have ih := without_map u r
    rw [List.map_cons, List.filter_cons]
    by_cases c : t.1 = u
    · rw [if_pos c, if_neg (by simp [c])]
      exact ih
    · rw [if_neg c, if_pos (by simp [c])]
      show tmD t :: _ = _
      rw [ih]
      rfl
section
theorem ok_replace_unknown {P : Program} {w : World} {K : PySem.W.Frag} {mg : Str → Option Value} {base : Heap} {A : Nat → Addr} {D : Nat → FuncData} (T : Txt K mg A D) : FnOk P w K mg base (L2N.CX P w) 5 (A 18) (D 18) ["form", "unknown", "other"] (sp_replace K A) := by
  refine T.F_replace_unknown.okN sc_replace_unknown (fun vs H Q E h => ?_) (fun cdv A' outer s H vs Q E hr h => ?_)
  · obtain ⟨v, w', u, f, g, U, rfl, _⟩ := h
    rfl
  obtain ⟨v, w', u, f, g, U, rfl, hf, hg, wf, wg, ff, fg, hU, kf, kg, q0, q1⟩ := h
  refine ⟨_, (pss_cons (ps_set (i := 3) sc_replace_unknown.nd rfl (.inl rfl) (pe_call (ok_coefficient T) (hr.mono (by decide)) (by rfl) T.m_coefficient T.F_coefficient.kp T.b_coefficient .nil (L2N.passes_call (L2N.takes_of rfl rfl rfl rfl) (fun _ _ _ _ h => h)) (pa_cons (pv 0) (pa_cons (pv 1) pa_nil))))
  (pss_cons (ps_if (pt_cmpR (op_eqD hr.units) (pv 3) (Z.pe_globR T.c_ZERO) (nomark _))
  (pss_one (ps_ret (pv 0)))
  pss_nil)
  (pss_cons (ps_setLc (i := 4) (own := [("term", 5)]) (g := gName 5) rfl sc_replace_unknown.nd rfl rfl (sw_true rfl rfl rfl (by decide +kernel)) (pi_tup (pe_ix ix_tup (pv 0) pe_int (fun _ _ => rfl))) (blkOk_by (N := ["form", "unknown", "other", "factor", "terms", "term"]) (sc := defScope s_replace_unknown) (by decide +kernel)) (fun _ _ _ _ _ => pg_name (i := 5) sc_replace_unknown.nd rfl (Or.inl rfl)) (fun _ _ _ _ _ => (pts_one (pt_cmpR op_ne (pe_ix (show IxR _ (rIxT K) from ix_tup) (pv 5) pe_int (fun _ _ => rfl)) (pv 1) (nomark _)))) (fun _ _ _ _ _ => (pv 5)))
  (pss_one (ps_ret (pe_call (ok_add_forms T) (hr.mono (by decide)) (by rfl) T.m_add_forms T.F_add_forms.kp T.b_add_forms .nil (L2N.passes_call (L2N.takes_of rfl rfl rfl rfl) (fun _ _ _ _ h => h)) (pa_cons (pe_tup (pa_cons (pe_ix ix_tup (pv 0) pe_int (fun _ _ => rfl)) (pa_cons (pe_callTy Dm.c_tupOfF (by rfl) T.z_tuple (by decide +kernel) (pa_cons (pv 4) pa_nil)) pa_nil))) (pa_cons (pe_call (ok_scale_form T) (hr.mono (by decide)) (by rfl) T.m_scale_form T.F_scale_form.kp T.b_scale_form .nil (L2N.passes_call (L2N.takes_of rfl rfl rfl rfl) (fun _ _ _ _ h => h)) (pa_cons (pv 2) (pa_cons (pv 3) pa_nil))) pa_nil)))))))), ?_⟩
  walk_at "z"
  refine ⟨v, u, f, rfl, hf, wf, fun w1 d1 => ?_⟩
  walk_at "z"
  refine z_eqQ d1 (show Dp K H _ (qD 0) from T.d_ZERO H) ?_
  walk_at "z"
  refine z_if (fun c => ?_) (fun c => ?_)
  · walk_at "z"
    exact q0 c
  obtain ⟨qn, qy⟩ := q1 c
  have hf' := hf
  obtain ⟨a, ca, ta, va, rfl, sa, da, pa, la⟩ := hf
  walk_at "z"
  have lv := dpa_len' la
  rw [List.length_map] at lv
  have kl := keys_len wf kf
  have kl2 := keys_len wg kg
  refine z_lcTT (f.2.map fun t => if t.1 = u then none else some (tmD t)) (by rw [List.length_map, lv]) (by omega) pa.sq (fun d hd => ?_) (fun i x H' R R0 hx s' k1 k0 => ?_) fun D acc H2 fD s2 hD dA => ?_
  · obtain ⟨t, _, e⟩ := List.mem_map.mp hd
    split at e
    · cases e
    · cases e
      rfl
  · obtain ⟨d, hd, dx⟩ := dpa_gev' (dp_monoA s' la) hx
    rw [List.getElem?_map] at hd k1 k0
    cases hy : f.2[i]? with
    | none => rw [hy] at hd; cases hd
    | some t =>
      rw [hy] at hd k1 k0
      cases hd
      obtain ⟨px, wx, rfl, sx, dwx⟩ := dp_tm dx
      walk_at "z"
      refine ⟨rfl, ?_⟩
      walk_at "z"
      refine z_if (fun c2 => ?_) (fun c2 => ?_)
      · walk_at "z"
        exact k1 (tmD t) (by rw [Option.map_some, if_neg c2]) _ _ (fun _ _ e => e) dx
      · exact k0 (by rw [Option.map_some, if_pos (Decidable.of_not_not c2)]) _ (fun _ _ e => e)
  · rw [without_map] at dA
    walk_at "z"
    refine z_ixT (seqT s2 sa) (i := 0) rfl ?_
    walk_at "z"
    refine z_tupOfF (.inl (.inl hD)) fun t H3 f3 s3 p3 => ?_
    walk_at "z"
    intro p4 H4 f4 s4 h4
    walk_at "z"
    have s04 := (s2.trans s3).trans s4
    refine ⟨w', w1, g, cf f.2 u, rfl, (hg.mono s04).s, dp_mono s04 d1, wg, fg, ff.2 u, by omega, fun ok v5 ts5 H5 s5 m5 w5 c5 => ?_, fun no H' s' => qn no H' (s04.trans s')⟩
    walk_at "z"
    have c5 : ∀ x, cf ts5 x = cf g.2 x * cf f.2 u := c5
    have ok : fitsQ (g.1 * cf f.2 u) ∧ ∀ x, fitsQ (cf g.2 x * cf f.2 u) := ok
    have s34 := s3.trans s4
    have e0 : FmAt K H5 (.ref p4) (f.1, f.2.filter fun t => decide (¬ t.1 = u)) := FmAt.mono s5 (.mk (.inl (.inl h4)) (dp_mono s04 da) (p3.mono s4) (dp_monoA s34 dA))
    have w0 := wf_without (v := u) wf
    have kk5 : Keys ts5 U := fun t ht => by
      have h1 := cf_mem w5.asc ht
      rw [c5] at h1
      have h2 : cf g.2 t.1 ≠ 0 := fun z => w5.nz t ht (by rw [← h1, z, Rat.zero_mul])
      obtain ⟨t2, ht2, e2⟩ := cf_ne h2
      rw [← e2]
      exact kg t2 ht2
    refine ⟨_, _, _, _, U, rfl, e0, m5, w0, w5, ⟨ff.1, fun x => ?_⟩, ⟨ok.1, fun x => by rw [c5]; exact ok.2 x⟩, hU, fun t ht => kf t (List.mem_filter.mp ht).1, kk5, ?_⟩
    · rw [cf_without]
      split
      · exact fits0
      · exact ff.2 x
    · have r := (qy ok).mono (s04.trans s5)
      have e : (fun x => (if x = u then 0 else cf f.2 x) + cf g.2 x * cf f.2 u) = fun x => cf (f.2.filter fun t => decide (¬ t.1 = u)) x + cf ts5 x := by
        funext x
        rw [cf_without, c5]
      rw [e] at r
      exact r
end

/-! ### streams and new lists -/
theorem kp_at {H : Hp} {D : Addr} {o : HO} : Kp D H (upd H D o) := fun b x hb e => by
  rw [upd_ne hb]
  exact e
theorem sd_updq {H0 H : Hp} {p q : Addr} {o : HO} (S : Sd H0 H p) (h0 : H0 q = none) (hq : q ≠ p) : Sd H0 (upd H q o) p := by
  obtain ⟨a, b, m, e⟩ := S.stm
  refine ⟨fun c x hc => ?_, S.fresh, a, b, m, by rw [upd_ne (Ne.symm hq)]; exact e⟩
  rw [upd_ne (ne_of_none hc h0)]
  exact S.same c x hc
theorem kp_updq {p q : Addr} {H H1 : Hp} {o : HO} (k : Kp p H H1) (h : H q = none) : Kp p H (upd H1 q o) := fun b x hb e => by
  rw [upd_ne (ne_of_none e h)]
  exact k b x hb e
theorem dpa_sdq {K : PySem.W.Frag} {H0 H H' : Hp} {p : Addr} {vs : List V} {ds : List PyData} (S : Sd H0 H p) (k : Kp p H H') (t : tupOnlyA ds = true) (h : DpAll K H vs ds) : DpAll K H' vs ds := by
  obtain ⟨a, b, m, e⟩ := S.stm
  exact dp_kpA k e t h
local macro_rules | `(tactic| walk_at "z1") => `(tactic| first
  | with_reducible refine z_max2 ?_
  | with_reducible refine z_min2 ?_
  | with_reducible refine z_tru ?_
  | with_reducible refine Cw.z_fldE ?_
  | with_reducible refine Cw.z_sfldE ?_
  | with_reducible refine Cw.z_methE ?_
  | with_reducible refine Cw.z_methSE ?_
  | with_reducible refine Cw.z_methNSE ?_
  | with_reducible refine Cw.z_methNE ?_
  | with_reducible refine Cw.z_make ?_)
/-! ### unknowns and their forms -/
structure EqL (C : Addr) (K : PySem.W.Frag) (H : Hp) (p lp : Addr) (fs : List Fm) : Prop where
  ins : ∃ dx, H p = some (.ins C dx [("_forms", .ref lp)])
  lst : ∃ vs, H lp = some (.lst vs) ∧ vs.length = fs.length ∧ ∀ (i : Nat) (v : V) (f : Fm), vs[i]? = some v → fs[i]? = some f → FmAt K H v f
section
variable {C : Addr} {K : PySem.W.Frag} {H H' : Hp} {p lp : Addr} {fs : List Fm}
theorem EqL.mono (s : Same H H') (h : EqL C K H p lp fs) : EqL C K H' p lp fs := by
  obtain ⟨⟨dx, e⟩, vs, e2, l, a⟩ := h
  exact ⟨⟨dx, s _ _ e⟩, vs, s _ _ e2, l, fun i v f hv hf => (a i v f hv hf).mono s⟩
theorem EqL.kp {q : Addr} {xs : List V} (k : Kp q H H') (hq : H q = some (.lst xs)) (n : lp ≠ q) (h : EqL C K H p lp fs) : EqL C K H' p lp fs := by
  obtain ⟨⟨dx, e⟩, vs, e2, l, a⟩ := h
  refine ⟨⟨dx, k _ _ (fun z => ?_) e⟩, vs, k _ _ n e2, l, fun i v f hv hf => (a i v f hv hf).kp k hq⟩
  rw [z, hq] at e
  cases e
theorem EqL.get {i : Nat} {f : Fm} (h : EqL C K H p lp fs) (e : fs[i]? = some f) : ∃ vs v, H lp = some (.lst vs) ∧ vs.length = fs.length ∧ vs[i]? = some v ∧ FmAt K H v f := by
  obtain ⟨_, vs, e2, l, a⟩ := h
  have hi := (List.getElem?_eq_some_iff.mp e).1
  have ev : vs[i]? = some vs[i] := List.getElem?_eq_getElem (by omega)
  exact ⟨vs, _, e2, l, ev, a i _ f ev e⟩
end
def WfS (fs : List Fm) : Prop := ∀ f ∈ fs, Wf f.2
def FitS (fs : List Fm) : Prop := ∀ f ∈ fs, FitF f
def KeyS (fs : List Fm) (U : List Int) : Prop := ∀ f ∈ fs, Keys f.2 U
def kindS (f : Fm) (u : Int) : Str := if f.2 = [] then "known" else if f = (0, [(u, 1)]) then "free" else "dependent"
/-! equality of forms as data -/
theorem eqv_tm (a b : Int × Rat) : PyData.eqv (tmD a) (tmD b) = decide (a = b) := by
  have e : PyData.eqv (tmD a) (tmD b) = (PyData.eqv (.int a.1) (.int b.1) && (PyData.eqv (qD a.2) (qD b.2) && true)) := rfl
  rw [e, eqv_q]
  have e2 : PyData.eqv (.int a.1) (.int b.1) = decide (a.1 = b.1) := rfl
  rw [e2, Bool.and_true, ← Bool.decide_and]
  congr 1
  exact propext ⟨fun h => Prod.ext h.1 h.2, fun h => by rw [h]; exact ⟨rfl, rfl⟩⟩
theorem eqv_tms : ∀ (a b : Tms), PyData.eqv (.tuple (a.map tmD)) (.tuple (b.map tmD)) = decide (a = b)
  | [], [] => rfl
  | [], _ :: _ => rfl
  | _ :: _, [] => rfl
  | x :: a, y :: b => by
    have e : PyData.eqv (.tuple ((x :: a).map tmD)) (.tuple ((y :: b).map tmD)) = (PyData.eqv (tmD x) (tmD y) && PyData.eqv (.tuple (a.map tmD)) (.tuple (b.map tmD))) := rfl
    rw [e, eqv_tm, eqv_tms a b, ← Bool.decide_and]
    congr 1
    exact propext ⟨fun h => by rw [h.1, h.2], fun h => by injection h with h1 h2; exact ⟨h1, h2⟩⟩
theorem eqv_fm (f g : Fm) : PyData.eqv (fmD f) (fmD g) = decide (f = g) := by
  have e : PyData.eqv (fmD f) (fmD g) = (PyData.eqv (qD f.1) (qD g.1) && (PyData.eqv (.tuple (f.2.map tmD)) (.tuple (g.2.map tmD)) && true)) := rfl
  rw [e, eqv_q, eqv_tms, Bool.and_true, ← Bool.decide_and]
  congr 1
  exact propext ⟨fun h => Prod.ext h.1 h.2, fun h => by rw [h]; exact ⟨rfl, rfl⟩⟩
theorem fl_qD (r : Rat) : Fl 1 (qD r) := fl_tup fun d hd => by
  rcases List.mem_cons.mp hd with rfl | h
  · exact fl_int _
  · cases List.mem_singleton.mp h
    exact fl_int _
theorem fl_up {d : PyData} {n : Nat} (h : Fl n d) : Fl (n + 1) d := ⟨h.1, Nat.le_succ_of_le h.2⟩
theorem fl_fm (f : Fm) : Fl 4 (fmD f) := fl_tup fun d hd => by
  rcases List.mem_cons.mp hd with rfl | h
  · exact fl_up (fl_up (fl_qD _))
  · cases List.mem_singleton.mp h
    refine fl_tup fun d hd => ?_
    obtain ⟨t, _, rfl⟩ := List.mem_map.mp hd
    refine fl_tup fun d hd => ?_
    rcases List.mem_cons.mp hd with rfl | h
    · exact fl_up (fl_int _)
    · cases List.mem_singleton.mp h
      exact fl_qD _
theorem shaped_fmD (f : Fm) : SeqAt.shaped (fmD f) = true := shaped_fl (fl_fm f) (by decide)
theorem z_eqF {K : PySem.W.Frag} {x y : V} {f g : Fm} {H : Hp} {Q : VK} (h1 : Dp K H x (fmD f)) (h2 : Dp K H y (fmD g)) (q : Q (.bl (decide (f = g))) H) : rEqD K x y H Q :=
  z_eqD h1 h2 (shaped_fmD f) (shaped_fmD g) (by rw [eqv_fm]; exact q)
theorem atI_pos {vs : List V} {u : Int} {v : V} (h : 0 ≤ u) (e : vs[u.toNat]? = some v) : atI vs u = some v := by
  obtain ⟨n, rfl⟩ : ∃ n : Nat, u = (n : Int) := ⟨u.toNat, by omega⟩
  exact atI_nat (by simpa using e)
/-! ### the methods -/
def sp_eq_form (K : PySem.W.Frag) (A : Nat → Addr) : Sp := fun vs H Q E => ∃ (p lp : Addr) (fs : List Fm) (u : Int), vs = [.ref p, .int u] ∧ EqL (A 6) K H p lp fs ∧ (∀ f v, 0 ≤ u → fs[u.toNat]? = some f → FmAt K H v f → Q v H) ∧ (¬ (0 ≤ u ∧ u < (fs.length : Int)) → E (.ref (A 4)) none H)
section
theorem ok_Equations_form {P : Program} {w : World} {K : PySem.W.Frag} {mg : Str → Option Value} {base : Heap} {A : Nat → Addr} {D : Nat → FuncData} (T : Txt K mg A D) : FnOk P w K mg base (L2N.CX P w) 1 (A 23) (D 23) ["self", "unknown"] (sp_eq_form K A) := by
  refine T.F_Equations_form.okN sc_Equations_form (fun vs H Q E h => ?_) (fun cdv A' outer s H vs Q E hr h => ?_)
  · obtain ⟨p, lp, fs, u, rfl, _⟩ := h
    rfl
  obtain ⟨p, lp, fs, u, rfl, he, q, no⟩ := h
  refine ⟨_, (pss_cons (ps_if (pt_not (pt_chain op_le op_lt pe_int (pv 1) (pe_callB Z.c_len (by rfl) T.z_len (by decide +kernel) (pa_cons (pe_fld (pv 0) rfl) pa_nil))))
  (pss_one (L2N.ps_raise rfl (L2N.takes_of rfl rfl rfl rfl) (Nn.pmk T.x_OutOfRange (by rfl))))
  pss_nil)
  (pss_one (ps_ret (pe_ix ix_list (pe_fld (pv 0) rfl) (pv 1) (fun _ _ => rfl))))), ?_⟩
  obtain ⟨⟨dx, e⟩, vs, e2, l, a⟩ := id he
  walk_at "z"
  refine z_if (fun c1 => ?_) (fun c1 => ?_)
  · walk_at "z"
    refine Cw.z_fld e T.q_Equations T.nf_Equations__forms Cw.look1 ?_
    walk_at "z"
    rw [l]
    refine z_ifN (fun c2 => no fun z => c2 z.2) (fun c2 => ?_)
    walk_at "z"
    refine Cw.z_fld e T.q_Equations T.nf_Equations__forms Cw.look1 ?_
    walk_at "z"
    have hu : u.toNat < fs.length := by omega
    have ef : fs[u.toNat]? = some fs[u.toNat] := List.getElem?_eq_getElem hu
    have ev : vs[u.toNat]? = some vs[u.toNat] := List.getElem?_eq_getElem (by omega)
    refine z_ixL (.inl (.inl e2)) (v := vs[u.toNat]) ?_ (q _ _ c1 ef (a _ _ _ ev ef))
    exact atI_pos c1 ev
  · walk_at "z"
    exact no fun z => c1 z.1
end
def sp_eq_kind (K : PySem.W.Frag) (A : Nat → Addr) : Sp := fun vs H Q E => ∃ (p lp : Addr) (fs : List Fm) (u : Int), vs = [.ref p, .int u] ∧ EqL (A 6) K H p lp fs ∧ (∀ f H', 0 ≤ u → fs[u.toNat]? = some f → Same H H' → Q (.str (kindS f u)) H') ∧ (¬ (0 ≤ u ∧ u < (fs.length : Int)) → E (.ref (A 4)) none H)
section
theorem ok_Equations_kind {P : Program} {w : World} {K : PySem.W.Frag} {mg : Str → Option Value} {base : Heap} {A : Nat → Addr} {D : Nat → FuncData} (T : Txt K mg A D) : FnOk P w K mg base (L2N.CX P w) 2 (A 22) (D 22) ["self", "unknown"] (sp_eq_kind K A) := by
  refine T.F_Equations_kind.okN sc_Equations_kind (fun vs H Q E h => ?_) (fun cdv A' outer s H vs Q E hr h => ?_)
  · obtain ⟨p, lp, fs, u, rfl, _⟩ := h
    rfl
  obtain ⟨p, lp, fs, u, rfl, he, q, no⟩ := h
  refine ⟨_, (pss_cons (ps_set (i := 2) sc_Equations_kind.nd rfl (.inl rfl) (pe_meth (pv 0) T.q_Equations T.m_Equations_form (ok_Equations_form T) (hr.mono (by decide)) T.b_Equations_form .nil (L2N.passes_call (L2N.takes_of rfl rfl rfl rfl) (fun _ _ _ _ h => h)) (pa_cons (pv 1) pa_nil)))
  (pss_cons (ps_if (pt_not (Z.pt_tru (pe_ix ix_tup (pv 2) pe_int (fun _ _ => rfl)) (by intro _; rfl)))
  (pss_one (ps_ret pe_str))
  pss_nil)
  (pss_cons (ps_if (pt_cmpR (op_eqD hr.units) (pv 2) (pe_call (ok_unknown_form T) (hr.mono (by decide)) (by rfl) T.m_unknown_form T.F_unknown_form.kp T.b_unknown_form .nil (L2N.passes_call (L2N.takes_of rfl rfl rfl rfl) (fun _ _ _ _ h => h)) (pa_cons (pv 1) pa_nil)) (nomark _))
  (pss_one (ps_ret pe_str))
  pss_nil)
  (pss_one (ps_ret pe_str))))), ?_⟩
  obtain ⟨⟨dx, e⟩, _⟩ := id he
  walk_at "z"
  refine Cw.z_meth e (Cw.look1n rfl) ?_
  walk_at "z"
  refine ⟨p, lp, fs, u, rfl, he, fun f v h0 ef hv => ?_, no⟩
  have hv' := hv
  obtain ⟨a, ca, ta, va, rfl, sa, da, pa, la⟩ := hv
  walk_at "z"
  have lv := dpa_len' la
  rw [List.length_map] at lv
  refine z_truT pa.sq ?_
  have q := fun H' => q f H' h0 ef
  unfold kindS at q
  cases hf : f.2 with
  | nil =>
    rw [hf] at lv
    have : va = [] := List.length_eq_zero_iff.mp lv
    subst this
    walk_at "z"
    have q := q H (fun _ _ e => e)
    rw [if_pos hf] at q
    exact q
  | cons t r =>
    rw [hf] at lv
    cases va with
    | nil => cases lv
    | cons v0 vr =>
      walk_at "z"
      refine ⟨u, rfl, fun w H1 s1 m1 => ?_⟩
      walk_at "z"
      refine z_eqF (dp_mono s1 hv'.dp) m1.dp ?_
      walk_at "z"
      have q := q H1 s1
      rw [if_neg (by rw [hf]; exact fun z => nomatch z)] at q
      refine z_if (fun c => ?_) (fun c => ?_)
      · walk_at "z"
        rw [if_pos c] at q
        exact q
      · walk_at "z"
        rw [if_neg c] at q
        exact q
end
def sp_eq_new (K : PySem.W.Frag) (A : Nat → Addr) : Sp := fun vs H Q E => ∃ (p lp : Addr) (fs : List Fm), vs = [.ref p] ∧ EqL (A 6) K H p lp fs ∧ fs.length ≤ 80 ∧ (fs.length < 80 → ∀ H', Kp lp H H' → EqL (A 6) K H' p lp (fs ++ [(0, [((fs.length : Int), 1)])]) → Q (.int (fs.length : Int)) H') ∧ (¬ fs.length < 80 → E (.ref (A 5)) none H)
section
theorem ok_Equations_new_unknown {P : Program} {w : World} {K : PySem.W.Frag} {mg : Str → Option Value} {base : Heap} {A : Nat → Addr} {D : Nat → FuncData} (T : Txt K mg A D) : FnOk P w K mg base (L2.CX P w) 2 (A 21) (D 21) ["self"] (sp_eq_new K A) := by
  refine T.F_Equations_new_unknown.okX sc_Equations_new_unknown (fun vs H Q E h => ?_) (fun cdv A' outer s H vs Q E hr h => ?_)
  · obtain ⟨p, lp, fs, rfl, _⟩ := h
    rfl
  obtain ⟨p, lp, fs, rfl, he, l80, q, no⟩ := h
  refine ⟨_, (pss_cons (ps_set (i := 1) sc_Equations_new_unknown.nd rfl (.inl rfl) (pe_callB Z.c_len (by rfl) T.z_len (by decide +kernel) (pa_cons (pe_fld (pv 0) rfl) pa_nil)))
  (pss_cons (ps_if (pt_cmpR op_ge (pv 1) (Z.pe_globE T.c_MOST_UNKNOWNS) (nomark _))
  (pss_one (ps_raise rfl (takes_of rfl rfl rfl rfl) (Tg.pmkF T.x_TooMany (by rfl) (Z.pe_globE T.c_MOST_UNKNOWNS) (by decide +kernel))))
  pss_nil)
  (pss_cons (ps_expr (pe_bm PySem.F.plainAttrs_list PySem.F.slot_list_append PySem.F.type_list_append mt_append (pe_fld (pv 0) rfl) (pa_cons (pe_call (Nn.toL (ok_unknown_form T)) (hr.mono (by decide)) (by rfl) T.m_unknown_form T.F_unknown_form.kp T.b_unknown_form .nil (passes_call (takes_of rfl rfl rfl rfl) (fun _ _ _ _ h => h)) (pa_cons (pv 1) pa_nil)) pa_nil)))
  (pss_one (ps_ret (pv 1)))))), ?_⟩
  obtain ⟨⟨dx, e⟩, vs, e2, l, a⟩ := id he
  walk_at "z"
  refine Cw.z_fld e T.q_Equations T.nf_Equations__forms Cw.look1 ?_
  walk_at "z"
  rw [l]
  refine z_if (fun c => ?_) (fun c => ?_)
  · walk_at "z"
    exact no (by omega)
  walk_at "z"
  refine z_bmL (fun R q => by walk_at "z"; refine Cw.z_fld e T.q_Equations T.nf_Equations__forms Cw.look1 ?_; exact q) e2 ?_
  walk_at "z"
  refine ⟨_, rfl, fun w H1 s1 m1 => ?_⟩
  walk_at "z"
  refine z_append (s1 _ _ e2) (by omega) ?_
  walk_at "z"
  have k1 : Kp lp H1 (upd H1 lp (.lst (vs ++ [w]))) := fun b x hb e => by rw [upd_ne hb]; exact e
  have npl : p ≠ lp := fun z => by rw [z, e2] at e; cases e
  refine q (by omega) _ ((kp_of s1).trans' k1) ⟨⟨dx, k1 _ _ npl (s1 _ _ e)⟩, vs ++ [w], upd_same, by simp [l], fun i v f hv hf => ?_⟩
  rcases Nat.lt_or_ge i vs.length with h | h
  · rw [List.getElem?_append_left h] at hv
    rw [List.getElem?_append_left (by omega)] at hf
    exact ((a i v f hv hf).mono s1).kp k1 (s1 _ _ e2)
  · have hi := (List.getElem?_eq_some_iff.mp hv).1
    rw [List.length_append, List.length_singleton] at hi
    have : i = vs.length := by omega
    subst this
    rw [List.getElem?_append_right (Nat.le_refl _), Nat.sub_self] at hv
    rw [l, List.getElem?_append_right (Nat.le_refl _), Nat.sub_self] at hf
    cases hv
    cases hf
    exact m1.kp k1 (s1 _ _ e2)
end

def sp_eq_init (K : PySem.W.Frag) (C : Addr) : Sp := fun vs H Q _ => ∃ (p dx : Addr), vs = [.ref p] ∧ H p = some (.ins C dx []) ∧ ∀ H' lp, Kp p H H' → H lp = none → EqL C K H' p lp [] → Q .non H'
section
theorem ok_Equations___init__ {P : Program} {w : World} {K : PySem.W.Frag} {mg : Str → Option Value} {base : Heap} {A : Nat → Addr} {D : Nat → FuncData} (T : Txt K mg A D) : FnOk P w K mg base (L2N.CX P w) 1 (A 20) (D 20) ["self"] (sp_eq_init K (A 6)) := by
  refine T.F_Equations___init__.okN sc_Equations___init__ (fun vs H Q E h => ?_) (fun cdv A' outer s H vs Q E hr h => ?_)
  · obtain ⟨p, dx, rfl, _⟩ := h
    rfl
  obtain ⟨p, dx, rfl, hp, q⟩ := h
  refine ⟨_, (pss_one (ps_fld (pv 0) (pe_lst pa_nil) rfl)), ?_⟩
  walk_at "z"
  intro lp H1 f1 s1 h1
  walk_at "z"
  refine Cw.z_sfld (s1 _ _ hp) T.q_Equations T.nf_Equations__forms (by decide) ?_
  walk_at "z"
  have npl : lp ≠ p := fun z => by rw [z, hp] at f1; cases f1
  refine q _ lp ((kp_of s1).trans' kp_at) f1 ⟨⟨dx, upd_same⟩, [], ?_, rfl, fun i v f hv => by cases hv⟩
  rw [upd_ne npl]
  exact h1
end
/-! ### reduce -/
def atF (fs : List Fm) (k : Int) : Fm := (fs[k.toNat]?).getD (0, [])
def sumC (fs : List Fm) : Tms → Rat → Rat
  | [], c => c
  | t :: r, c => sumC fs r (c + (atF fs t.1).1 * t.2)
def sumR (fs : List Fm) : Tms → (Int → Rat) → Int → Rat
  | [], r => r
  | t :: ts, r => sumR fs ts fun u => r u + cf (atF fs t.1).2 u * t.2
theorem sumC_snoc (fs : List Fm) (t : Int × Rat) : ∀ (ts : Tms) (c : Rat), sumC fs (ts ++ [t]) c = sumC fs ts c + (atF fs t.1).1 * t.2
  | [], _ => rfl
  | _ :: r, _ => sumC_snoc fs t r _
theorem sumR_snoc (fs : List Fm) (t : Int × Rat) (u : Int) : ∀ (ts : Tms) (r : Int → Rat), sumR fs (ts ++ [t]) r u = sumR fs ts r u + cf (atF fs t.1).2 u * t.2
  | [], _ => rfl
  | _ :: r, _ => sumR_snoc fs t u r _
def z0 : Int → Rat := fun _ => 0
def OkR (fs : List Fm) (d : Fm) : Prop := ∀ i t, d.2[i]? = some t → (fitsQ ((atF fs t.1).1 * t.2) ∧ ∀ u, fitsQ (cf (atF fs t.1).2 u * t.2)) ∧ fitsQ (sumC fs (d.2.take (i + 1)) d.1) ∧ ∀ u, fitsQ (sumR fs (d.2.take (i + 1)) z0 u)
/-- what stands about a state -/
structure StU (fs : List Fm) (U : List Int) : Prop where
  wf : WfS fs
  fit : FitS fs
  key : KeyS fs U
  len : U.length < 64
/-- what stands about a form over a state -/
structure FmU (fs : List Fm) (U : List Int) (f : Fm) : Prop where
  wf : Wf f.2
  fit : FitF f
  key : Keys f.2 U
  rg : ∀ t ∈ f.2, 0 ≤ t.1 ∧ t.1 < (fs.length : Int)
theorem atF_get {fs : List Fm} {k : Int} (h0 : 0 ≤ k) (h1 : k < (fs.length : Int)) : fs[k.toNat]? = some (atF fs k) := by
  unfold atF
  rw [List.getElem?_eq_getElem (by omega)]
  rfl
theorem atF_mem {fs : List Fm} {k : Int} (h0 : 0 ≤ k) (h1 : k < (fs.length : Int)) : atF fs k ∈ fs := List.mem_of_getElem? (atF_get h0 h1)
def sp_eq_reduce (K : PySem.W.Frag) (A : Nat → Addr) : Sp := fun vs H Q E => ∃ (p lp : Addr) (fs : List Fm) (v : V) (d : Fm) (U : List Int), vs = [.ref p, v] ∧ EqL (A 6) K H p lp fs ∧ FmAt K H v d ∧ StU fs U ∧ FmU fs U d ∧
  (OkR fs d → ∀ w ts H', Same H H' → FmAt K H' w (sumC fs d.2 d.1, ts) → Wf ts → (∀ u, cf ts u = sumR fs d.2 z0 u) → Keys ts U → Q w H') ∧ (¬ OkR fs d → ∀ H', Same H H' → E (.ref (A 1)) none H')
section
theorem ok_Equations_reduce {P : Program} {w : World} {K : PySem.W.Frag} {mg : Str → Option Value} {base : Heap} {A : Nat → Addr} {D : Nat → FuncData} (T : Txt K mg A D) : FnOk P w K mg base (L2N.CX P w) 5 (A 24) (D 24) ["self", "form"] (sp_eq_reduce K A) := by
  refine T.F_Equations_reduce.okN sc_Equations_reduce (fun vs H Q E h => ?_) (fun cdv A' outer s H vs Q E hr h => ?_)
  · obtain ⟨p, lp, fs, v, d, U, rfl, _⟩ := h
    rfl
  obtain ⟨p, lp, fs, v, d, U, rfl, he, hd, st, fu, q, no⟩ := h
  refine ⟨_, (pss_cons (ps_set (i := 2) sc_Equations_reduce.nd rfl (.inl rfl) (pe_call (ok_known_form T) (hr.mono (by decide)) (by rfl) T.m_known_form T.F_known_form.kp T.b_known_form .nil (L2N.passes_call (L2N.takes_of rfl rfl rfl rfl) (fun _ _ _ _ h => h)) (pa_cons (pe_ix ix_tup (pv 1) pe_int (fun _ _ => rfl)) pa_nil)))
  (pss_cons (ps_for (passes_of rfl) rfl (pi_tup (pe_ix ix_tup (pv 1) pe_int (fun _ _ => rfl))) (pg_tup (by rfl) (pgs_cons (pg_name (i := 3) sc_Equations_reduce.nd rfl (.inl rfl)) (pgs_cons (pg_name (i := 4) sc_Equations_reduce.nd rfl (.inl rfl)) pgs_nil)))
  (pss_one (ps_set (i := 2) sc_Equations_reduce.nd rfl (.inl rfl) (pe_call (ok_add_forms T) (hr.mono (by decide)) (by rfl) T.m_add_forms T.F_add_forms.kp T.b_add_forms .nil (L2N.passes_call (L2N.takes_of rfl rfl rfl rfl) (fun _ _ _ _ h => h)) (pa_cons (pv 2) (pa_cons (pe_call (ok_scale_form T) (hr.mono (by decide)) (by rfl) T.m_scale_form T.F_scale_form.kp T.b_scale_form .nil (L2N.passes_call (L2N.takes_of rfl rfl rfl rfl) (fun _ _ _ _ h => h)) (pa_cons (pe_ix ix_list (pe_fld (pv 0) rfl) (pv 3) (fun _ _ => rfl)) (pa_cons (pv 4) pa_nil))) pa_nil))))))
  (pss_one (ps_ret (pv 2))))), ?_⟩
  obtain ⟨⟨dx, e⟩, _⟩ := id he
  obtain ⟨a, ca, ta, va, rfl, sa, da, pa, la⟩ := hd
  walk_at "z"
  refine ⟨ca, d.1, rfl, da, fun w1 H1 s1 m1 => ?_⟩
  walk_at "z"
  refine z_ixT (seqT s1 sa) (i := 1) rfl ?_
  have p1 := pa.mono s1
  have l1 := dp_monoA s1 la
  have lv := dpa_len' la
  rw [List.length_map] at lv
  refine z_forTT p1.sq (fun i σ' H' => Same H1 H' ∧ (∃ x1 x2 w ts, σ' = [some (.ref p), some (.ref a), some w, x1, x2] ∧ FmAt K H' w (sumC fs (d.2.take i) d.1, ts) ∧ Wf ts ∧ (∀ u, cf ts u = sumR fs (d.2.take i) z0 u) ∧ Keys ts U ∧ FitF (sumC fs (d.2.take i) d.1, ts)) ∧
      ∀ j t, j < i → d.2[j]? = some t → (fitsQ ((atF fs t.1).1 * t.2) ∧ ∀ u, fitsQ (cf (atF fs t.1).2 u * t.2)) ∧ fitsQ (sumC fs (d.2.take (j + 1)) d.1) ∧ ∀ u, fitsQ (sumR fs (d.2.take (j + 1)) z0 u))
    ⟨fun _ _ e => e, ⟨_, _, w1, [], rfl, m1, ⟨.nil, fun _ h => (by cases h)⟩, fun _ => rfl, fun _ h => (by cases h), ⟨fu.fit.1, fun _ => fits0⟩⟩, fun j t hj => absurd hj (Nat.not_lt_zero _)⟩ (fun i σ' H' _ h => seqT h.1 p1.sq) ?_ ?_
  · rintro i x σ' H' hx ⟨s', ⟨x1, x2, w, ts, rfl, mw, wf, cw, kw, fw⟩, oks⟩
    obtain ⟨d', hd', dx'⟩ := dpa_gev' (dp_monoA s' l1) hx
    rw [List.getElem?_map] at hd'
    cases hy : d.2[i]? with
    | none => rw [hy] at hd'; cases hd'
    | some t =>
      rw [hy] at hd'
      cases hd'
      obtain ⟨px, wx, rfl, sx, dwx⟩ := dp_tm dx'
      have mt := List.mem_of_getElem? hy
      have rt := fu.rg t mt
      have s1' := s1.trans s'
      have ef := atF_get rt.1 rt.2
      have mf := atF_mem rt.1 rt.2
      obtain ⟨vs, vf, h2, lvs, ev, mvf⟩ := (he.mono s1').get ef
      have et : d.2.take (i + 1) = d.2.take i ++ [t] := by rw [List.take_add_one, hy]; rfl
      have ff := st.fit _ mf
      have wff := st.wf _ mf
      have kff := st.key _ mf
      have lff := keys_len wff kff
      have lU := st.len
      walk_at "z"
      refine Cw.z_fld (s1' _ _ e) T.q_Equations T.nf_Equations__forms Cw.look1 ?_
      walk_at "z"
      refine z_ixL (.inl (.inl h2)) (atI_pos rt.1 ev) ?_
      walk_at "z"
      refine ⟨vf, wx, atF fs t.1, t.2, rfl, mvf.s, dwx, wff, ff, fu.fit.mem fu.wf mt, by omega, fun ok v2 t2 H2 s2 m2 w2 c2 => ?_, fun nk H2 s2 => no (fun z => nk (z i t hy).1) H2 (s1'.trans s2)⟩
      have c2 : ∀ u, cf t2 u = cf (atF fs t.1).2 u * t.2 := c2
      have k2 : Keys t2 U := fun z hz => by
        have h1 := cf_mem w2.asc hz
        rw [c2] at h1
        obtain ⟨y, hy2, ey⟩ := cf_ne (ts := (atF fs t.1).2) (u := z.1) fun e0 => w2.nz z hz (by rw [← h1, e0, Rat.zero_mul])
        rw [← ey]
        exact kff y hy2
      walk_at "z"
      refine ⟨w, v2, _, _, U, rfl, mw.mono s2, m2, wf, w2, fw, ⟨ok.1, fun u => by rw [c2]; exact ok.2 u⟩, lU, kw, k2, fun ok2 v3 t3 H3 s3 m3 w3 c3 => ?_, fun nk H3 s3 => no (fun z => nk ⟨?_, fun u => ?_⟩) H3 ((s1'.trans s2).trans s3)⟩
      · have c3 : ∀ u, cf t3 u = cf ts u + cf t2 u := c3
        have ok2 : fitsQ (sumC fs (d.2.take i) d.1 + (atF fs t.1).1 * t.2) ∧ ∀ u, fitsQ (cf ts u + cf t2 u) := ok2
        have e1 : sumC fs (d.2.take (i + 1)) d.1 = sumC fs (d.2.take i) d.1 + (atF fs t.1).1 * t.2 := by rw [et, sumC_snoc]
        have e2 : ∀ u, sumR fs (d.2.take (i + 1)) z0 u = cf ts u + cf t2 u := fun u => by rw [et, sumR_snoc, cw, c2]
        walk_at "z"
        refine ⟨s'.trans (s2.trans s3), ⟨_, _, v3, t3, rfl, ?_, w3, fun u => by rw [e2, c3], fun z hz => ?_, ⟨by show fitsQ (sumC fs _ _); rw [e1]; exact ok2.1, fun u => by show fitsQ (cf t3 u); rw [c3]; exact ok2.2 u⟩⟩, fun j t' hj ht => ?_⟩
        · rw [e1]
          exact m3
        · have h1 := cf_mem w3.asc hz
          rw [c3] at h1
          by_cases e0 : cf ts z.1 = 0
          · obtain ⟨y, hy2, ey⟩ := cf_ne (ts := t2) (u := z.1) fun e00 => w3.nz z hz (by rw [← h1, e0, e00]; exact Rat.add_zero 0)
            rw [← ey]
            exact k2 y hy2
          · obtain ⟨y, hy2, ey⟩ := cf_ne e0
            rw [← ey]
            exact kw y hy2
        · rcases Nat.lt_or_ge j i with h | h
          · exact oks j t' h ht
          · have : j = i := by omega
            subst this
            rw [hy] at ht
            cases ht
            exact ⟨ok, by rw [e1]; exact ok2.1, fun u => by rw [e2]; exact ok2.2 u⟩
      · have := (z i t hy).2.1
        rw [et, sumC_snoc] at this
        exact this
      · have := (z i t hy).2.2 u
        rw [et, sumR_snoc, ← cw, ← c2] at this
        exact this
  · rintro σ' H' ⟨s', ⟨x1, x2, w, ts, rfl, mw, wf, cw, kw, fw⟩, oks⟩
    rw [lv, List.take_length] at mw cw
    rw [lv] at oks
    walk_at "z"
    exact q (fun i t h => oks i t (List.getElem?_eq_some_iff.mp h).1 h) w ts H' (s1.trans s') mw wf cw kw
end
/-! ### the other forms behind an equation -/
def NextF (fs : List Fm) (g : Fm) (u : Int) (fs' : List Fm) : Prop := fs'.length = fs.length ∧ ∀ (k : Nat) (f f' : Fm), fs[k]? = some f → fs'[k]? = some f' →
  ((k : Int) = u → f' = g) ∧ ((k : Int) ≠ u → Wf f'.2 ∧ f'.1 = f.1 + g.1 * cf f.2 u ∧ ∀ x, cf f'.2 x = (if x = u then 0 else cf f.2 x) + cf g.2 x * cf f.2 u)
def OkW (fs : List Fm) (g : Fm) (u : Int) : Prop := ∀ (k : Nat) (f : Fm), fs[k]? = some f → (k : Int) ≠ u → cf f.2 u ≠ 0 → (fitsQ (g.1 * cf f.2 u) ∧ ∀ x, fitsQ (cf g.2 x * cf f.2 u)) ∧ fitsQ (f.1 + g.1 * cf f.2 u) ∧ ∀ x, fitsQ ((if x = u then 0 else cf f.2 x) + cf g.2 x * cf f.2 u)
def sp_eq_with (K : PySem.W.Frag) (A : Nat → Addr) : Sp := fun vs H Q E => ∃ (p lp : Addr) (fs : List Fm) (u : Int) (w : V) (g : Fm) (U : List Int), vs = [.ref p, .int u, w] ∧ EqL (A 6) K H p lp fs ∧ FmAt K H w g ∧ StU fs U ∧ Wf g.2 ∧ FitF g ∧ Keys g.2 U ∧ fs.length ≤ 900 ∧
  (OkW fs g u → ∀ D vs' fs' H', H D = none → Same H H' → H' D = some (.lst vs') → vs'.length = fs'.length → (∀ (i : Nat) (v : V) (f : Fm), vs'[i]? = some v → fs'[i]? = some f → FmAt K H' v f) → NextF fs g u fs' → Q (.ref D) H') ∧ (¬ OkW fs g u → ∀ H', Same H H' → E (.ref (A 1)) none H')
section
theorem ok_Equations__forms_with {P : Program} {w : World} {K : PySem.W.Frag} {mg : Str → Option Value} {base : Heap} {A : Nat → Addr} {D : Nat → FuncData} (T : Txt K mg A D) : FnOk P w K mg base (L2N.CX P w) 6 (A 26) (D 26) ["self", "unknown", "rest"] (sp_eq_with K A) := by
  refine T.F_Equations__forms_with.okN sc_Equations__forms_with (fun vs H Q E h => ?_) (fun cdv A' outer s H vs Q E hr h => ?_)
  · obtain ⟨p, lp, fs, u, w', g, U, rfl, _⟩ := h
    rfl
  obtain ⟨p, lp, fs, u, w', g, U, rfl, he, hg, st, wg, fg, kg, l900, q, no⟩ := h
  refine ⟨_, (pss_cons (ps_set (i := 3) sc_Equations__forms_with.nd rfl (.inl rfl) (pe_lst pa_nil))
  (pss_cons (ps_for (passes_of rfl) rfl (pi_enum (by rfl) T.z_enumerate (pa_cons (pe_fld (pv 0) rfl) pa_nil)) (pg_tup (by rfl) (pgs_cons (pg_name (i := 4) sc_Equations__forms_with.nd rfl (.inl rfl)) (pgs_cons (pg_name (i := 5) sc_Equations__forms_with.nd rfl (.inl rfl)) pgs_nil)))
  (pss_one (ps_if (pt_cmpR op_eq (pv 4) (pv 1) (nomark _))
  (pss_one (ps_expr (pe_bm PySem.F.plainAttrs_list PySem.F.slot_list_append PySem.F.type_list_append mt_append (pv 3) (pa_cons (pv 2) pa_nil))))
  (pss_one (ps_expr (pe_bm PySem.F.plainAttrs_list PySem.F.slot_list_append PySem.F.type_list_append mt_append (pv 3) (pa_cons (pe_call (ok_replace_unknown T) (hr.mono (by decide)) (by rfl) T.m_replace_unknown T.F_replace_unknown.kp T.b_replace_unknown .nil (L2N.passes_call (L2N.takes_of rfl rfl rfl rfl) (fun _ _ _ _ h => h)) (pa_cons (pv 5) (pa_cons (pv 1) (pa_cons (pv 2) pa_nil)))) pa_nil)))))))
  (pss_one (ps_ret (pv 3))))), ?_⟩
  obtain ⟨⟨dx, e⟩, vs, e2, l, a⟩ := id he
  walk_at "z"
  intro D H1 fD s1 hD
  walk_at "z"
  have hD0 : H D = none := fD
  refine Cw.z_forW (walk_enum (K := K) (a := lp) (xs := vs)) (fun S h => Cw.z_iEnum (fun S h => by walk_at "z"; refine Cw.z_fld (s1 _ _ e) T.q_Equations T.nf_Equations__forms Cw.look1 ?_; walk_at "z"; exact h) (.inl (.inl (s1 _ _ e2))) h)
    (fun i σ' H' => Kp D H1 H' ∧ (∃ x1 x2, σ' = [some (.ref p), some (.int u), some w', some (.ref D), x1, x2]) ∧ (∃ (acc : List V) (fs' : List Fm), H' D = some (.lst acc) ∧ acc.length = i ∧ fs'.length = i ∧ (∀ (j : Nat) (v : V) (f : Fm), acc[j]? = some v → fs'[j]? = some f → FmAt K H' v f) ∧
        ∀ (k : Nat) (f f' : Fm), fs[k]? = some f → fs'[k]? = some f' → ((k : Int) = u → f' = g) ∧ ((k : Int) ≠ u → Wf f'.2 ∧ f'.1 = f.1 + g.1 * cf f.2 u ∧ ∀ x, cf f'.2 x = (if x = u then 0 else cf f.2 x) + cf g.2 x * cf f.2 u)) ∧
      ∀ (k : Nat) (f : Fm), k < i → fs[k]? = some f → (k : Int) ≠ u → cf f.2 u ≠ 0 → (fitsQ (g.1 * cf f.2 u) ∧ ∀ x, fitsQ (cf g.2 x * cf f.2 u)) ∧ fitsQ (f.1 + g.1 * cf f.2 u) ∧ ∀ x, fitsQ ((if x = u then 0 else cf f.2 x) + cf g.2 x * cf f.2 u))
    ⟨fun _ _ _ e => e, ⟨_, _, rfl⟩, ⟨[], [], hD, rfl, rfl, fun _ _ _ h => (by cases h), fun _ _ _ _ h => (by cases h)⟩, fun k f h => absurd h (Nat.not_lt_zero _)⟩ (fun i σ' H' _ h => .inl (.inl ?_)) ?_ ?_
  · have : lp ≠ D := fun z => by rw [z, fD] at e2; cases e2
    exact h.1 _ _ this (s1 _ _ e2)
  · rintro i x σ' H2 H3 hi ⟨k2, ⟨x1, x2, rfl⟩, ⟨acc, fs', hA, lacc, lfs, hF, hN⟩, oks⟩ ⟨t, u1, v, rfl, ft, rfl, hu1, hv⟩
    have hu1 : some (V.int ((i : Nat) : Int)) = some u1 := hu1
    have hv : vs[i]? = some v := hv
    cases hu1
    have s23 : Same H2 (upd H2 t (.tup [.int (i : Int), v])) := same_upd ft
    have ht : upd H2 t (HO.tup [.int (i : Int), v]) t = some (.tup [.int (i : Int), v]) := upd_same
    generalize upd H2 t (HO.tup [.int (i : Int), v]) = H3 at *
    refine z_gT (.inl (.inl ht)) rfl ?_
    have hif : i < fs.length := by omega
    have ef : fs[i]? = some fs[i] := List.getElem?_eq_getElem hif
    have mem := List.getElem_mem hif
    have mv := ((a i v _ hv ef).mono s1).kp k2 hD |>.mono s23
    have mg := ((hg.mono s1).kp k2 hD).mono s23
    have hA3 := s23 _ _ hA
    have la : acc.length < 1000 := by omega
    have k3 := k2.trans' (kp_of s23)
    generalize hgen : fs[i] = f at ef mem mv
    have fin : ∀ (w9 : V) (f9 : Fm) (H9 : Hp) (σ9 : L2.St), Same H3 H9 → FmAt K H9 w9 f9 → (((i : Int) = u → f9 = g) ∧ ((i : Int) ≠ u → Wf f9.2 ∧ f9.1 = f.1 + g.1 * cf f.2 u ∧ ∀ x, cf f9.2 x = (if x = u then 0 else cf f.2 x) + cf g.2 x * cf f.2 u)) →
        ((i : Int) ≠ u → cf f.2 u ≠ 0 → (fitsQ (g.1 * cf f.2 u) ∧ ∀ x, fitsQ (cf g.2 x * cf f.2 u)) ∧ fitsQ (f.1 + g.1 * cf f.2 u) ∧ ∀ x, fitsQ ((if x = u then 0 else cf f.2 x) + cf g.2 x * cf f.2 u)) →
        (∃ x1 x2, σ9 = [some (.ref p), some (.int u), some w', some (.ref D), x1, x2]) → Kp D H1 (upd H9 D (.lst (acc ++ [w9]))) ∧ (∃ x1 x2, σ9 = [some (.ref p), some (.int u), some w', some (.ref D), x1, x2]) ∧ (∃ (acc' : List V) (fs' : List Fm), upd H9 D (.lst (acc ++ [w9])) D = some (.lst acc') ∧ acc'.length = i + 1 ∧ fs'.length = i + 1 ∧ (∀ (j : Nat) (v : V) (f : Fm), acc'[j]? = some v → fs'[j]? = some f → FmAt K (upd H9 D (.lst (acc ++ [w9]))) v f) ∧
        ∀ (k : Nat) (f f' : Fm), fs[k]? = some f → fs'[k]? = some f' → ((k : Int) = u → f' = g) ∧ ((k : Int) ≠ u → Wf f'.2 ∧ f'.1 = f.1 + g.1 * cf f.2 u ∧ ∀ x, cf f'.2 x = (if x = u then 0 else cf f.2 x) + cf g.2 x * cf f.2 u)) ∧
      ∀ (k : Nat) (f : Fm), k < i + 1 → fs[k]? = some f → (k : Int) ≠ u → cf f.2 u ≠ 0 → (fitsQ (g.1 * cf f.2 u) ∧ ∀ x, fitsQ (cf g.2 x * cf f.2 u)) ∧ fitsQ (f.1 + g.1 * cf f.2 u) ∧ ∀ x, fitsQ ((if x = u then 0 else cf f.2 x) + cf g.2 x * cf f.2 u) := by
      intro w9 f9 H9 σ9 s9 m9 n9 o9 hσ
      have hA9 := s9 _ _ hA3
      refine ⟨(k3.trans' (kp_of s9)).trans' kp_at, hσ, ⟨_, fs' ++ [f9], upd_same, by simp [lacc], by simp [lfs], fun j vj fj hvj hfj => ?_, fun k f0 f' h0 h' => ?_⟩, fun k f0 hk h0 => ?_⟩
      · rcases Nat.lt_or_ge j i with h | h
        · rw [List.getElem?_append_left (by omega)] at hvj hfj
          exact (((hF j vj fj hvj hfj).mono s23).mono s9).kp kp_at hA9
        · have hj := (List.getElem?_eq_some_iff.mp hvj).1
          rw [List.length_append, List.length_singleton] at hj
          have : j = i := by omega
          subst this
          rw [List.getElem?_append_right (by omega), lacc, Nat.sub_self] at hvj
          rw [List.getElem?_append_right (by omega), lfs, Nat.sub_self] at hfj
          cases hvj
          cases hfj
          exact m9.kp kp_at hA9
      · rcases Nat.lt_or_ge k i with h | h
        · rw [List.getElem?_append_left (by omega)] at h'
          exact hN k f0 f' h0 h'
        · have hj := (List.getElem?_eq_some_iff.mp h').1
          rw [List.length_append, List.length_singleton] at hj
          have : k = i := by omega
          subst this
          rw [List.getElem?_append_right (by omega), lfs, Nat.sub_self] at h'
          rw [ef] at h0
          cases h0
          cases h'
          exact n9
      · rcases Nat.lt_or_ge k i with h | h
        · exact oks k f0 h h0
        · have : k = i := by omega
          subst this
          rw [ef] at h0
          cases h0
          exact o9
    walk_at "z"
    refine z_if (fun c => ?_) (fun c => ?_)
    · walk_at "z"
      refine z_bmL (fun R q => by walk_at "z"; exact q) hA3 ?_
      walk_at "z"
      refine z_append hA3 la ?_
      walk_at "z"
      exact fin w' g H3 _ (fun _ _ e => e) mg ⟨fun _ => rfl, fun n => absurd c n⟩ (fun n => absurd c n) ⟨_, _, rfl⟩
    · walk_at "z"
      refine z_bmL (fun R q => by walk_at "z"; exact q) hA3 ?_
      walk_at "z"
      have s03 : Same H H3 := (same_kpD s1 hD0 k3)
      refine ⟨v, w', u, f, g, U, rfl, mv, mg, st.wf f mem, wg, st.fit f mem, fg, st.len, st.key f mem, kg, fun c0 => ?_, fun c0 => ⟨fun nk H4 s4 => no (fun z => nk (z i f ef c c0).1) H4 (s03.trans s4), fun ok => ⟨fun ok2 v4 t4 H4 s4 m4 w4 c4 => ?_, fun nk H4 s4 => no (fun z => nk (z i f ef c c0).2) H4 (s03.trans s4)⟩⟩⟩
      · walk_at "z"
        refine z_append hA3 la ?_
        walk_at "z"
        refine fin v f H3 _ (fun _ _ e => e) mv ⟨fun n => absurd n c, fun _ => ⟨st.wf f mem, by rw [c0, Rat.mul_zero, Rat.add_zero], fun x => ?_⟩⟩ (fun _ n => absurd c0 n) ⟨_, _, rfl⟩
        rw [c0, Rat.mul_zero, Rat.add_zero]
        split
        · rename_i ex
          rw [ex, c0]
        · rfl
      · walk_at "z"
        refine z_append (s4 _ _ hA3) la ?_
        walk_at "z"
        exact fin v4 _ H4 _ s4 m4 ⟨fun n => absurd n c, fun _ => ⟨w4, rfl, c4⟩⟩ (fun _ _ => ⟨ok, ok2⟩) ⟨_, _, rfl⟩
  · rintro σ' H' ⟨k2, ⟨x1, x2, rfl⟩, ⟨acc, fs', hA, lacc, lfs, hF, hN⟩, oks⟩
    rw [l] at lacc lfs oks
    walk_at "z"
    exact q (fun k f h0 => oks k f (List.getElem?_eq_some_iff.mp h0).1 h0) D acc fs' H' hD0 (same_kpD s1 hD0 k2) hA (lacc.trans lfs.symm) hF ⟨lfs, hN⟩
end
/-! ### an equation -/
def OkD (F : Fm) (init : Tms) (k : Rat) : Prop := fitsQ (((-1 : Int) : Rat) / k) ∧ fitsQ (F.1 * (((-1 : Int) : Rat) / k)) ∧ ∀ x, fitsQ (cf init x * (((-1 : Int) : Rat) / k))
/-- how an equation ends whose reduced form is F -/
def EndQ (K : PySem.W.Frag) (A : Nat → Addr) (p : Addr) (fs : List Fm) (F : Fm) (H : Hp) (Q : VK) (E : XK) : Prop :=
  (F.2 = [] → (F.1 = 0 → ∀ H', Same H H' → Q (.bl false) H') ∧ (F.1 ≠ 0 → ∀ H', Same H H' → E (.ref (A 3)) none H')) ∧
  ∀ init u k, F.2 = init ++ [(u, k)] → (¬ OkD F init k → ∀ H', Same H H' → E (.ref (A 1)) none H') ∧ (OkD F init k → ∀ g : Fm, Wf g.2 → g.1 = F.1 * (((-1 : Int) : Rat) / k) → (∀ x, cf g.2 x = cf init x * (((-1 : Int) : Rat) / k)) →
    (¬ OkW fs g u → ∀ H', Same H H' → E (.ref (A 1)) none H') ∧ (OkW fs g u → ∀ fs' lp' H', Kp p H H' → H lp' = none → EqL (A 6) K H' p lp' fs' → NextF fs g u fs' → Q (.bl true) H'))
def OkS (f g : Fm) : Prop := fitsQ (f.1 - g.1) ∧ ∀ u, fitsQ (cf f.2 u - cf g.2 u)
def sp_equate (K : PySem.W.Frag) (A : Nat → Addr) : Sp := fun vs H Q E => ∃ (p lp : Addr) (fs : List Fm) (v w : V) (f g : Fm) (U : List Int), vs = [.ref p, v, w] ∧ EqL (A 6) K H p lp fs ∧ FmAt K H v f ∧ FmAt K H w g ∧ StU fs U ∧ FmU fs U f ∧ FmU fs U g ∧ fs.length ≤ 900 ∧
  (¬ OkS f g → ∀ H', Same H H' → E (.ref (A 1)) none H') ∧ (OkS f g → ∀ d : Fm, FmU fs U d → d.1 = f.1 - g.1 → (∀ u, cf d.2 u = cf f.2 u - cf g.2 u) →
    (¬ OkR fs d → ∀ H', Same H H' → E (.ref (A 1)) none H') ∧ (OkR fs d → ∀ F : Fm, Wf F.2 → F.1 = sumC fs d.2 d.1 → (∀ u, cf F.2 u = sumR fs d.2 z0 u) → EndQ K A p fs F H Q E))
theorem EndQ.mono {K : PySem.W.Frag} {A : Nat → Addr} {p : Addr} {fs : List Fm} {F : Fm} {H H' : Hp} {Q : VK} {E : XK} (s : Same H H') (h : EndQ K A p fs F H Q E) : EndQ K A p fs F H' Q E := by
  refine ⟨fun e => ⟨fun z H2 s2 => (h.1 e).1 z H2 (s.trans s2), fun z H2 s2 => (h.1 e).2 z H2 (s.trans s2)⟩, fun init u k e => ⟨fun n H2 s2 => (h.2 init u k e).1 n H2 (s.trans s2), fun o g h1 h2 h3 => ⟨fun n H2 s2 => ((h.2 init u k e).2 o g h1 h2 h3).1 n H2 (s.trans s2), fun o2 fs' lp' H2 k2 n2 => ((h.2 init u k e).2 o g h1 h2 h3).2 o2 fs' lp' H2 ((kp_of s).trans' k2) (fresh_of s n2)⟩⟩⟩
theorem qIe (n : Int) : qD (n : Rat) = .tuple [.int n, .int 1] := by
  unfold qD
  rw [Rat.num_intCast, Rat.den_intCast]
  rfl
theorem seqT_kpI {K : PySem.W.Frag} {H H' : Hp} {p a C dx : Addr} {ys : List V} {l : List (Str × V)} (k : Kp p H H') (hp : H p = some (.ins C dx l)) (h : SqT K H a ys) : SqT K H' a ys := by
  rcases h with (h | ⟨o, h⟩) | h
  · refine .inl (.inl (k _ _ (fun z => ?_) h))
    rw [z, hp] at h
    cases h
  · refine .inl (.inr ⟨o, k _ _ (fun z => ?_) h⟩)
    rw [z, hp] at h
    cases h
  · exact .inr h
mutual
theorem dp_kpI {K : PySem.W.Frag} {H H' : Hp} {p C dx : Addr} {l : List (Str × V)} (k : Kp p H H') (hp : H p = some (.ins C dx l)) : ∀ {d : PyData} {v : V}, tupOnly d = true → Dp K H v d → Dp K H' v d
  | _, _, _, .non => .non
  | _, _, _, .bl b => .bl b
  | _, _, _, .int i => .int i
  | _, _, _, .str x => .str x
  | _, _, t, .lst h a => by simp [tupOnly] at t
  | _, _, t, .tup h a => .tup (seqT_kpI k hp h) (dp_kpIA k hp (by simpa [tupOnly] using t) a)
theorem dp_kpIA {K : PySem.W.Frag} {H H' : Hp} {p C dx : Addr} {l : List (Str × V)} (k : Kp p H H') (hp : H p = some (.ins C dx l)) : ∀ {ds : List PyData} {vs : List V}, tupOnlyA ds = true → DpAll K H vs ds → DpAll K H' vs ds
  | _, _, _, .nil => .nil
  | _, _, t, .cons h a => by
    have t' : (tupOnly _ && tupOnlyA _) = true := t
    rw [Bool.and_eq_true] at t'
    exact .cons (dp_kpI k hp t'.1 h) (dp_kpIA k hp t'.2 a)
end
theorem okR_fit {fs : List Fm} {d : Fm} (o : OkR fs d) (f : FitF d) : fitsQ (sumC fs d.2 d.1) ∧ ∀ u, fitsQ (sumR fs d.2 z0 u) := by
  by_cases h : d.2 = []
  · rw [h]
    exact ⟨f.1, fun _ => fits0⟩
  · have hp := List.length_pos_iff.mpr h
    have e : d.2[d.2.length - 1]? = some d.2[d.2.length - 1] := List.getElem?_eq_getElem (by omega)
    have := (o _ _ e).2
    rw [show d.2.length - 1 + 1 = d.2.length by omega, List.take_length] at this
    exact this
theorem FmAt.kpI {K : PySem.W.Frag} {H H' : Hp} {v : V} {f : Fm} {p C dx : Addr} {l : List (Str × V)} (k : Kp p H H') (hp : H p = some (.ins C dx l)) (h : FmAt K H v f) : FmAt K H' v f := by
  obtain ⟨a, cv, t, vs, rfl, h1, h2, ⟨o, e, r⟩, h4⟩ := h
  refine ⟨a, cv, t, vs, rfl, seqT_kpI k hp h1, dp_kpI k hp (tup_q _) h2, ⟨o, k _ _ (fun z => ?_) e, r⟩, dp_kpIA k hp (tup_tms _) h4⟩
  rw [z, hp] at e
  cases e
theorem cutV_init (xs : List V) (x : V) : cutV (xs ++ [x]) none (some (-1)) = xs := by
  unfold cutV
  have e1 : HT.sIx (xs ++ [x]).length 0 none = 0 := rfl
  have e2 : HT.sIx (xs ++ [x]).length (xs ++ [x]).length (some (-1)) = xs.length := by
    unfold HT.sIx
    simp
    omega
  rw [e1, e2]
  simp
theorem atI_last (xs : List V) (x : V) : atI (xs ++ [x]) (-1) = some x := by
  unfold atI
  have : ixN (xs ++ [x]).length (-1) = some xs.length := by
    unfold ixN
    simp
    omega
  rw [this]
  simp
theorem dpa_init {K : PySem.W.Frag} {H : Hp} {d : PyData} : ∀ {ds : List PyData} {vs : List V}, DpAll K H vs (ds ++ [d]) → ∃ ws w, vs = ws ++ [w] ∧ DpAll K H ws ds ∧ Dp K H w d
  | [], vs, h => by
    obtain ⟨v, r, rfl, h1, h2⟩ := dpa_cons h
    rw [dpa_nil h2]
    exact ⟨[], v, rfl, .nil, h1⟩
  | d0 :: ds, vs, h => by
    obtain ⟨v, r, rfl, h1, h2⟩ := dpa_cons h
    obtain ⟨ws, w, rfl, h3, h4⟩ := dpa_init h2
    exact ⟨v :: ws, w, rfl, .cons h1 h3, h4⟩
theorem wf_init {init : Tms} {t : Int × Rat} (h : Wf (init ++ [t])) : Wf init ∧ (∀ s ∈ init, s.1 < t.1) ∧ t.2 ≠ 0 := by
  have p := List.pairwise_append.mp h.asc
  exact ⟨⟨p.1, fun s hs => h.nz s (List.mem_append.mpr (.inl hs))⟩, fun s hs => p.2.2 s hs t (List.mem_singleton.mpr rfl), h.nz t (List.mem_append.mpr (.inr (List.mem_singleton.mpr rfl)))⟩
theorem cf_init {init : Tms} {t : Int × Rat} (h : Wf (init ++ [t])) (x : Int) : cf init x = if x = t.1 then 0 else cf (init ++ [t]) x := by
  obtain ⟨h1, h2, h3⟩ := wf_init h
  split
  · rename_i e
    exact cf_none fun s hs => by have := h2 s hs; omega
  · rename_i e
    clear h h1 h2 h3
    induction init with
    | nil =>
      show (0 : Rat) = if t.1 = x then t.2 else 0
      rw [if_neg (fun z => e z.symm)]
    | cons s r ih =>
      show (if s.1 = x then s.2 else cf r x) = if s.1 = x then s.2 else cf (r ++ [t]) x
      rw [ih]
theorem last_of {ts : Tms} (h : ts ≠ []) : ∃ init t, ts = init ++ [t] := ⟨ts.dropLast, ts.getLast h, (List.dropLast_concat_getLast h).symm⟩
section
theorem ok_Equations_equate {P : Program} {w : World} {K : PySem.W.Frag} {mg : Str → Option Value} {base : Heap} {A : Nat → Addr} {D : Nat → FuncData} (T : Txt K mg A D) : FnOk P w K mg base (L2N.CX P w) 7 (A 25) (D 25) ["self", "left", "right"] (sp_equate K A) := by
  refine T.F_Equations_equate.okN sc_Equations_equate (fun vs H Q E h => ?_) (fun cdv A' outer s H vs Q E hr h => ?_)
  · obtain ⟨p, lp, fs, v, w', f, g, U, rfl, _⟩ := h
    rfl
  obtain ⟨p, lp, fs, v, w', f, g, U, rfl, he, hf, hg, st, uf, ug, l900, nS, q⟩ := h
  refine ⟨_, (pss_cons (ps_asg (pe_meth (pv 0) T.q_Equations T.m_Equations_reduce (ok_Equations_reduce T) (hr.mono (by decide)) T.b_Equations_reduce .nil (L2N.passes_call (L2N.takes_of rfl rfl rfl rfl) (fun _ _ _ _ h => h)) (pa_cons (pe_call (ok_subtract_forms T) (hr.mono (by decide)) (by rfl) T.m_subtract_forms T.F_subtract_forms.kp T.b_subtract_forms .nil (L2N.passes_call (L2N.takes_of rfl rfl rfl rfl) (fun _ _ _ _ h => h)) (pa_cons (pv 1) (pa_cons (pv 2) pa_nil))) pa_nil)) (pg_tup (by rfl) (pgs_cons (pg_name (i := 3) sc_Equations_equate.nd rfl (.inl rfl)) (pgs_cons (pg_name (i := 4) sc_Equations_equate.nd rfl (.inl rfl)) pgs_nil))))
  (pss_cons (ps_if (Z.pt_tru (pv 4) (by intro _; rfl))
  (pss_cons (ps_asg (pe_ix ix_tup (pv 4) (pe_un un_neg pe_int) (fun _ _ => rfl)) (pg_tup (by rfl) (pgs_cons (pg_name (i := 5) sc_Equations_equate.nd rfl (.inl rfl)) (pgs_cons (pg_name (i := 6) sc_Equations_equate.nd rfl (.inl rfl)) pgs_nil))))
  (pss_cons (ps_set (i := 7) sc_Equations_equate.nd rfl (.inl rfl) (pe_call (ok_scale_form T) (hr.mono (by decide)) (by rfl) T.m_scale_form T.F_scale_form.kp T.b_scale_form .nil (L2N.passes_call (L2N.takes_of rfl rfl rfl rfl) (fun _ _ _ _ h => h)) (pa_cons (pe_tup (pa_cons (pv 3) (pa_cons (pe_slice L2.sl_tupA (pv 4) po_none (po_some (pe_un un_neg pe_int))) pa_nil))) (pa_cons (pe_call (ok_divide T) (hr.mono (by decide)) (by rfl) T.m_divide T.F_divide.kp T.b_divide .nil (L2N.passes_call (L2N.takes_of rfl rfl rfl rfl) (fun _ _ _ _ h => h)) (pa_cons (Z.pe_globR T.c_MINUS_ONE) (pa_cons (pv 6) pa_nil))) pa_nil))))
  (pss_cons (ps_fld (pv 0) (pe_meth (pv 0) T.q_Equations T.m_Equations__forms_with (ok_Equations__forms_with T) (hr.mono (by decide)) T.b_Equations__forms_with .nil (L2N.passes_call (L2N.takes_of rfl rfl rfl rfl) (fun _ _ _ _ h => h)) (pa_cons (pv 5) (pa_cons (pv 7) pa_nil))) rfl)
  (pss_one (ps_ret pe_bl)))))
  pss_nil)
  (pss_cons (ps_if (pt_cmpR (op_neD hr.units) (pv 3) (Z.pe_globR T.c_ZERO) (nomark _))
  (pss_one (L2N.ps_raise rfl (L2N.takes_of rfl rfl rfl rfl) (Nn.pmk T.x_Contradiction (by rfl))))
  pss_nil)
  (pss_one (ps_ret pe_bl))))), ?_⟩
  obtain ⟨⟨dx, e⟩, _⟩ := id he
  walk_at "z"
  refine Cw.z_meth e (Cw.look1n rfl) ?_
  walk_at "z"
  refine ⟨v, w', f, g, U, rfl, hf, hg, uf.wf, ug.wf, uf.fit, ug.fit, st.len, uf.key, ug.key, fun ok vd td H1 s1 md wd cd => ?_, fun no H' s' => nS no H' s'⟩
  have cd : ∀ u, cf td u = cf f.2 u - cf g.2 u := cd
  have ok : OkS f g := ok
  have ud : FmU fs U (f.1 - g.1, td) := by
    have inn : ∀ t ∈ td, (∃ s ∈ f.2, s.1 = t.1) ∨ ∃ s ∈ g.2, s.1 = t.1 := fun t ht => by
      have h1 := cf_mem wd.asc ht
      rw [cd] at h1
      by_cases z : cf f.2 t.1 = 0
      · refine .inr (cf_ne fun z2 => wd.nz t ht ?_)
        rw [← h1, z, z2]
        exact Rat.sub_self
      · exact .inl (cf_ne z)
    refine ⟨wd, ⟨ok.1, fun u => by show fitsQ (cf td u); rw [cd]; exact ok.2 u⟩, fun t ht => ?_, fun t ht => ?_⟩
    · rcases inn t ht with ⟨s, hs, es⟩ | ⟨s, hs, es⟩
      · rw [← es]; exact uf.key s hs
      · rw [← es]; exact ug.key s hs
    · rcases inn t ht with ⟨s, hs, es⟩ | ⟨s, hs, es⟩
      · rw [← es]; exact uf.rg s hs
      · rw [← es]; exact ug.rg s hs
  obtain ⟨nR, qR⟩ := q ok (f.1 - g.1, td) ud rfl cd
  clear q nS
  walk_at "z"
  refine ⟨p, lp, fs, vd, (f.1 - g.1, td), U, rfl, he.mono s1, md, st, ud, fun okR vF tF H2 s2 mF wF cF kF => ?_, fun no H' s' => nR no H' (s1.trans s')⟩
  have s12 := s1.trans s2
  have qF := (qR okR (sumC fs td (f.1 - g.1), tF) wF rfl cF).mono s12
  clear qR nR
  have he2 := he.mono s12
  have mF : FmAt K H2 vF (sumC fs td (f.1 - g.1), tF) := mF
  have fitF : FitF (sumC fs td (f.1 - g.1), tF) := ⟨(okR_fit okR ud.fit).1, fun u => by show fitsQ (cf tF u); rw [cF]; exact (okR_fit okR ud.fit).2 u⟩
  generalize sumC fs td (f.1 - g.1) = c at mF qF fitF
  obtain ⟨a, ca, ta, va, rfl, sa, da, pa, la⟩ := mF
  have da : Dp K H2 ca (qD c) := da
  have la : DpAll K H2 va (tF.map tmD) := la
  have sq := pa.sq (K := K)
  walk_at "z"
  refine z_truT sq ?_
  by_cases hF : tF = []
  · subst hF
    rw [dpa_nil la]
    walk_at "z"
    refine z_neQ da (show Dp K H2 _ (qD 0) from T.d_ZERO H2) ?_
    walk_at "z"
    refine z_if (fun z => ?_) (fun z => ?_)
    · walk_at "z"
      exact (qF.1 rfl).2 z H2 fun _ _ e => e
    · walk_at "z"
      exact (qF.1 rfl).1 (Decidable.of_not_not z) H2 fun _ _ e => e
  obtain ⟨init, ⟨u, k⟩, rfl⟩ := last_of hF
  rw [List.map_append] at la
  obtain ⟨ws, wl, rfl, hw, dl⟩ := dpa_init (d := tmD (u, k)) la
  obtain ⟨px, wx, rfl, sx, dwx⟩ := dp_tm dl
  obtain ⟨w1, w2, w3⟩ := wf_init wF
  have w3 : k ≠ 0 := w3
  obtain ⟨nD, qD'⟩ := qF.2 init u k rfl
  rw [show (!(ws ++ [V.ref px]).isEmpty) = true by cases ws <;> rfl]
  walk_at "z"
  refine z_ixT sq (atI_last _ _) ?_
  walk_at "z"
  refine ⟨_, rfl, ?_⟩
  refine Tg.z_slA sq fun p3 H3 s3 h3 => ?_
  rw [cutV_init] at h3
  walk_at "z"
  intro p4 H4 f4 s4 h4
  walk_at "z"
  have s34 := s3.trans s4
  have fk : fitsQ k := by
    have := fitF.mem wF (t := (u, k)) (List.mem_append.mpr (.inr (List.mem_singleton.mpr rfl)))
    exact this
  have fc : ∀ x, fitsQ (cf init x) := fun x => by
    rw [cf_init wF]
    split
    · exact fits0
    · exact fitF.2 x
  have ki : Keys init U := fun t ht => kF t (List.mem_append.mpr (.inl ht))
  refine ⟨_, _, ((-1 : Int) : Rat), k, rfl, (show Dp K H4 _ (qD ((-1 : Int) : Rat)) by rw [qIe]; exact T.d_MINUS_ONE H4), dp_mono s34 dwx, ⟨by rw [Rat.num_intCast]; decide, by rw [Rat.den_intCast]; decide⟩, fits_bg fk, fun z => absurd z w3, fun _ => ⟨fun nf => nD (fun z => nf z.1) H4 s34, fun okd v5 H5 s5 d5 => ?_⟩⟩
  walk_at "z"
  have s35 := s34.trans s5
  have lU := st.len
  have li := keys_len w1 ki
  refine ⟨_, _, (c, init), _, rfl, ⟨p4, ca, p3, ws, rfl, .inl (.inl (s5 _ _ h4)), dp_mono s35 da, seqT (s4.trans s5) h3, dp_monoA s35 hw⟩, d5, w1, ⟨fitF.1, fc⟩, okd, by show init.length ≤ 900; omega, fun ok6 v6 t6 H6 s6 m6 w6 c6 => ?_, fun no H' s' => nD (fun z => no z.2) H' (s35.trans s')⟩
  have c6 : ∀ x, cf t6 x = cf init x * (((-1 : Int) : Rat) / k) := c6
  have ok6 : fitsQ (c * (((-1 : Int) : Rat) / k)) ∧ ∀ x, fitsQ (cf init x * (((-1 : Int) : Rat) / k)) := ok6
  obtain ⟨nW, qW⟩ := qD' ⟨okd, ok6⟩ (c * (((-1 : Int) : Rat) / k), t6) w6 rfl c6
  have s36 := s35.trans s6
  have k6 : Keys t6 U := fun t ht => by
    have h1 := cf_mem w6.asc ht
    rw [c6] at h1
    obtain ⟨y, hy, ey⟩ := cf_ne (ts := init) (u := t.1) fun z => w6.nz t ht (by rw [← h1, z, Rat.zero_mul])
    rw [← ey]
    exact ki y hy
  have he6 := he2.mono s36
  have e6 := s36 _ _ (s12 _ _ e)
  walk_at "z"
  refine Cw.z_meth e6 (Cw.look1n rfl) ?_
  walk_at "z"
  refine ⟨p, lp, fs, u, v6, _, U, rfl, he6, m6, st, w6, ⟨ok6.1, fun x => by show fitsQ (cf t6 x); rw [c6]; exact ok6.2 x⟩, k6, l900, fun okw D vs' fs' H7 fD s7 hD lD aD nF => ?_, fun no H' s' => nW no H' (s36.trans s')⟩
  walk_at "z"
  have s37 := s36.trans s7
  have e7 := s7 _ _ e6
  refine Cw.z_sfld e7 T.q_Equations T.nf_Equations__forms (by simp) ?_
  walk_at "z"
  rw [Cw.put1]
  have npD : D ≠ p := fun z => by subst z; rw [hD] at e7; cases e7
  have kp8 : Kp p H7 (upd H7 p (.ins (A 6) dx [("_forms", .ref D)])) := kp_at
  refine qW okw fs' D _ ((kp_of s37).trans' kp8) (fresh_of s36 fD) ⟨⟨dx, upd_same⟩, vs', kp8 _ _ npD hD, lD, fun i v f hv hf => ?_⟩ nF
  exact FmAt.kpI kp8 e7 (aD i v f hv hf)
end
/-! ### sums over unknowns -/
def sm : Nat → (Nat → Rat) → Rat
  | 0, _ => 0
  | n + 1, g => sm n g + g n
def smN : Nat → (Nat → Nat) → Nat
  | 0, _ => 0
  | n + 1, g => smN n g + g n
theorem sm_congr {g h : Nat → Rat} : ∀ {n : Nat}, (∀ k, k < n → g k = h k) → sm n g = sm n h
  | 0, _ => rfl
  | n + 1, e => by
    show sm n g + g n = sm n h + h n
    rw [sm_congr fun k hk => e k (by omega), e n (by omega)]
theorem sm_add (g h : Nat → Rat) : ∀ n, sm n (fun k => g k + h k) = sm n g + sm n h
  | 0 => (Rat.add_zero 0).symm
  | n + 1 => by
    show sm n (fun k => g k + h k) + (g n + h n) = sm n g + g n + (sm n h + h n)
    rw [sm_add g h n]
    grind
theorem sm_mul (g : Nat → Rat) (c : Rat) : ∀ n, sm n (fun k => g k * c) = sm n g * c
  | 0 => (Rat.zero_mul c).symm
  | n + 1 => by
    show sm n (fun k => g k * c) + g n * c = (sm n g + g n) * c
    rw [sm_mul g c n]
    grind
theorem sm_zero {g : Nat → Rat} : ∀ {n : Nat}, (∀ k, k < n → g k = 0) → sm n g = 0
  | 0, _ => rfl
  | n + 1, e => by
    show sm n g + g n = 0
    rw [sm_zero fun k hk => e k (by omega), e n (by omega)]
    exact Rat.add_zero 0
theorem sm_delta {g : Nat → Rat} {u : Nat} : ∀ {n : Nat}, (∀ k, k < n → k ≠ u → g k = 0) → u < n → sm n g = g u
  | n + 1, e, h => by
    show sm n g + g n = g u
    rcases Nat.lt_or_ge u n with l | l
    · rw [sm_delta (fun k hk => e k (by omega)) l, e n (by omega) (by omega), Rat.add_zero]
    · have : u = n := by omega
      subst this
      rw [sm_zero fun k hk => e k (by omega) (by omega), Rat.zero_add]
theorem sm_swap (g : Nat → Nat → Rat) : ∀ n m, sm n (fun k => sm m fun j => g k j) = sm m fun j => sm n fun k => g k j
  | 0, m => (sm_zero fun _ _ => rfl).symm
  | n + 1, m => by
    show sm n (fun k => sm m fun j => g k j) + sm m (fun j => g n j) = sm m fun j => sm n (fun k => g k j) + g n j
    rw [sm_swap g n m, sm_add]
theorem zb_0 {D : Nat} : Zb 0 D 0 := ⟨0, by rw [Rat.zero_mul]; rfl, Nat.le_refl _⟩
theorem zb_sm {g : Nat → Rat} {h : Nat → Nat} {D : Nat} : ∀ {n : Nat}, (∀ k, k < n → Zb (g k) D (h k)) → Zb (sm n g) D (smN n h)
  | 0, _ => zb_0
  | n + 1, e => zb_add (zb_sm fun k hk => e k (by omega)) (e n (by omega))
theorem smN_le {h : Nat → Nat} {c : Nat} : ∀ {n : Nat}, (∀ k, k < n → h k ≤ c) → smN n h ≤ n * c
  | 0, _ => Nat.zero_le _
  | n + 1, e => by
    show smN n h + h n ≤ (n + 1) * c
    have h1 := smN_le (n := n) fun k hk => e k (by omega)
    have h2 := e n (by omega)
    rw [Nat.succ_mul]
    omega
theorem smN_mono {h h' : Nat → Nat} : ∀ {n : Nat}, (∀ k, k < n → h k ≤ h' k) → smN n h ≤ smN n h'
  | 0, _ => Nat.le_refl _
  | n + 1, e => Nat.add_le_add (smN_mono fun k hk => e k (by omega)) (e n (by omega))
theorem smN_add (g h : Nat → Nat) : ∀ n, smN n (fun k => g k + h k) = smN n g + smN n h
  | 0 => rfl
  | n + 1 => by
    show smN n (fun k => g k + h k) + (g n + h n) = smN n g + g n + (smN n h + h n)
    rw [smN_add g h n]
    omega
theorem smN_mul (g : Nat → Nat) (c : Nat) : ∀ n, smN n (fun k => c * g k) = c * smN n g
  | 0 => rfl
  | n + 1 => by
    show smN n (fun k => c * g k) + c * g n = c * (smN n g + g n)
    rw [smN_mul g c n, Nat.mul_add]
theorem smN_delta {u c : Nat} : ∀ {n : Nat}, smN n (fun k => if k = u then c else 0) ≤ c
  | 0 => Nat.zero_le _
  | n + 1 => by
    show smN n (fun k => if k = u then c else 0) + (if n = u then c else 0) ≤ c
    by_cases e : n = u
    · subst e
      have : ∀ m, m ≤ n → smN m (fun k => if k = n then c else 0) = 0 := by
        intro m
        induction m with
        | zero => intro _; rfl
        | succ m ih =>
          intro h
          show smN m _ + (if m = n then c else 0) = 0
          rw [ih (by omega), if_neg (by omega)]
      rw [this n (Nat.le_refl _), if_pos rfl]
      omega
    · rw [if_neg e]
      exact smN_delta
/-! ### a state as constants and coefficients -/
def cN (fs : List Fm) (k : Nat) : Rat := (atF fs (k : Int)).1
def aN (fs : List Fm) (k j : Nat) : Rat := cf (atF fs (k : Int)).2 (j : Int)
def dN (ts : Tms) (k : Nat) : Rat := cf ts (k : Int)
theorem cf_cons {t : Int × Rat} {r : Tms} (h : (t :: r).Pairwise (fun a b => a.1 < b.1)) (u : Int) : cf (t :: r) u = (if t.1 = u then t.2 else 0) + cf r u := by
  show (if t.1 = u then t.2 else cf r u) = _
  split
  · rename_i e
    rw [cf_none (ts := r) fun s hs => by have := (List.pairwise_cons.mp h).1 s hs; omega]
    exact (Rat.add_zero _).symm
  · exact (Rat.zero_add _).symm
theorem sm_ins {n : Nat} {h : Nat → Rat} {t : Int × Rat} {r : Tms} (p : (t :: r).Pairwise (fun a b => a.1 < b.1)) (h0 : 0 ≤ t.1) (h1 : t.1 < (n : Int)) : sm n (fun k => h k * dN (t :: r) k) = h t.1.toNat * t.2 + sm n fun k => h k * dN r k := by
  rw [sm_congr (h := fun k => h k * (if t.1 = (k : Int) then t.2 else 0) + h k * dN r k) fun k _ => by
    show h k * cf (t :: r) k = _
    rw [cf_cons p]
    show _ = _ + h k * cf r k
    grind, sm_add]
  congr 1
  rw [sm_delta (u := t.1.toNat) (fun k hk hne => by rw [if_neg (by omega), Rat.mul_zero]) (by omega), if_pos (by omega)]
theorem sumC_sm (fs : List Fm) {n : Nat} : ∀ {ts : Tms} {c : Rat}, ts.Pairwise (fun a b => a.1 < b.1) → (∀ t ∈ ts, 0 ≤ t.1 ∧ t.1 < (n : Int)) → sumC fs ts c = c + sm n fun k => cN fs k * dN ts k
  | [], c, _, _ => by
    show c = c + _
    rw [sm_zero fun k _ => by show _ * (0 : Rat) = 0; rw [Rat.mul_zero], Rat.add_zero]
  | t :: r, c, p, h => by
    have ht := h t (.head _)
    show sumC fs r _ = _
    rw [sumC_sm fs (List.pairwise_cons.mp p).2 fun s hs => h s (.tail _ hs), sm_ins p ht.1 ht.2]
    have : cN fs t.1.toNat = (atF fs t.1).1 := by unfold cN; rw [show ((t.1.toNat : Nat) : Int) = t.1 by omega]
    rw [this]
    grind
theorem sumR_sm (fs : List Fm) {n j : Nat} : ∀ {ts : Tms} {r : Int → Rat}, ts.Pairwise (fun a b => a.1 < b.1) → (∀ t ∈ ts, 0 ≤ t.1 ∧ t.1 < (n : Int)) → sumR fs ts r j = r j + sm n fun k => aN fs k j * dN ts k
  | [], r, _, _ => by
    show r j = r j + _
    rw [sm_zero fun k _ => by show _ * (0 : Rat) = 0; rw [Rat.mul_zero], Rat.add_zero]
  | t :: ts, r, p, h => by
    have ht := h t (.head _)
    show sumR fs ts _ j = _
    rw [sumR_sm fs (List.pairwise_cons.mp p).2 fun s hs => h s (.tail _ hs), sm_ins p ht.1 ht.2]
    have : aN fs t.1.toNat j = cf (atF fs t.1).2 j := by unfold aN; rw [show ((t.1.toNat : Nat) : Int) = t.1 by omega]
    rw [this]
    grind
/-- the coefficients of some of the terms -/
theorem dN_take {ts : Tms} (p : ts.Pairwise (fun a b => a.1 < b.1)) (i k : Nat) : dN (ts.take i) k = 0 ∨ dN (ts.take i) k = dN ts k := by
  unfold dN
  rcases cf_in (ts := ts.take i) (k : Int) with e | e
  · exact .inl e
  · have := cf_mem p (List.mem_of_mem_take e)
    exact .inr this.symm
/-! ### what holds of a state all the time -/
def Fr (fs : List Fm) (k : Nat) : Prop := atF fs (k : Int) = (0, [((k : Int), 1)])
instance (fs : List Fm) (k : Nat) : Decidable (Fr fs k) := by unfold Fr; exact inferInstance
theorem Fr.c {fs : List Fm} {k : Nat} (h : Fr fs k) : cN fs k = 0 := by unfold cN; rw [h]
theorem Fr.a {fs : List Fm} {k : Nat} (h : Fr fs k) (j : Nat) : aN fs k j = if j = k then 1 else 0 := by
  unfold aN
  rw [h]
  show (if (k : Int) = (j : Int) then (1 : Rat) else 0) = _
  by_cases e : j = k
  · rw [if_pos e, if_pos (by omega)]
  · rw [if_neg e, if_neg (by omega)]
def cnt (n : Nat) (fs : List Fm) : Nat := smN n fun k => if Fr fs k then 0 else 1
def Dt : Nat → Nat
  | 0 => 1
  | 1 => 3
  | 2 => 54
  | 3 => 43740
  | _ => 74614316400
def Nt : Nat → Nat
  | 0 => 0
  | 1 => 3
  | 2 => 108
  | 3 => 174960
  | _ => 596914531200
structure J (n : Nat) (x : Nat → Int) (r : Nat) (fs : List Fm) : Prop where
  len : fs.length = n
  wf : ∀ k, k < n → Wf (atF fs (k : Int)).2
  rg : ∀ k, k < n → ∀ t ∈ (atF fs (k : Int)).2, 0 ≤ t.1 ∧ t.1 < (n : Int)
  fr : ∀ k, k < n → Fr fs k ∨ ∀ j, aN fs k j ≠ 0 → j < k ∧ Fr fs j
  pl : ∀ k, k < n → cN fs k + sm n (fun j => aN fs k j * (x j : Rat)) = (x k : Rat)
  rk : cnt n fs = r
  bd : ∃ D : Nat, 1 ≤ D ∧ D ≤ Dt r ∧ ∀ k, k < n → ¬ Fr fs k → ∀ j, Zb (aN fs k j) D (Nt r)
  n5 : n ≤ 5
  x9 : ∀ k, k < n → (x k).natAbs ≤ 9
/-- bounds of the coefficients -/
def ba (fs : List Fm) (D N k j : Nat) : Nat := if Fr fs k then (if k = j then D else 0) else N
theorem zb_a {fs : List Fm} {D N k j : Nat} (h : ¬ Fr fs k → Zb (aN fs k j) D N) : Zb (aN fs k j) D (ba fs D N k j) := by
  unfold ba
  by_cases f : Fr fs k
  · rw [if_pos f, f.a]
    by_cases e : k = j
    · rw [if_pos e, if_pos e.symm]
      exact ⟨(D : Int), by rw [Rat.one_mul]; rfl, by omega⟩
    · rw [if_neg e, if_neg (fun z => e z.symm)]
      exact zb_0
  · rw [if_neg f]
    exact h f
theorem zb_i {z : Int} {D M : Nat} (h : z.natAbs ≤ M) : Zb (z : Rat) D (M * D) := by
  refine ⟨z * (D : Int), ?_, ?_⟩
  · rw [Rat.intCast_mul]
    rfl
  · rw [Int.natAbs_mul]
    exact Nat.mul_le_mul h (Nat.le_of_eq (Int.natAbs_natCast D))
theorem zb_mi {r : Rat} {D N M : Nat} {z : Int} (h : Zb r D N) (hz : z.natAbs ≤ M) : Zb (r * (z : Rat)) D (N * M) := by
  have : Zb (z : Rat) 1 M := by
    have := zb_i (D := 1) hz
    rwa [Nat.mul_one] at this
  have q := zb_mul h this
  rwa [Nat.mul_one] at q
theorem cnt_le {n : Nat} {fs : List Fm} : cnt n fs ≤ n := by
  have := smN_le (n := n) (h := fun k => if Fr fs k then 0 else 1) (c := 1) fun k _ => (by split <;> omega)
  unfold cnt
  omega
theorem J.r5 {n : Nat} {x : Nat → Int} {r : Nat} {fs : List Fm} (j : J n x r fs) : r ≤ 5 := by
  have h1 := cnt_le (n := n) (fs := fs)
  have h2 := j.rk
  have h3 := j.n5
  omega
/-- the constants, by the solution -/
theorem zb_c {n : Nat} {x : Nat → Int} {fs : List Fm} {D N k : Nat} (pl : cN fs k + sm n (fun j => aN fs k j * (x j : Rat)) = (x k : Rat)) (n5 : n ≤ 5) (x9 : ∀ k, k < n → (x k).natAbs ≤ 9) (hk : k < n) (h : ∀ j, Zb (aN fs k j) D N) : Zb (cN fs k) D (9 * D + 45 * N) := by
  have e : cN fs k = (x k : Rat) - sm n (fun j => aN fs k j * (x j : Rat)) := by grind
  rw [e]
  have h1 := zb_sm (n := n) (g := fun j => aN fs k j * (x j : Rat)) (h := fun _ => N * 9) fun j hj => zb_mi (h j) (x9 j hj)
  have h2 := smN_le (n := n) (h := fun _ => N * 9) (c := N * 9) fun _ _ => Nat.le_refl _
  have h3 : n * (N * 9) ≤ 45 * N := by
    have := Nat.mul_le_mul_right (N * 9) n5
    omega
  exact (zb_sub (zb_i (x9 k hk)) h1).le (by omega)
theorem cf_rgE {size : Int} {ts : Tms} {u : Int} (h : ∀ t ∈ ts, 0 ≤ t.1 ∧ t.1 < size) (n : cf ts u ≠ 0) : 0 ≤ u ∧ u < size := by
  obtain ⟨t, ht, e⟩ := cf_ne n
  rw [← e]
  exact h t ht
/-- a form of integers over the unknowns -/
structure Ifm (n m : Nat) (d : Fm) : Prop where
  wf : Wf d.2
  rg : ∀ t ∈ d.2, 0 ≤ t.1 ∧ t.1 < (n : Int)
  c : ∃ z : Int, d.1 = (z : Rat) ∧ z.natAbs ≤ 200
  k : ∀ k, ∃ z : Int, dN d.2 k = (z : Rat) ∧ z.natAbs ≤ m
theorem dt_le (r : Nat) : 1 ≤ Dt r ∧ Dt r ≤ 74614316400 ∧ Nt r ≤ 596914531200 := by
  match r with
  | 0 => exact ⟨by decide, by decide, by decide⟩
  | 1 => exact ⟨by decide, by decide, by decide⟩
  | 2 => exact ⟨by decide, by decide, by decide⟩
  | 3 => exact ⟨by decide, by decide, by decide⟩
  | _ + 4 => exact ⟨by show 1 ≤ 74614316400; decide, Nat.le_refl _, Nat.le_refl _⟩
theorem lt_of_take {ts : Tms} {n : Nat} {i : Nat} (h : ∀ t ∈ ts, 0 ≤ t.1 ∧ t.1 < (n : Int)) : ∀ t ∈ ts.take i, 0 ≤ t.1 ∧ t.1 < (n : Int) := fun t ht => h t (List.mem_of_mem_take ht)
theorem nn_cast {k : Nat} : ((k : Int).toNat) = k := Int.toNat_natCast k
theorem at_nat {k : Int} (h : 0 ≤ k) : ((k.toNat : Nat) : Int) = k := Int.toNat_of_nonneg h
theorem fits_zb {r : Rat} {D M : Nat} (h : Zb r D M) (h0 : 1 ≤ D) (h1 : D ≤ 1000000000000000000) (h2 : M ≤ 1000000000000000000) : fitsQ r := (h.bd (by omega)).fits h2 h1
theorem ba_le {fs : List Fm} {D N k j : Nat} : ba fs D N k j ≤ D + N := by
  unfold ba
  split
  · split <;> omega
  · omega
/-- all of a reduction fits -/
theorem J.okR {n : Nat} {x : Nat → Int} {r : Nat} {fs : List Fm} {d : Fm} (j : J n x r fs) (i : Ifm n 4 d) : OkR fs d := by
  obtain ⟨D, d1, d2, ha⟩ := j.bd
  obtain ⟨_, q2, q3⟩ := dt_le r
  have hN : ∃ N, N = Nt r := ⟨_, rfl⟩
  obtain ⟨N, eN⟩ := hN
  rw [← eN] at ha q3
  have n5 := j.n5
  have za : ∀ k, k < n → ∀ l, Zb (aN fs k l) D (D + N) := fun k hk l => (zb_a (ha k hk · l)).le ba_le
  have zc : ∀ k, k < n → Zb (cN fs k) D (9 * D + 45 * (D + N)) := fun k hk => zb_c (j.pl k hk) n5 j.x9 hk (za k hk)
  have ze : ∀ (ii k : Nat), ∃ z : Int, dN (d.2.take ii) k = (z : Rat) ∧ z.natAbs ≤ 4 := fun ii k => by
    rcases dN_take i.wf.asc ii k with e | e
    · exact ⟨0, e, by decide⟩
    · rw [e]
      exact i.k k
  intro ii t ht
  have rt := i.rg t (List.mem_of_getElem? ht)
  have hk : t.1.toNat < n := by omega
  have et2 : ∃ z : Int, t.2 = (z : Rat) ∧ z.natAbs ≤ 4 := by
    obtain ⟨z, h1, h2⟩ := i.k t.1.toNat
    unfold dN at h1
    rw [at_nat rt.1, cf_mem i.wf.asc (List.mem_of_getElem? ht)] at h1
    exact ⟨z, h1, h2⟩
  obtain ⟨z, e2, hz⟩ := et2
  refine ⟨⟨?_, fun u => ?_⟩, ?_, fun u => ?_⟩
  · have h := zc t.1.toNat hk
    unfold cN at h
    rw [at_nat rt.1] at h
    rw [e2]
    exact fits_zb (zb_mi h hz) d1 (by omega) (by omega)
  · rcases cf_in (ts := (atF fs t.1).2) u with e | e
    · rw [e, Rat.zero_mul]
      exact fits0
    · have hr := j.rg t.1.toNat hk
      rw [at_nat rt.1] at hr
      have hu := hr _ e
      have h := za t.1.toNat hk u.toNat
      unfold aN at h
      rw [at_nat rt.1, at_nat hu.1] at h
      rw [e2]
      exact fits_zb (zb_mi h hz) d1 (by omega) (by omega)
  · rw [sumC_sm fs (n := n) (i.wf.asc.sublist (List.take_sublist _ _)) (lt_of_take i.rg)]
    obtain ⟨zc0, ec, hc⟩ := i.c
    have h1 := zb_sm (n := n) (D := D) (g := fun k => cN fs k * dN (d.2.take (ii + 1)) k) (h := fun _ => (9 * D + 45 * (D + N)) * 4) fun k hk => by
      obtain ⟨z, e, hz⟩ := ze (ii + 1) k
      rw [e]
      exact zb_mi (zc k hk) hz
    have h2 := smN_le (n := n) (h := fun _ => (9 * D + 45 * (D + N)) * 4) (c := (9 * D + 45 * (D + N)) * 4) fun _ _ => Nat.le_refl _
    have h3 : n * ((9 * D + 45 * (D + N)) * 4) ≤ 5 * ((9 * D + 45 * (D + N)) * 4) := Nat.mul_le_mul_right _ n5
    rw [ec]
    exact fits_zb (zb_add (zb_i hc) h1) d1 (by omega) (by omega)
  · by_cases hu : 0 ≤ u
    · have hs := sumR_sm fs (n := n) (j := u.toNat) (r := z0) (i.wf.asc.sublist (List.take_sublist (ii + 1) _)) (lt_of_take i.rg)
      rw [at_nat hu] at hs
      rw [hs]
      have h1 := zb_sm (n := n) (D := D) (g := fun k => aN fs k u.toNat * dN (d.2.take (ii + 1)) k) (h := fun _ => (D + N) * 4) fun k hk => by
        obtain ⟨z, e, hz⟩ := ze (ii + 1) k
        rw [e]
        exact zb_mi (za k hk _) hz
      have h2 := smN_le (n := n) (h := fun _ => (D + N) * 4) (c := (D + N) * 4) fun _ _ => Nat.le_refl _
      have h3 : n * ((D + N) * 4) ≤ 5 * ((D + N) * 4) := Nat.mul_le_mul_right _ n5
      have h4 := zb_add (zb_0 (D := D)) h1
      exact fits_zb h4 d1 (by omega) (by omega)
    · -- no unknown below 0
      have : ∀ (ts : Tms) (r : Int → Rat), (∀ t ∈ ts, 0 ≤ t.1 ∧ t.1 < (n : Int)) → r u = 0 → sumR fs ts r u = 0 := by
        intro ts
        induction ts with
        | nil => intro r _ h; exact h
        | cons s ts ih =>
          intro r h h0
          refine ih _ (fun t ht => h t (.tail _ ht)) ?_
          have hs := h s (.head _)
          have hr := j.rg s.1.toNat (by omega)
          rw [at_nat hs.1] at hr
          show r u + cf (atF fs s.1).2 u * s.2 = 0
          rw [h0, cf_none fun t ht e => by have := hr t ht; omega, Rat.zero_mul]
          exact Rat.add_zero 0
      rw [this _ z0 (lt_of_take i.rg) rfl]
      exact fits0
/-- a reduced form by sums -/
structure Red (n : Nat) (fs : List Fm) (d F : Fm) : Prop where
  wf : Wf F.2
  c : F.1 = d.1 + sm n fun k => cN fs k * dN d.2 k
  k : ∀ j : Nat, dN F.2 j = sm n fun k => aN fs k j * dN d.2 k
  rg : ∀ t ∈ F.2, 0 ≤ t.1 ∧ t.1 < (n : Int)
theorem J.neg {n : Nat} {x : Nat → Int} {r : Nat} {fs : List Fm} (j : J n x r fs) {k : Nat} (hk : k < n) {u : Int} (h : cf (atF fs (k : Int)).2 u ≠ 0) : 0 ≤ u ∧ u < (n : Int) := cf_rgE (j.rg k hk) h
theorem J.red {n m : Nat} {x : Nat → Int} {r : Nat} {fs : List Fm} {d F : Fm} (j : J n x r fs) (i : Ifm n m d) (wF : Wf F.2) (h1 : F.1 = sumC fs d.2 d.1) (h2 : ∀ u, cf F.2 u = sumR fs d.2 z0 u) : Red n fs d F := by
  have key : ∀ u : Int, sumR fs d.2 z0 u ≠ 0 → 0 ≤ u ∧ u < (n : Int) := by
    intro u
    have : ∀ (ts : Tms) (r : Int → Rat), (∀ t ∈ ts, 0 ≤ t.1 ∧ t.1 < (n : Int)) → (r u ≠ 0 → 0 ≤ u ∧ u < (n : Int)) → sumR fs ts r u ≠ 0 → 0 ≤ u ∧ u < (n : Int) := by
      intro ts
      induction ts with
      | nil => intro r _ h h'; exact h h'
      | cons s ts ih =>
        intro r h h0 h'
        refine ih _ (fun t ht => h t (.tail _ ht)) (fun hz => ?_) h'
        have hs := h s (.head _)
        by_cases z : r u = 0
        · have : cf (atF fs s.1).2 u ≠ 0 := fun z2 => hz (by show r u + cf _ u * s.2 = 0; rw [z, z2, Rat.zero_mul]; exact Rat.add_zero 0)
          have hr := j.rg s.1.toNat (by omega)
          rw [at_nat hs.1] at hr
          exact cf_rgE hr this
        · exact h0 z
    exact this d.2 z0 i.rg (fun h => absurd rfl h)
  refine ⟨wF, by rw [h1, sumC_sm fs i.wf.asc i.rg], fun l => ?_, fun t ht => key t.1 ?_⟩
  · show cf F.2 l = _
    rw [h2, sumR_sm fs i.wf.asc i.rg]
    exact Rat.zero_add _
  · rw [← h2, cf_mem wF.asc ht]
    exact wF.nz t ht
/-- the value of a reduced form at the solution -/
theorem J.val {n : Nat} {x : Nat → Int} {r : Nat} {fs : List Fm} {d F : Fm} (j : J n x r fs) (R : Red n fs d F) : F.1 + sm n (fun l => dN F.2 l * (x l : Rat)) = d.1 + sm n fun k => dN d.2 k * (x k : Rat) := by
  have e1 : sm n (fun l => dN F.2 l * (x l : Rat)) = sm n fun k => dN d.2 k * sm n fun l => aN fs k l * (x l : Rat) := by
    rw [sm_congr (h := fun l => sm n fun k => aN fs k l * dN d.2 k * (x l : Rat)) fun l _ => by rw [R.k, sm_mul], sm_swap]
    refine sm_congr fun k _ => ?_
    rw [Rat.mul_comm, ← sm_mul]
    exact sm_congr fun l _ => by grind
  rw [R.c, e1, Rat.add_assoc, ← sm_add]
  congr 1
  refine sm_congr fun k hk => ?_
  have := j.pl k hk
  grind
/-- only free unknowns are in a reduced form -/
theorem J.free {n : Nat} {x : Nat → Int} {r : Nat} {fs : List Fm} {d F : Fm} (j : J n x r fs) (R : Red n fs d F) {l : Nat} (h : dN F.2 l ≠ 0) : Fr fs l := by
  rw [R.k] at h
  refine Decidable.byContradiction fun nf => h (sm_zero fun k hk => ?_)
  rcases j.fr k hk with f | s
  · rw [f.a, if_neg (fun (e : l = k) => nf (by rw [e]; exact f)), Rat.zero_mul]
  · by_cases z : aN fs k l = 0
    · rw [z, Rat.zero_mul]
    · exact absurd (s l z).2 nf
/-- an equation that holds says 0 = 0 where no unknown is left -/
theorem J.end0 {n : Nat} {x : Nat → Int} {r : Nat} {fs : List Fm} {d F : Fm} (j : J n x r fs) (R : Red n fs d F) (h : d.1 + sm n (fun k => dN d.2 k * (x k : Rat)) = 0) (e : F.2 = []) : F.1 = 0 := by
  have := j.val R
  rw [h, e, sm_zero fun l _ => by show (0 : Rat) * _ = 0; rw [Rat.zero_mul], Rat.add_zero] at this
  exact this
/-- an equation that the state keeps already -/
def Zr (n : Nat) (fs : List Fm) (d : Fm) : Prop := d.1 + sm n (fun k => cN fs k * dN d.2 k) = 0 ∧ ∀ l : Nat, sm n (fun k => aN fs k l * dN d.2 k) = 0
theorem Red.zr {n : Nat} {fs : List Fm} {d F : Fm} (R : Red n fs d F) (z : Zr n fs d) : F.2 = [] ∧ F.1 = 0 := by
  refine ⟨?_, by rw [R.c]; exact z.1⟩
  cases h : F.2 with
  | nil => rfl
  | cons t r =>
    have ht : t ∈ F.2 := by rw [h]; exact .head _
    have h0 := R.rg t ht
    have h1 := R.k t.1.toNat
    rw [z.2] at h1
    unfold dN at h1
    rw [at_nat h0.1, cf_mem R.wf.asc ht] at h1
    exact absurd h1 (R.wf.nz t ht)
theorem Red.of_zr {n : Nat} {fs : List Fm} {d F : Fm} (R : Red n fs d F) (h : F.2 = []) (h1 : F.1 = 0) : Zr n fs d := by
  refine ⟨by rw [← R.c]; exact h1, fun l => ?_⟩
  rw [← R.k, h]
  rfl
/-! ### a step -/
theorem smN_delta_eq {u c : Nat} : ∀ {n : Nat}, u < n → smN n (fun k => if k = u then c else 0) = c
  | n + 1, h => by
    show smN n (fun k => if k = u then c else 0) + (if n = u then c else 0) = c
    rcases Nat.lt_or_ge u n with l | l
    · rw [smN_delta_eq l, if_neg (by omega)]
      omega
    · have : ∀ m, m ≤ u → smN m (fun k => if k = u then c else 0) = 0 := by
        intro m
        induction m with
        | zero => intro _; rfl
        | succ m ih =>
          intro h
          show smN m _ + (if m = u then c else 0) = 0
          rw [ih (by omega), if_neg (by omega)]
      rw [this n (by omega), if_pos (by omega)]
      omega
theorem smN_congr {g h : Nat → Nat} : ∀ {n : Nat}, (∀ k, k < n → g k = h k) → smN n g = smN n h
  | 0, _ => rfl
  | n + 1, e => by
    show smN n g + g n = smN n h + h n
    rw [smN_congr fun k hk => e k (by omega), e n (by omega)]
/-- coefficients of a reduced form -/
theorem J.zbF {n : Nat} {x : Nat → Int} {r : Nat} {fs : List Fm} {d F : Fm} {D : Nat} (j : J n x r fs) (i : Ifm n 3 d) (R : Red n fs d F) (ha : ∀ k, k < n → ¬ Fr fs k → ∀ j, Zb (aN fs k j) D (Nt r)) (l : Nat) : Zb (dN F.2 l) D (3 * (D + Nt r * r)) := by
  rw [R.k]
  have h1 := zb_sm (n := n) (D := D) (g := fun k => aN fs k l * dN d.2 k) (h := fun k => ba fs D (Nt r) k l * 3) fun k hk => by
    obtain ⟨z, e, hz⟩ := i.k k
    rw [e]
    exact zb_mi (zb_a fun f => ha k hk f l) hz
  refine h1.le ?_
  have h2 : smN n (fun k => ba fs D (Nt r) k l * 3) ≤ smN n fun k => 3 * (if k = l then D else 0) + 3 * (Nt r * if Fr fs k then 0 else 1) := smN_mono fun k _ => by
    unfold ba
    by_cases f : Fr fs k
    · rw [if_pos f, if_pos f]
      omega
    · rw [if_neg f, if_neg f]
      omega
  rw [smN_add, smN_mul, smN_mul, smN_mul] at h2
  have h3 := smN_delta (u := l) (c := D) (n := n)
  have h4 : smN n (fun k => if Fr fs k then 0 else 1) = r := j.rk
  rw [h4] at h2
  omega
theorem zb_w {q : Rat} {D : Nat} {m : Int} (e : q * (D : Rat) = (m : Rat)) (h : q ≠ 0) {y : Rat} {Y : Nat} (hy : Zb y D Y) : Zb (y * (((-1 : Int) : Rat) / q)) m.natAbs Y := by
  obtain ⟨k, ek, hk⟩ := hy
  have e2 : (y * (((-1 : Int) : Rat) / q)) * (m : Rat) = -(k : Rat) := by
    rw [← e, ← ek, Rat.intCast_neg, Rat.intCast_one]
    have : (-1 : Rat) / q * q = -1 := by rw [Rat.div_mul_cancel h]
    grind
  rcases Int.lt_or_le m 0 with hm | hm
  · refine ⟨k, ?_, hk⟩
    have : ((m.natAbs : Nat) : Rat) = -(m : Rat) := by
      rw [← Rat.intCast_natCast, ← Rat.intCast_neg]
      congr 1
      omega
    rw [this]
    grind
  · refine ⟨-k, ?_, by rw [Int.natAbs_neg]; exact hk⟩
    have : ((m.natAbs : Nat) : Rat) = (m : Rat) := by
      rw [← Rat.intCast_natCast]
      congr 1
      omega
    rw [this, e2, Rat.intCast_neg]
theorem zb_d {D : Nat} : Zb 1 D D := ⟨(D : Int), by rw [Rat.one_mul]; rfl, by omega⟩
theorem zb_upc {a : Rat} {N M c : Nat} (h : Zb a N M) : Zb a (c * N) (c * M) := by
  have := zb_up c h
  rwa [Nat.mul_comm N c, Nat.mul_comm M c] at this
/-- what is solved for -/
structure Rest (n : Nat) (F : Fm) (u' : Nat) (q : Rat) (g : Fm) : Prop where
  wf : Wf g.2
  c : g.1 = F.1 * (((-1 : Int) : Rat) / q)
  k : ∀ l : Nat, dN g.2 l = (if l = u' then 0 else dN F.2 l) * (((-1 : Int) : Rat) / q)
  rg : ∀ t ∈ g.2, 0 ≤ t.1 ∧ t.1 < (n : Int)
  q0 : q ≠ 0
  un : u' < n
  qu : dN F.2 u' = q
  top : ∀ l : Nat, dN F.2 l ≠ 0 → l ≤ u'
theorem rest_of {n : Nat} {fs : List Fm} {d F g : Fm} {init : Tms} {u : Int} {q : Rat} (R : Red n fs d F) (e : F.2 = init ++ [(u, q)]) (wg : Wf g.2) (g1 : g.1 = F.1 * (((-1 : Int) : Rat) / q)) (g2 : ∀ x, cf g.2 x = cf init x * (((-1 : Int) : Rat) / q)) : 0 ≤ u ∧ Rest n F u.toNat q g := by
  have wF := R.wf
  rw [e] at wF
  obtain ⟨w1, w2, w3⟩ := wf_init wF
  have hu := R.rg (u, q) (by rw [e]; exact List.mem_append.mpr (.inr (List.mem_singleton.mpr rfl)))
  have h0 : 0 ≤ u := hu.1
  have h1 : u < (n : Int) := hu.2
  refine ⟨h0, wg, g1, fun l => ?_, fun t ht => ?_, w3, by omega, ?_, fun l hl => ?_⟩
  · show cf g.2 l = (if l = u.toNat then 0 else cf F.2 l) * _
    rw [g2, cf_init wF, e]
    congr 1
    by_cases c : (l : Int) = u
    · rw [if_pos c, if_pos (by omega)]
    · rw [if_neg c, if_neg (by omega)]
  · have h := cf_mem wg.asc ht
    rw [g2] at h
    obtain ⟨y, hy, ey⟩ := cf_ne (ts := init) (u := t.1) fun z => wg.nz t ht (by rw [← h, z, Rat.zero_mul])
    rw [← ey]
    exact R.rg y (by rw [e]; exact List.mem_append.mpr (.inl hy))
  · unfold dN
    rw [at_nat h0, e]
    exact cf_mem wF.asc (t := (u, q)) (List.mem_append.mpr (.inr (List.mem_singleton.mpr rfl)))
  · obtain ⟨y, hy, ey⟩ := cf_ne hl
    rw [e] at hy
    rcases List.mem_append.mp hy with h | h
    · have := w2 y h
      have : y.1 < u := this
      omega
    · rw [List.mem_singleton.mp h] at ey
      have : u = (l : Int) := ey
      omega
section
variable {n : Nat} {x : Nat → Int} {r : Nat} {fs fs' : List Fm} {d F g : Fm} {u' : Nat} {q : Rat}
theorem Rest.qw (G : Rest n F u' q g) : q * (((-1 : Int) : Rat) / q) = -1 := by
  have := Rat.div_mul_cancel (a := ((-1 : Int) : Rat)) G.q0
  rw [Rat.mul_comm, this]
  rfl
/-- the solution keeps what is solved for -/
theorem Rest.pl (j : J n x r fs) (R : Red n fs d F) (G : Rest n F u' q g) (h : d.1 + sm n (fun k => dN d.2 k * (x k : Rat)) = 0) : g.1 + sm n (fun l => dN g.2 l * (x l : Rat)) = (x u' : Rat) := by
  have v := j.val R
  rw [h] at v
  have e1 : sm n (fun l => dN F.2 l * (x l : Rat) * (((-1 : Int) : Rat) / q)) = sm n (fun l => dN g.2 l * (x l : Rat)) + sm n fun l => if l = u' then -(x u' : Rat) else 0 := by
    rw [← sm_add]
    refine sm_congr fun l _ => ?_
    rw [G.k]
    by_cases e : l = u'
    · rw [if_pos e, if_pos e, e, G.qu]
      have := G.qw
      grind
    · rw [if_neg e, if_neg e]
      grind
  rw [sm_delta (g := fun l => if l = u' then -(x u' : Rat) else 0) (u := u') (fun l _ hl => by rw [if_neg hl]) G.un, if_pos rfl, sm_mul] at e1
  rw [G.c]
  grind
theorem next_at (j : J n x r fs) (N : NextF fs g (u' : Int) fs') {k : Nat} (hk : k < n) : ((k = u') → atF fs' (k : Int) = g) ∧ (k ≠ u' → Wf (atF fs' (k : Int)).2 ∧ (atF fs' (k : Int)).1 = (atF fs (k : Int)).1 + g.1 * cf (atF fs (k : Int)).2 (u' : Int) ∧
    ∀ y, cf (atF fs' (k : Int)).2 y = (if y = (u' : Int) then 0 else cf (atF fs (k : Int)).2 y) + cf g.2 y * cf (atF fs (k : Int)).2 (u' : Int)) := by
  have h1 := atF_get (fs := fs) (k := (k : Int)) (by omega) (by rw [j.len]; omega)
  have h2 := atF_get (fs := fs') (k := (k : Int)) (by omega) (by rw [N.1, j.len]; omega)
  rw [nn_cast] at h1 h2
  have := N.2 k _ _ h1 h2
  exact ⟨fun e => this.1 (by omega), fun e => this.2 (by omega)⟩
theorem next_c (j : J n x r fs) (N : NextF fs g (u' : Int) fs') (f : Fr fs u') {k : Nat} (hk : k < n) : cN fs' k = cN fs k + g.1 * aN fs k u' := by
  obtain ⟨h1, h2⟩ := next_at j N hk
  by_cases e : k = u'
  · subst e
    rw [f.c, f.a, if_pos rfl, Rat.mul_one, Rat.zero_add]
    unfold cN
    rw [h1 rfl]
  · exact (h2 e).2.1
theorem next_a (j : J n x r fs) (N : NextF fs g (u' : Int) fs') (f : Fr fs u') {k : Nat} (hk : k < n) (l : Nat) : aN fs' k l = (if l = u' then 0 else aN fs k l) + dN g.2 l * aN fs k u' := by
  obtain ⟨h1, h2⟩ := next_at j N hk
  by_cases e : k = u'
  · subst e
    rw [f.a, f.a, if_pos rfl, Rat.mul_one]
    unfold aN
    rw [h1 rfl]
    have : (if l = k then 0 else if l = k then (1 : Rat) else 0) = 0 := by
      split <;> rfl
    rw [this, Rat.zero_add]
    rfl
  · have := (h2 e).2.2 (l : Int)
    unfold aN dN
    rw [this]
    congr 1
    by_cases c : l = u'
    · rw [if_pos c, if_pos (by omega)]
    · rw [if_neg c, if_neg (by omega)]
theorem next_fr (j : J n x r fs) (N : NextF fs g (u' : Int) fs') {k : Nat} (hk : k < n) (e : k ≠ u') (f : Fr fs k) : Fr fs' k := by
  obtain ⟨_, h2⟩ := next_at j N hk
  obtain ⟨w, c, a⟩ := h2 e
  have a0 : cf (atF fs (k : Int)).2 (u' : Int) = 0 := by
    have := f.a u'
    unfold aN at this
    rw [this, if_neg (fun z => e z.symm)]
  have : atF fs' (k : Int) = atF fs (k : Int) := by
    refine Prod.ext ?_ (wf_ext w (j.wf k hk) fun y => ?_)
    · rw [c, a0, Rat.mul_zero, Rat.add_zero]
    · rw [a, a0, Rat.mul_zero, Rat.add_zero]
      split
      · rename_i e
        rw [e, a0]
      · rfl
  unfold Fr
  rw [this]
  exact f
/-- the sums of an equation behind the step -/
theorem next_sumC (j : J n x r fs) (N : NextF fs g (u' : Int) fs') (f : Fr fs u') (e : Nat → Rat) : sm n (fun k => cN fs' k * e k) = sm n (fun k => cN fs k * e k) + g.1 * sm n fun k => aN fs k u' * e k := by
  rw [Rat.mul_comm, ← sm_mul, ← sm_add]
  refine sm_congr fun k hk => ?_
  rw [next_c j N f hk]
  grind
theorem next_sumA (j : J n x r fs) (N : NextF fs g (u' : Int) fs') (f : Fr fs u') (e : Nat → Rat) (l : Nat) : sm n (fun k => aN fs' k l * e k) = (if l = u' then 0 else sm n fun k => aN fs k l * e k) + dN g.2 l * sm n fun k => aN fs k u' * e k := by
  have e1 : (if l = u' then 0 else sm n fun k => aN fs k l * e k) = sm n fun k => (if l = u' then 0 else aN fs k l) * e k := by
    split
    · exact (sm_zero fun k _ => Rat.zero_mul _).symm
    · rfl
  rw [e1, Rat.mul_comm, ← sm_mul, ← sm_add]
  refine sm_congr fun k hk => ?_
  rw [next_a j N f hk]
  grind
theorem next_zr (j : J n x r fs) (N : NextF fs g (u' : Int) fs') (f : Fr fs u') {d0 : Fm} (z : Zr n fs d0) : Zr n fs' d0 := by
  refine ⟨?_, fun l => ?_⟩
  · rw [next_sumC j N f, z.2, Rat.mul_zero, Rat.add_zero]
    exact z.1
  · rw [next_sumA j N f, z.2 u', Rat.mul_zero, Rat.add_zero, z.2]
    split <;> rfl
theorem next_own (j : J n x r fs) (R : Red n fs d F) (G : Rest n F u' q g) (N : NextF fs g (u' : Int) fs') (f : Fr fs u') : Zr n fs' d := by
  have hq := R.k u'
  rw [G.qu] at hq
  refine ⟨?_, fun l => ?_⟩
  · rw [next_sumC j N f, ← hq, ← Rat.add_assoc, ← R.c, G.c]
    have := G.qw
    grind
  · rw [next_sumA j N f, ← hq, ← R.k, G.k]
    have := G.qw
    by_cases e : l = u'
    · simp only [if_pos e]
      grind
    · simp only [if_neg e]
      grind
theorem next_pl (j : J n x r fs) (N : NextF fs g (u' : Int) fs') (f : Fr fs u') (hu : u' < n) (pg : g.1 + sm n (fun l => dN g.2 l * (x l : Rat)) = (x u' : Rat)) {k : Nat} (hk : k < n) : cN fs' k + sm n (fun l => aN fs' k l * (x l : Rat)) = (x k : Rat) := by
  have e1 : sm n (fun l => aN fs' k l * (x l : Rat)) = sm n (fun l => aN fs k l * (x l : Rat)) + sm n (fun l => if l = u' then -(aN fs k u' * (x u' : Rat)) else 0) + sm n fun l => dN g.2 l * (x l : Rat) * aN fs k u' := by
    rw [← sm_add, ← sm_add]
    refine sm_congr fun l _ => ?_
    rw [next_a j N f hk]
    by_cases e : l = u'
    · rw [if_pos e, if_pos e, e]
      grind
    · rw [if_neg e, if_neg e]
      grind
  rw [e1, sm_delta (g := fun l => if l = u' then -(aN fs k u' * (x u' : Rat)) else 0) (u := u') (fun l _ hl => by rw [if_neg hl]) hu, if_pos rfl, sm_mul, next_c j N f hk]
  have := j.pl k hk
  grind
end
section
variable {n : Nat} {x : Nat → Int} {r : Nat} {fs fs' : List Fm} {d F g : Fm} {u' : Nat} {q : Rat}
/-- two free unknowns: the table's first rows -/
theorem J.two (j : J n x r fs) {a b : Nat} (ha : a < n) (hb : b < n) (ne : a ≠ b) (fa : Fr fs a) (fb : Fr fs b) : r ≤ 3 := by
  have h : smN n (fun k => ((if Fr fs k then 0 else 1) + if k = a then 1 else 0) + if k = b then 1 else 0) ≤ n * 1 := smN_le fun k _ => by
    by_cases e1 : k = a
    · rw [if_pos (by rw [e1]; exact fa), if_pos e1, if_neg (by omega)]
      omega
    · by_cases e2 : k = b
      · rw [if_pos (by rw [e2]; exact fb), if_neg e1, if_pos e2]
        omega
      · rw [if_neg e1, if_neg e2]
        split <;> omega
  rw [smN_add, smN_add, smN_delta_eq ha, smN_delta_eq hb] at h
  have h4 : smN n (fun k => if Fr fs k then 0 else 1) = r := j.rk
  have := j.n5
  omega
theorem dt_mono (r : Nat) : Dt r ≤ Dt (r + 1) ∧ Nt r ≤ Nt (r + 1) := by
  match r with
  | 0 => exact ⟨by decide, by decide⟩
  | 1 => exact ⟨by decide, by decide⟩
  | 2 => exact ⟨by decide, by decide⟩
  | 3 => exact ⟨by decide, by decide⟩
  | _ + 4 => exact ⟨Nat.le_refl _, Nat.le_refl _⟩
def Pt (r : Nat) : Nat := 3 * (Dt r + Nt r * r)
theorem dt_step {r : Nat} (h : r ≤ 3) : Pt r * Dt r ≤ Dt (r + 1) ∧ Nt r * Pt r + Pt r * Nt r ≤ Nt (r + 1) ∧ Dt r * Pt r ≤ Nt (r + 1) ∧ (9 * Pt r + 45 * Pt r) * Nt r + Pt r * (9 * Dt r + 45 * Nt r) ≤ 1000000000000000000 ∧ Nt r * Pt r + Pt r * Nt r ≤ 1000000000000000000 ∧ Pt r * Dt r ≤ 1000000000000000000 := by
  rcases (by omega : r = 0 ∨ r = 1 ∨ r = 2 ∨ r = 3) with rfl | rfl | rfl | rfl <;> decide
theorem pt_le {r : Nat} (h : r ≤ 5) : Pt r ≤ 20000000000000 := by
  rcases (by omega : r = 0 ∨ r = 1 ∨ r = 2 ∨ r = 3 ∨ r = 4 ∨ r = 5) with rfl | rfl | rfl | rfl | rfl | rfl <;> decide
/-- the reduced form's constant -/
theorem J.zbC {D : Nat} (j : J n x r fs) (i : Ifm n 3 d) (R : Red n fs d F) (ha : ∀ k, k < n → ¬ Fr fs k → ∀ l, Zb (aN fs k l) D (Nt r)) : Zb F.1 D (200 * D + 15 * (9 * D + 45 * (D + Nt r))) := by
  have n5 := j.n5
  have zc : ∀ k, k < n → Zb (cN fs k) D (9 * D + 45 * (D + Nt r)) := fun k hk => zb_c (j.pl k hk) n5 j.x9 hk fun l => (zb_a (ha k hk · l)).le ba_le
  rw [R.c]
  obtain ⟨z0, ec, hc⟩ := i.c
  have h1 := zb_sm (n := n) (D := D) (g := fun k => cN fs k * dN d.2 k) (h := fun _ => (9 * D + 45 * (D + Nt r)) * 3) fun k hk => by
    obtain ⟨z, e, hz⟩ := i.k k
    rw [e]
    exact zb_mi (zc k hk) hz
  have h2 := smN_le (n := n) (h := fun _ => (9 * D + 45 * (D + Nt r)) * 3) (c := (9 * D + 45 * (D + Nt r)) * 3) fun _ _ => Nat.le_refl _
  have h3 : n * ((9 * D + 45 * (D + Nt r)) * 3) ≤ 5 * ((9 * D + 45 * (D + Nt r)) * 3) := Nat.mul_le_mul_right _ n5
  rw [ec]
  exact (zb_add (zb_i hc) h1).le (by omega)
/-- the pivot -/
theorem J.piv {D : Nat} (j : J n x r fs) (i : Ifm n 3 d) (R : Red n fs d F) (ha : ∀ k, k < n → ¬ Fr fs k → ∀ l, Zb (aN fs k l) D (Nt r)) (d1 : 1 ≤ D) (d2 : D ≤ Dt r) (hq : dN F.2 u' = q) (q0 : q ≠ 0) :
    ∃ m : Int, q * (D : Rat) = (m : Rat) ∧ 1 ≤ m.natAbs ∧ m.natAbs ≤ Pt r := by
  have z := j.zbF i R ha u'
  rw [hq] at z
  obtain ⟨m, e, hm⟩ := z
  refine ⟨m, e, ?_, Nat.le_trans hm ?_⟩
  · rcases Nat.eq_zero_or_pos m.natAbs with z | z
    · exfalso
      have m0 : m = 0 := Int.natAbs_eq_zero.mp z
      rw [m0] at e
      have d0 : (D : Rat) ≠ 0 := fun z => by
        have : (D : Nat) = 0 := by exact_mod_cast z
        omega
      rcases Rat.mul_eq_zero.mp e with h | h
      · exact q0 h
      · exact d0 h
    · exact z
  · unfold Pt
    omega
theorem step_d {init : Tms} {u : Int} (j : J n x r fs) (i : Ifm n 3 d) (R : Red n fs d F) (e : F.2 = init ++ [(u, q)]) : OkD F init q := by
  obtain ⟨D, d1, d2, ha⟩ := j.bd
  obtain ⟨q1, q2, q3⟩ := dt_le r
  have wF := R.wf
  rw [e] at wF
  obtain ⟨w1, w2, w3⟩ := wf_init wF
  have w3 : q ≠ 0 := w3
  have hu := R.rg (u, q) (by rw [e]; exact List.mem_append.mpr (.inr (List.mem_singleton.mpr rfl)))
  have h0 : 0 ≤ u := hu.1
  have hq : dN F.2 u.toNat = q := by
    unfold dN
    rw [at_nat h0, e]
    exact cf_mem wF.asc (t := (u, q)) (List.mem_append.mpr (.inr (List.mem_singleton.mpr rfl)))
  obtain ⟨m, em, m1, m2⟩ := j.piv i R ha d1 d2 hq w3
  have pm := pt_le j.r5
  refine ⟨?_, fits_zb (zb_w em w3 (j.zbC i R ha)) m1 (by omega) (by omega), fun y => ?_⟩
  · have := zb_w em w3 (y := 1) (zb_d (D := D))
    rw [Rat.one_mul] at this
    exact fits_zb this m1 (by omega) (by omega)
  · by_cases hy : 0 ≤ y
    · have z := j.zbF i R ha y.toNat
      unfold dN at z
      rw [at_nat hy] at z
      have z2 : Zb (cf init y) D (3 * (D + Nt r * r)) := by
        rw [cf_init wF]
        split
        · exact zb_0.le (Nat.zero_le _)
        · rw [← e]; exact z
      refine fits_zb (zb_w em w3 z2) m1 (by omega) ?_
      have : 3 * (D + Nt r * r) ≤ Pt r := by unfold Pt; omega
      omega
    · rw [cf_none (ts := init) fun t ht ez => by
        have := R.rg t (by rw [e]; exact List.mem_append.mpr (.inl ht))
        omega, Rat.zero_mul]
      exact fits0
/-- all of the replacements fit; what holds goes on -/
theorem step_w (j : J n x r fs) (i : Ifm n 3 d) (R : Red n fs d F) (G : Rest n F u' q g) (hold : d.1 + sm n (fun k => dN d.2 k * (x k : Rat)) = 0) : OkW fs g (u' : Int) ∧ ∀ fs', NextF fs g (u' : Int) fs' → J n x (r + 1) fs' ∧ Zr n fs' d ∧ ∀ d0, Zr n fs d0 → Zr n fs' d0 := by
  obtain ⟨D, d1, d2, ha⟩ := j.bd
  obtain ⟨q1, q2, q3⟩ := dt_le r
  have n5 := j.n5
  have pm := pt_le j.r5
  have fu : Fr fs u' := j.free R (by rw [G.qu]; exact G.q0)
  obtain ⟨m, em, m1, m2⟩ := j.piv i R ha d1 d2 G.qu G.q0
  have pg := G.pl j R hold
  -- coefficients of what is solved for
  have zg : ∀ l, Zb (dN g.2 l) m.natAbs (Pt r) := fun l => by
    rw [G.k]
    refine zb_w em G.q0 ?_
    split
    · exact zb_0.le (Nat.zero_le _)
    · exact (j.zbF i R ha l).le (by unfold Pt; omega)
  have gneg : ∀ y : Int, ¬ 0 ≤ y → cf g.2 y = 0 := fun y hy => cf_none fun t ht e => by have := G.rg t ht; omega
  have fneg : ∀ k, k < n → ∀ y : Int, ¬ 0 ≤ y → cf (atF fs (k : Int)).2 y = 0 := fun k hk y hy => cf_none fun t ht e => by have := j.rg k hk t ht; omega
  have zca : ∀ k, k < n → ¬ Fr fs k → Zb (cN fs k) D (9 * D + 45 * Nt r) := fun k hk nf => zb_c (j.pl k hk) n5 j.x9 hk (ha k hk nf)
  -- no other free unknown, or few are solved
  have two : (∀ l, dN g.2 l = 0) ∨ r ≤ 3 := by
    by_cases h : ∀ l, dN g.2 l = 0
    · exact .inl h
    · right
      obtain ⟨l, hl⟩ := Classical.not_forall.mp h
      have k1 : l ≠ u' := fun z => hl (by rw [G.k, if_pos z, Rat.zero_mul])
      have k2 : dN F.2 l ≠ 0 := fun z => hl (by rw [G.k, if_neg k1, z, Rat.zero_mul])
      have k3 := G.top l k2
      exact j.two G.un (by have := G.un; omega) (fun z => k1 z.symm) fu (j.free R k2)
  have g1u : (∀ l, dN g.2 l = 0) → g.1 = (x u' : Rat) := fun h => by
    rw [sm_zero fun l _ => by rw [h l, Rat.zero_mul], Rat.add_zero] at pg
    exact pg
  have x9 := j.x9 u' G.un
  have zg1 : Zb g.1 m.natAbs (9 * m.natAbs + 45 * Pt r) := by
    have e : g.1 = (x u' : Rat) - sm n (fun l => dN g.2 l * (x l : Rat)) := by grind
    rw [e]
    have h1 := zb_sm (n := n) (g := fun l => dN g.2 l * (x l : Rat)) (h := fun _ => Pt r * 9) fun l hl => zb_mi (zg l) (j.x9 l hl)
    have h2 := smN_le (n := n) (h := fun _ => Pt r * 9) (c := Pt r * 9) fun _ _ => Nat.le_refl _
    have h3 : n * (Pt r * 9) ≤ 45 * Pt r := by
      have := Nat.mul_le_mul_right (Pt r * 9) n5
      omega
    exact (zb_sub (zb_i x9) h1).le (by omega)
  have okw : OkW fs g (u' : Int) := by
    intro k f hf ne ca
    have hk : k < n := by
      have := (List.getElem?_eq_some_iff.mp hf).1
      rw [j.len] at this
      exact this
    have ef : atF fs (k : Int) = f := by
      unfold atF
      rw [nn_cast, hf]
      rfl
    subst ef
    have nf : ¬ Fr fs k := fun z => ca (by
      have := z.a u'
      unfold aN at this
      rw [this, if_neg (by omega)])
    have za := ha k hk nf u'
    have za' : Zb (cf (atF fs (k : Int)).2 (u' : Int)) D (Nt r) := za
    have zc := zca k hk nf
    have zcx : ∀ y : Int, Zb (if y = (u' : Int) then 0 else cf (atF fs (k : Int)).2 y) D (Nt r) := fun y => by
      split
      · exact zb_0.le (Nat.zero_le _)
      · by_cases hy : 0 ≤ y
        · have := ha k hk nf y.toNat
          unfold aN at this
          rw [at_nat hy] at this
          exact this
        · rw [fneg k hk y hy]
          exact zb_0.le (Nat.zero_le _)
    rcases two with g0 | r3
    · have gx : ∀ y : Int, cf g.2 y = 0 := fun y => by
        by_cases hy : 0 ≤ y
        · have := g0 y.toNat
          unfold dN at this
          rwa [at_nat hy] at this
        · exact gneg y hy
      have e1 := g1u g0
      have z1 : Zb (g.1 * cf (atF fs (k : Int)).2 (u' : Int)) D (Nt r * 9) := by
        rw [e1, Rat.mul_comm]
        exact zb_mi za' x9
      refine ⟨⟨fits_zb z1 d1 (by omega) (by omega), fun y => by rw [gx, Rat.zero_mul]; exact fits0⟩, fits_zb (zb_add zc z1) d1 (by omega) (by omega), fun y => ?_⟩
      rw [gx, Rat.zero_mul, Rat.add_zero]
      exact fits_zb (zcx y) d1 (by omega) (by omega)
    · obtain ⟨t1, t2, t3, t4, t5, t6⟩ := dt_step r3
      have MD : 1 ≤ m.natAbs * D := Nat.mul_pos m1 d1
      have MD2 : m.natAbs * D ≤ Pt r * Dt r := Nat.mul_le_mul m2 d2
      have z1 : Zb (g.1 * cf (atF fs (k : Int)).2 (u' : Int)) (m.natAbs * D) ((9 * m.natAbs + 45 * Pt r) * Nt r) := zb_mul zg1 za'
      have b1 : (9 * m.natAbs + 45 * Pt r) * Nt r ≤ (9 * Pt r + 45 * Pt r) * Nt r := Nat.mul_le_mul_right _ (by omega)
      have z2 : ∀ y : Int, Zb (cf g.2 y * cf (atF fs (k : Int)).2 (u' : Int)) (m.natAbs * D) (Pt r * Nt r) := fun y => by
        refine zb_mul ?_ za'
        by_cases hy : 0 ≤ y
        · have := zg y.toNat
          unfold dN at this
          rwa [at_nat hy] at this
        · rw [gneg y hy]
          exact zb_0.le (Nat.zero_le _)
      have z3 : Zb (cN fs k) (m.natAbs * D) (m.natAbs * (9 * D + 45 * Nt r)) := zb_upc zc
      have b3 : m.natAbs * (9 * D + 45 * Nt r) ≤ Pt r * (9 * Dt r + 45 * Nt r) := Nat.mul_le_mul m2 (by omega)
      have z4 : ∀ y : Int, Zb (if y = (u' : Int) then 0 else cf (atF fs (k : Int)).2 y) (m.natAbs * D) (m.natAbs * Nt r) := fun y => zb_upc (zcx y)
      have b4 : m.natAbs * Nt r ≤ Pt r * Nt r := Nat.mul_le_mul_right _ m2
      have b5 : Pt r * Nt r = Nt r * Pt r := Nat.mul_comm _ _
      refine ⟨⟨fits_zb z1 MD (by omega) (by omega), fun y => fits_zb (z2 y) MD (by omega) (by omega)⟩, fits_zb (zb_add z3 z1) MD (by omega) (by omega), fun y => fits_zb (zb_add (z4 y) (z2 y)) MD (by omega) (by omega)⟩
  refine ⟨okw, fun fs' N => ⟨?_, next_own j R G N fu, fun d0 z => next_zr j N fu z⟩⟩
  -- who is free behind the step
  have g0k : ∀ k, k < n → ¬ Fr fs k → k ≠ u' → aN fs' k k = 0 := fun k hk nf ne => by
    have s := (j.fr k hk).resolve_left nf
    have akk : aN fs k k = 0 := Decidable.byContradiction fun z => by have := (s k z).1; omega
    rw [next_a j N fu hk, if_neg ne, akk]
    by_cases z : dN g.2 k = 0
    · rw [z, Rat.zero_mul]; exact Rat.add_zero 0
    · have k2 : dN F.2 k ≠ 0 := fun z2 => z (by rw [G.k, if_neg ne, z2, Rat.zero_mul])
      have k3 := G.top k k2
      have ak : aN fs k u' = 0 := Decidable.byContradiction fun z3 => by have := (s u' z3).1; omega
      rw [ak, Rat.mul_zero]
      exact Rat.add_zero 0
  have nfu : ¬ Fr fs' u' := fun z => by
    have h1 := z.a u'
    rw [if_pos rfl, next_a j N fu G.un, if_pos rfl, fu.a, if_pos rfl, Rat.mul_one, G.k, if_pos rfl, Rat.zero_mul] at h1
    exact absurd h1 (by decide +kernel)
  have frw : ∀ k, k < n → k ≠ u' → (Fr fs' k ↔ Fr fs k) := fun k hk ne => by
    refine ⟨fun z => Decidable.byContradiction fun nf => ?_, next_fr j N hk ne⟩
    have h1 := z.a k
    rw [if_pos rfl, g0k k hk nf ne] at h1
    exact absurd h1 (by decide +kernel)
  have hfr : ∀ l, l < n → Fr fs l → l ≠ u' → Fr fs' l := fun l hl f ne => (frw l hl ne).mpr f
  have frn : ∀ {l}, l < n → Fr fs l → l < n := fun h _ => h
  refine ⟨by rw [N.1, j.len], fun k hk => ?_, fun k hk t ht => ?_, fun k hk => ?_, fun k hk => next_pl j N fu G.un pg hk, ?_, ?_, n5, j.x9⟩
  · obtain ⟨h1, h2⟩ := next_at j N hk
    by_cases e : k = u'
    · rw [h1 e]; exact G.wf
    · exact (h2 e).1
  · obtain ⟨h1, h2⟩ := next_at j N hk
    by_cases e : k = u'
    · rw [h1 e] at ht
      exact G.rg t ht
    · obtain ⟨w, _, a⟩ := h2 e
      have h := cf_mem w.asc ht
      have nz := w.nz t ht
      rw [← h, a] at nz
      by_cases z : cf g.2 t.1 = 0
      · rw [z, Rat.zero_mul, Rat.add_zero] at nz
        split at nz
        · exact absurd rfl nz
        · exact cf_rgE (j.rg k hk) nz
      · exact cf_rgE G.rg z
  · by_cases e : k = u'
    · subst e
      refine .inr fun l hl => ?_
      rw [next_a j N fu hk, fu.a, fu.a, if_pos rfl, Rat.mul_one] at hl
      have hl : dN g.2 l ≠ 0 := by
        intro z
        apply hl
        rw [z]
        split <;> exact Rat.add_zero 0
      have k1 : l ≠ k := fun z => hl (by rw [G.k, if_pos z, Rat.zero_mul])
      have k2 : dN F.2 l ≠ 0 := fun z => hl (by rw [G.k, if_neg k1, z, Rat.zero_mul])
      have k3 := G.top l k2
      exact ⟨by omega, hfr l (by omega) (j.free R k2) k1⟩
    · rcases j.fr k hk with f | s
      · exact .inl (hfr k hk f e)
      · refine .inr fun l hl => ?_
        rw [next_a j N fu hk] at hl
        by_cases z : dN g.2 l * aN fs k u' = 0
        · rw [z, Rat.add_zero] at hl
          split at hl
          · exact absurd rfl hl
          · rename_i ne
            obtain ⟨h1, h2⟩ := s l hl
            exact ⟨h1, hfr l (by omega) h2 ne⟩
        · have z1 : dN g.2 l ≠ 0 := fun z2 => z (by rw [z2, Rat.zero_mul])
          have z2 : aN fs k u' ≠ 0 := fun z2 => z (by rw [z2, Rat.mul_zero])
          have k1 : l ≠ u' := fun z => z1 (by rw [G.k, if_pos z, Rat.zero_mul])
          have k2 : dN F.2 l ≠ 0 := fun z => z1 (by rw [G.k, if_neg k1, z, Rat.zero_mul])
          have k3 := G.top l k2
          have k4 := (s u' z2).1
          exact ⟨by omega, hfr l (by omega) (j.free R k2) k1⟩
  · have h : cnt n fs' = smN n fun k => (if Fr fs k then 0 else 1) + if k = u' then 1 else 0 := smN_congr fun k hk => by
      by_cases e : k = u'
      · rw [if_pos e, if_neg (by rw [e]; exact nfu), if_pos (by rw [e]; exact fu)]
      · rw [if_neg e]
        by_cases f : Fr fs k
        · rw [if_pos f, if_pos ((frw k hk e).mpr f)]
        · rw [if_neg f, if_neg fun z => f ((frw k hk e).mp z)]
    rw [h, smN_add, smN_delta_eq G.un]
    have h4 : smN n (fun k => if Fr fs k then 0 else 1) = r := j.rk
    rw [h4]
  · rcases two with g0 | r3
    · obtain ⟨m5, m6⟩ := dt_mono r
      refine ⟨D, d1, by omega, fun k hk nf l => ?_⟩
      rw [next_a j N fu hk, g0 l, Rat.zero_mul, Rat.add_zero]
      split
      · exact zb_0.le (Nat.zero_le _)
      · by_cases e : k = u'
        · subst e
          rename_i ne
          rw [fu.a, if_neg ne]
          exact zb_0.le (Nat.zero_le _)
        · exact (ha k hk (fun z => nf ((frw k hk e).mpr z)) l).le m6
    · obtain ⟨t1, t2, t3, t4, t5, t6⟩ := dt_step r3
      have MD : 1 ≤ m.natAbs * D := Nat.mul_pos m1 d1
      have MD2 : m.natAbs * D ≤ Pt r * Dt r := Nat.mul_le_mul m2 d2
      refine ⟨m.natAbs * D, MD, by omega, fun k hk nf l => ?_⟩
      rw [next_a j N fu hk]
      by_cases e : k = u'
      · subst e
        rw [fu.a, fu.a, if_pos rfl, Rat.mul_one]
        have : (if l = k then 0 else if l = k then (1 : Rat) else 0) = 0 := by split <;> rfl
        rw [this, Rat.zero_add]
        have z := zb_upc (c := D) (zg l)
        rw [Nat.mul_comm D m.natAbs] at z
        refine z.le ?_
        have := Nat.mul_le_mul_right (Pt r) d2
        omega
      · have nf' : ¬ Fr fs k := fun z => nf ((frw k hk e).mpr z)
        have z1 : Zb (if l = u' then 0 else aN fs k l) (m.natAbs * D) (m.natAbs * Nt r) := zb_upc (by
          split
          · exact zb_0.le (Nat.zero_le _)
          · exact ha k hk nf' l)
        have z2 := zb_mul (zg l) (ha k hk nf' u')
        have b1 : m.natAbs * Nt r ≤ Pt r * Nt r := Nat.mul_le_mul_right _ m2
        have b5 : Pt r * Nt r = Nt r * Pt r := Nat.mul_comm _ _
        exact (zb_add z1 z2).le (by omega)
end
theorem Sd.put {H0 H : Hp} {p l : Addr} {o : HO} (S : Sd H0 H p) (h : H0 l = none) (ne : l ≠ p) : Sd H0 (upd H l o) p := by
  obtain ⟨a, b, c, e⟩ := S.stm
  exact ⟨fun x y h' => by rw [upd_ne (ne_of_none h' h)]; exact S.same _ _ h', S.fresh, a, b, c, by rw [upd_ne ne.symm]; exact e⟩
theorem kp_put {p l : Addr} {H H' : Hp} {o : HO} (k : Kp p H H') (h : H l = none) : Kp p H (upd H' l o) := fun b x hb e => by
  rw [upd_ne (ne_of_none e h)]
  exact k b x hb e
theorem kp_none {p a : Addr} {H H' : Hp} (k : Kp p H H') (h : H' a = none) (ne : a ≠ p) : H a = none := by
  cases z : H a with
  | none => rfl
  | some o =>
    have := k _ _ ne z
    rw [h] at this
    cases this
theorem Sd.none0 {H0 H : Hp} {p l : Addr} (S : Sd H0 H p) (h : H l = none) : H0 l = none := by
  cases z : H0 l with
  | none => rfl
  | some o =>
    have := S.same _ _ z
    rw [h] at this
    cases this
/-! ### the law's parts: integers in lists -/
def iN (es : List Int) (k : Nat) : Int := (es[k]?).getD 0
theorem iN_get {es : List Int} {k : Nat} (h : k < es.length) : es[k]? = some (iN es k) := by
  unfold iN
  rw [List.getElem?_eq_getElem h]
  rfl
theorem iN_at {es : List Int} {k : Nat} (h : k < es.length) : atI (es.map V.int) (k : Int) = some (.int (iN es k)) := atI_nat (by rw [List.getElem?_map, iN_get h]; rfl)
theorem iN_le {es : List Int} {m : Nat} (h : ∀ e ∈ es, e.natAbs ≤ m) (k : Nat) : (iN es k).natAbs ≤ m := by
  unfold iN
  cases e : es[k]? with
  | none => exact Nat.zero_le _
  | some z => exact h z (List.mem_of_getElem? e)
theorem sqL_monoE {K : PySem.W.Frag} {H H' : Hp} {a : Addr} {xs : List V} (s : Same H H') (h : SqL K H a xs) : SqL K H' a xs := by
  rcases h with (h | ⟨o, h⟩) | h
  · exact .inl (.inl (s _ _ h))
  · exact .inl (.inr ⟨o, s _ _ h⟩)
  · exact .inr h
theorem nx_mono {p : Addr} {z : Int} {H : Hp} {Q Q2 : VK} {E E2 : XK} (h : sp__law_next [.ref p, .int z] H Q E) (k : ∀ w H2, Q (.int w) H2 → Q2 (.int w) H2) : sp__law_next [.ref p, .int z] H Q2 E2 := by
  obtain ⟨p', z', e, h1, h2, h3, h4⟩ := h
  exact ⟨p', z', e, h1, h2, h3, fun v a b m h0 h1 => k _ _ (h4 v a b m h0 h1)⟩
/-- [_law_next(stream, z) - c for ..] -/
theorem z_drawsC {H0 H : Hp} {p : Addr} {z c : Int} {m k : Nat} {vs : List Nat} {te : TE} {σ : L2.St} {Q : VK} {v : Int} (S : Sd H0 H p) (hv : v = (m : Int)) (hm : m ≤ 500) (hz : 0 < z) (hz2 : z.natAbs < 2 ^ 1000) (hw : ∀ x, wipe ((wipe σ vs).set k (some x)) vs = wipe σ vs)
    (hte : ∀ (i : Nat) (H' : Hp) (R : VK), (∀ E, sp__law_next [.ref p, .int z] H' (fun v H2 => ∃ w, v = .int w ∧ R (.int (w - c)) H2) E) → te ((wipe σ vs).set k (some (.int (i : Int)))) H' R)
    (q : ∀ (D : Addr) (H' : Hp) (ns : List Int), H D = none → D ≠ p → Sd H0 H' p → Kp p H H' → H' D = some (.lst (ns.map V.int)) → ns.length = m → (∀ x ∈ ns, -c ≤ x ∧ x < z - c) → Q (.ref D) H') : LcRE (gName k) tYes te vs σ Q [.int v] H := by
  subst hv
  refine z_lcRr m (by omega) hw (fun i D acc H' => Sd H0 H' p ∧ Kp p H H' ∧ D ≠ p ∧ H D = none ∧ ∃ ns : List Int, acc = ns.map V.int ∧ ∀ x ∈ ns, -c ≤ x ∧ x < z - c)
    (fun D H' f s e => ⟨S.mono s, kp_of s, S.ne0 f, f, [], rfl, fun x hx => nomatch hx⟩) (fun i D acc H' hi hl hD ⟨S', k', ne, f, ns, ea, hb⟩ => ?_)
    (fun D acc H' f hl hD ⟨S', k', ne, _, ns, ea, hb⟩ => q D H' ns f ne S' k' (by rw [hD, ea]) (by rw [← hl, ea, List.length_map]) hb)
  refine hte i H' _ fun E => nx S' hz hz2 fun x H2 x0 x1 S2 e2 => ⟨x, rfl, ?_⟩
  have hD2 : H2 D = some (.lst acc) := (e2 D ne).trans hD
  refine z_lcB hD2 hl (by omega) fun H3 hD3 k3 e3 => ⟨?_, ?_, ne, f, ns ++ [x - c], by rw [ea, List.map_append]; rfl, fun y hy => ?_⟩
  · obtain ⟨a, b, c, st⟩ := S2.stm
    refine ⟨fun b o h => ?_, S2.fresh, a, b, c, by rw [e3 p ne.symm]; exact st⟩
    have hne : b ≠ D := fun z => by
      have h1 := S.same _ _ h
      rw [z, f] at h1
      cases h1
    rw [e3 b hne]
    exact S2.same _ _ h
  · intro b o hb h
    have hne : b ≠ D := fun z => by
      rw [z, f] at h
      cases h
    rw [e3 b hne, e2 b hb]
    exact k' b o hb h
  · rcases List.mem_append.mp hy with h | h
    · exact hb y h
    · rw [List.mem_singleton.mp h]
      omega
/-- a comprehension over a list, its elements data -/
theorem z_lcLT {K : PySem.W.Frag} {H : Hp} {Q : VK} {σ : L2.St} {g : TG} {te : TE} {vs : List Nat} {a : Addr} {xs : List V} (ds : List PyData) (hl : ds.length = xs.length) (hm : xs.length ≤ 1000) (hx : SqL K H a xs) (ht : ∀ d ∈ ds, tupOnly d = true)
    (hs : ∀ (i : Nat) (x : V) (H' : Hp) (R : VK), xs[i]? = some x → Same H H' → (∀ d, ds[i]? = some d → ∀ v H3, Same H' H3 → Dp K H3 v d → R v H3) → g x (wipe σ vs) H' fun σ2 H2 => wipe σ2 vs = wipe σ vs ∧ te σ2 H2 R)
    (hd : ∀ D acc H', H D = none → Same H H' → H' D = some (.lst acc) → DpAll K H' acc ds → Q (.ref D) H') : LcE K g tYes te vs σ Q (.ref a) H := by
  refine ⟨a, rfl, ⟨xs, hx⟩, fun D hD => ?_⟩
  have tk : ∀ i, tupOnlyA (ds.take i) = true := fun i => tupOnly_all fun d h => ht d (List.mem_of_mem_take h)
  refine lc_list (xs := xs) (fun i H' => Same H H' ∧ ∃ acc, acc.length ≤ i ∧ H' D = some (.lst acc) ∧ DpAll K H' acc (ds.take i)) ⟨same_upd hD, [], Nat.le_refl _, upd_same, .nil⟩ (fun i H' _ h => sqL_monoE h.1 hx) (fun i x H' hi ⟨s', acc, la, hA, dA⟩ => ?_) (fun H' ⟨s', acc, la, hA, dA⟩ => ?_)
  · have hi' : i < xs.length := (List.getElem?_eq_some_iff.mp hi).1
    have h := hs i x H' (LcB D i (fun _ _ _ _ => True) fun H4 => Same H H4 ∧ ∃ acc, acc.length ≤ i + 1 ∧ H4 D = some (.lst acc) ∧ DpAll K H4 acc (ds.take (i + 1))) hi s' (fun d ed v H3 s3 dv => ?_)
    · have yes : ∀ (B : VK) (N : Hp → Prop), (fun (σ2 : L2.St) (H2 : Hp) => wipe σ2 vs = wipe σ vs ∧ te σ2 H2 B) = fun (σ2 : L2.St) (H2 : Hp) => wipe σ2 vs = wipe σ vs ∧ tYes σ2 H2 fun b H3 => if b = true then te σ2 H3 B else N H3 := fun B N => by
        funext σ2 H2
        show _ = (wipe σ2 vs = wipe σ vs ∧ if true = true then te σ2 H2 B else N H2)
        rw [if_pos rfl]
      rw [yes _ fun H3 => Same H H3 ∧ ∃ acc, acc.length ≤ i + 1 ∧ H3 D = some (.lst acc) ∧ DpAll K H3 acc (ds.take (i + 1))] at h
      exact h
    · refine ⟨acc, s3 _ _ hA, Nat.lt_of_lt_of_le (show acc.length < 1000 by omega) (by decide), fun b o e => ?_, acc ++ [v], by simp; omega, upd_same, ?_⟩
      · rw [upd_ne (ne_of_none e hD)]
        exact s3 _ _ (s' _ _ e)
      · have k5 : Kp D H3 (upd H3 D (.lst (acc ++ [v]))) := fun b o hb e => by rw [upd_ne hb]; exact e
        have e5 : ds.take (i + 1) = ds.take i ++ [d] := by rw [List.take_add_one, ed]; rfl
        rw [e5]
        refine dp_kpA k5 (s3 _ _ hA) ?_ (dpa_snoc dv (dp_monoA s3 dA))
        rw [← e5]
        exact tk _
  · rw [← hl, List.take_length] at dA
    exact hd D acc H' hD s' hA dA
/-! ### the value of a form -/
def sumV (x : Nat → Int) : Tms → Rat → Rat
  | [], c => c
  | t :: r, c => sumV x r (c + t.2 * (x t.1.toNat : Rat))
theorem sumV_snoc (x : Nat → Int) (t : Int × Rat) : ∀ (ts : Tms) (c : Rat), sumV x (ts ++ [t]) c = sumV x ts c + t.2 * (x t.1.toNat : Rat)
  | [], _ => rfl
  | _ :: r, _ => sumV_snoc x t r _
theorem sumV_sm (x : Nat → Int) {n : Nat} : ∀ {ts : Tms} {c : Rat}, ts.Pairwise (fun a b => a.1 < b.1) → (∀ t ∈ ts, 0 ≤ t.1 ∧ t.1 < (n : Int)) → sumV x ts c = c + sm n fun k => dN ts k * (x k : Rat)
  | [], c, _, _ => by
    show c = c + _
    rw [sm_zero fun k _ => by show (0 : Rat) * _ = 0; rw [Rat.zero_mul], Rat.add_zero]
  | t :: r, c, p, h => by
    have ht := h t (.head _)
    show sumV x r _ = _
    rw [sumV_sm x (List.pairwise_cons.mp p).2 fun s hs => h s (.tail _ hs)]
    have := sm_ins (h := fun k => (x k : Rat)) p ht.1 ht.2
    rw [sm_congr (h := fun k => (x k : Rat) * dN (t :: r) k) fun k _ => Rat.mul_comm _ _, this, sm_congr (g := fun k => dN r k * (x k : Rat)) (h := fun k => (x k : Rat) * dN r k) fun k _ => Rat.mul_comm _ _]
    grind
/-- bounds that the law's own sums keep -/
structure Bv (n : Nat) (f : Fm) : Prop where
  wf : Wf f.2
  rg : ∀ t ∈ f.2, 0 ≤ t.1 ∧ t.1 < (n : Int)
  zb : ∃ D M : Nat, 1 ≤ D ∧ D ≤ 1000000000000000000 ∧ M ≤ 1000000000000000000 ∧ Zb f.1 D M ∧ ∀ k, Zb (dN f.2 k) D M
theorem bl_zb {r : Rat} {D M : Nat} (h : Zb r D M) (h0 : 1 ≤ D) (h1 : D ≤ 1000000000000000000) (h2 : M ≤ 1000000000000000000000) : Bl r := (h.bd (by omega)).bl (Nat.lt_of_le_of_lt h2 (by decide)) (Nat.lt_of_le_of_lt h1 (by decide))
def valD (z : Int) : PyData := .tuple [.int z, .int 1]
def sp__law_value (K : PySem.W.Frag) : Sp := fun vs H Q _ => ∃ (v : V) (l : Addr) (ws : List V) (f : Fm) (xs : List Int), vs = [v, .ref l] ∧ FmAt K H v f ∧ H l = some (.lst ws) ∧ DpAll K H ws (xs.map valD) ∧ xs.length ≤ 10 ∧ Bv xs.length f ∧ (∀ x ∈ xs, x.natAbs ≤ 9) ∧ RetD K H (qD (f.1 + sm xs.length fun k => dN f.2 k * (iN xs k : Rat))) Q

/-! ### sides of an equation -/
/-- a form of listed integers -/
structure Mk (es : List Int) (ts : Tms) : Prop where
  wf : Wf ts
  rg : ∀ t ∈ ts, 0 ≤ t.1 ∧ t.1 < (es.length : Int)
  k : ∀ k : Nat, dN ts k = (iN es k : Rat)
def sp__law_made (K : PySem.W.Frag) : Sp := fun vs H Q _ => ∃ (a : Addr) (es : List Int) (c : Int), vs = [.ref a, .int c] ∧ H a = some (.lst (es.map V.int)) ∧ es.length ≤ 100 ∧ ∀ w ts H', Same H H' → FmAt K H' w ((c : Rat), ts) → Mk es ts → Q w H'
theorem iN_out {es : List Int} {k : Nat} (h : es.length ≤ k) : iN es k = 0 := by
  unfold iN
  rw [List.getElem?_eq_none h]
  rfl
theorem cf_app {ts : Tms} {t : Int × Rat} (u : Int) (h : ∀ s ∈ ts, s.1 < t.1) : cf (ts ++ [t]) u = if t.1 = u then t.2 else cf ts u := by
  induction ts with
  | nil => rfl
  | cons s r ih =>
    have ih := ih fun z hz => h z (.tail _ hz)
    show (if s.1 = u then s.2 else cf (r ++ [t]) u) = if t.1 = u then t.2 else (if s.1 = u then s.2 else cf r u)
    rw [ih]
    by_cases e : s.1 = u
    · have := h s (.head _)
      rw [if_pos e, if_neg (by omega), if_pos e]
    · rw [if_neg e, if_neg e]
section
theorem ok__law_made {P : Program} {w : World} {K : PySem.W.Frag} {mg : Str → Option Value} {base : Heap} {A : Nat → Addr} {D : Nat → FuncData} (T : Txt K mg A D) : FnOk P w K mg base (L2.CX P w) 1 (A 30) (D 30) ["factors", "constant"] (sp__law_made K) := by
  refine T.F__law_made.okX sc__law_made (fun vs H Q E h => ?_) (fun cdv A' outer s H vs Q E hr h => ?_)
  · obtain ⟨a, es, c, rfl, _⟩ := h
    rfl
  obtain ⟨a, es, c, rfl, ha, la, q⟩ := h
  refine ⟨_, (pss_cons (ps_set (i := 2) sc__law_made.nd rfl (.inl rfl) (pe_lst pa_nil))
  (pss_cons (ps_for (passes_of rfl) rfl (pi_range1 (by rfl) T.z_range (pa_cons (pe_callB Z.c_len (by rfl) T.z_len (by decide +kernel) (pa_cons (pv 0) pa_nil)) pa_nil)) (pg_name (i := 3) sc__law_made.nd rfl (.inl rfl))
  (pss_one (ps_if (pt_cmpR op_ne (pe_ix ix_list (pv 0) (pv 3) (fun _ _ => rfl)) pe_int (nomark _))
  (pss_one (ps_expr (pe_bm PySem.F.plainAttrs_list PySem.F.slot_list_append PySem.F.type_list_append mt_append (pv 2) (pa_cons (pe_tup (pa_cons (pv 3) (pa_cons (pe_tup (pa_cons (pe_ix ix_list (pv 0) (pv 3) (fun _ _ => rfl)) (pa_cons pe_int pa_nil))) pa_nil))) pa_nil))))
  pss_nil)))
  (pss_one (ps_ret (pe_tup (pa_cons (pe_tup (pa_cons (pv 1) (pa_cons pe_int pa_nil))) (pa_cons (pe_callTy Dm.c_tupOfF (by rfl) T.z_tuple (by decide +kernel) (pa_cons (pv 2) pa_nil)) pa_nil))))))), ?_⟩
  walk_at "z"
  intro D H1 fD s1 hD
  walk_at "z"
  have hneD : a ≠ D := ne_of_none ha fD
  refine z_forR1 es.length (by omega) (fun R q => by
    walk_at "z"
    refine z_lenL (.inl (.inl (s1 _ _ ha))) ?_
    walk_at "z"
    rw [List.length_map]
    exact q) (fun i σ' H' => Kp D H1 H' ∧ (∃ x1, σ' = [some (.ref a), some (.int c), some (.ref D), x1]) ∧ ∃ acc ts, H' D = some (.lst acc) ∧ acc.length ≤ i ∧ DpAll K H' acc (ts.map tmD) ∧ Wf ts ∧ (∀ t ∈ ts, 0 ≤ t.1 ∧ t.1 < (i : Int)) ∧ ∀ k : Nat, dN ts k = if k < i then (iN es k : Rat) else 0)
    ⟨fun _ _ _ e => e, ⟨_, rfl⟩, [], [], hD, Nat.le_refl _, .nil, ⟨.nil, fun _ h => (by cases h)⟩, fun _ h => (by cases h), fun k => by rw [if_neg (Nat.not_lt_zero k)]; rfl⟩ ?_ ?_
  · rintro i σ' H' hi ⟨k1, ⟨x1, rfl⟩, acc, ts, hA, la', dA, wf, rg, kk⟩
    have ha' := k1 _ _ hneD (s1 _ _ ha)
    walk_at "z"
    refine z_ixL (.inl (.inl ha')) (iN_at hi) ?_
    walk_at "z"
    have kk' : iN es i = 0 → ∀ k : Nat, dN ts k = if k < i + 1 then (iN es k : Rat) else 0 := fun z k => by
      rw [kk]
      by_cases e : k < i
      · rw [if_pos e, if_pos (by omega)]
      · rw [if_neg e]
        by_cases e2 : k = i
        · rw [e2, if_pos (by omega), z]
          rfl
        · rw [if_neg (by omega)]
    refine z_if (fun c1 => ?_) (fun c1 => ?_)
    · walk_at "z"
      refine z_bmL (fun R q => by walk_at "z"; exact q) hA ?_
      walk_at "z"
      refine z_ixL (.inl (.inl ha')) (iN_at hi) ?_
      walk_at "z"
      intro p7 H7 f7 s7 h7
      walk_at "z"
      intro p9 H9 f9 s9 h9
      walk_at "z"
      have s79 := s7.trans s9
      have hA9 := s79 _ _ hA
      refine z_append hA9 (by omega) ?_
      walk_at "z"
      refine ⟨(k1.trans' (kp_of s79)).trans' kp_at, ⟨_, rfl⟩, acc ++ [.ref p9], ts ++ [((i : Int), (iN es i : Rat))], upd_same, by simp; omega, ?_, ⟨?_, ?_⟩, ?_, fun k => ?_⟩
      · rw [List.map_append]
        refine dp_kpA kp_at hA9 (by rw [← List.map_append]; exact tup_tms _) (dpa_snoc (dp_mk h9 (.cons (.int _) (.cons ?_ .nil))) (dp_monoA s79 dA))
        rw [qIe]
        exact dp_mk (s9 _ _ h7) (.cons (.int _) (.cons (.int _) .nil))
      · rw [List.pairwise_append]
        refine ⟨wf.asc, List.pairwise_singleton _ _, fun s hs t ht => ?_⟩
        rw [List.mem_singleton.mp ht]
        exact (rg s hs).2
      · intro t ht
        rcases List.mem_append.mp ht with h | h
        · exact wf.nz t h
        · rw [List.mem_singleton.mp h]
          show (iN es i : Rat) ≠ 0
          intro z
          exact c1 (by exact_mod_cast z)
      · intro t ht
        rcases List.mem_append.mp ht with h | h
        · have := rg t h
          omega
        · rw [List.mem_singleton.mp h]
          exact ⟨by show (0 : Int) ≤ (i : Int); omega, by show (i : Int) < _; omega⟩
      · show cf (ts ++ [((i : Int), (iN es i : Rat))]) (k : Int) = _
        rw [cf_app _ fun s hs => (rg s hs).2]
        show (if (i : Int) = (k : Int) then _ else dN ts k) = _
        rw [kk]
        by_cases e2 : k = i
        · subst e2
          rw [if_pos rfl, if_pos (by omega)]
        · rw [if_neg (by omega)]
          by_cases e : k < i
          · rw [if_pos e, if_pos (by omega)]
          · rw [if_neg e, if_neg (by omega)]
    · walk_at "z"
      exact ⟨k1, ⟨_, rfl⟩, acc, ts, hA, by omega, dA, wf, fun t ht => by have := rg t ht; omega, kk' (Decidable.of_not_not c1)⟩
  · rintro σ' H' ⟨k1, ⟨x1, rfl⟩, acc, ts, hA, la', dA, wf, rg, kk⟩
    walk_at "z"
    intro p7 H7 f7 s7 h7
    walk_at "z"
    refine z_tupOfF (.inl (.inl (s7 _ _ hA))) fun t H8 ft s8 p8 => ?_
    walk_at "z"
    intro p9 H9 f9 s9 h9
    have s0 := same_kpD s1 fD k1
    have s89 := s8.trans s9
    have s79 := s7.trans s89
    refine q _ ts H9 (s0.trans s79) (.mk (.inl (.inl h9)) ?_ (p8.mono s9) (dp_monoA s79 dA)) ⟨wf, rg, fun k => ?_⟩
    · show Dp K H9 _ (qD (c : Rat))
      rw [qIe]
      exact dp_mk (s89 _ _ h7) (.cons (.int _) (.cons (.int _) .nil))
    · rw [kk]
      split
      · rfl
      · rw [iN_out (by omega)]
        rfl
end
def sp__law_sides (K : PySem.W.Frag) : Sp := fun vs H Q _ => ∃ (p a : Addr) (es : List Int) (c : Int) (H0 : Hp), vs = [.ref p, .ref a, .int c] ∧ Sd H0 H p ∧ a ≠ p ∧ H a = some (.lst (es.map V.int)) ∧ es.length ≤ 100 ∧
  ∀ t lv rv tl tr (m0 : Int) H', Sd H0 H' p → Kp p H H' → H' t = some (.tup [lv, rv]) → FmAt K H' lv ((m0 : Rat), tl) → FmAt K H' rv (((c + m0 : Int) : Rat), tr) → Wf tl → Wf tr → (∀ s ∈ tl, 0 ≤ s.1 ∧ s.1 < (es.length : Int)) → (∀ s ∈ tr, 0 ≤ s.1 ∧ s.1 < (es.length : Int)) →
    0 ≤ m0 → m0 ≤ 8 → (∀ k, ∃ z : Int, z.natAbs ≤ 1 ∧ dN tl k = ((iN es k + z : Int) : Rat) ∧ dN tr k = (z : Rat)) → Q (.ref t) H'
/-- three objects apart -/
def Kp3 (p a b : Addr) (H H' : Hp) : Prop := ∀ x o, x ≠ p → x ≠ a → x ≠ b → H x = some o → H' x = some o
section
theorem ok__law_sides {P : Program} {w : World} {K : PySem.W.Frag} {mg : Str → Option Value} {base : Heap} {A : Nat → Addr} {D : Nat → FuncData} (T : Txt K mg A D) : FnOk P w K mg base (L2.CX P w) 2 (A 31) (D 31) ["stream", "factors", "constant"] (sp__law_sides K) := by
  refine T.F__law_sides.okX sc__law_sides (fun vs H Q E h => ?_) (fun cdv A' outer s H vs Q E hr h => ?_)
  · obtain ⟨p, a, es, c, H0, rfl, _⟩ := h
    rfl
  obtain ⟨p, a, es, c, H0, rfl, S, nap, ha, la, q⟩ := h
  refine ⟨_, (pss_cons (ps_set (i := 3) sc__law_sides.nd rfl (.inl rfl) (pe_lst pa_nil))
  (pss_cons (ps_set (i := 4) sc__law_sides.nd rfl (.inl rfl) (pe_lst pa_nil))
  (pss_cons (ps_for (passes_of rfl) rfl (pi_list (pv 1)) (pg_name (i := 5) sc__law_sides.nd rfl (.inl rfl))
  (pss_cons (ps_set (i := 6) sc__law_sides.nd rfl (.inl rfl) (pe_op op_sub (pe_call (ok__law_next T) (hr.mono (by decide)) (by rfl) T.m__law_next T.F__law_next.kp T.b__law_next .nil (passes_call (takes_of rfl rfl rfl rfl) (fun _ _ _ _ h => h)) (pa_cons (pv 0) (pa_cons pe_int pa_nil))) pe_int))
  (pss_cons (ps_expr (pe_bm PySem.F.plainAttrs_list PySem.F.slot_list_append PySem.F.type_list_append mt_append (pv 3) (pa_cons (pe_op op_add (pv 5) (pv 6)) pa_nil)))
  (pss_one (ps_expr (pe_bm PySem.F.plainAttrs_list PySem.F.slot_list_append PySem.F.type_list_append mt_append (pv 4) (pa_cons (pv 6) pa_nil)))))))
  (pss_cons (ps_set (i := 6) sc__law_sides.nd rfl (.inl rfl) (pe_call (ok__law_next T) (hr.mono (by decide)) (by rfl) T.m__law_next T.F__law_next.kp T.b__law_next .nil (passes_call (takes_of rfl rfl rfl rfl) (fun _ _ _ _ h => h)) (pa_cons (pv 0) (pa_cons pe_int pa_nil))))
  (pss_one (ps_ret (pe_tup (pa_cons (pe_call (ok__law_made T) (hr.mono (by decide)) (by rfl) T.m__law_made T.F__law_made.kp T.b__law_made .nil (passes_call (takes_of rfl rfl rfl rfl) (fun _ _ _ _ h => h)) (pa_cons (pv 3) (pa_cons (pv 6) pa_nil))) (pa_cons (pe_call (ok__law_made T) (hr.mono (by decide)) (by rfl) T.m__law_made T.F__law_made.kp T.b__law_made .nil (passes_call (takes_of rfl rfl rfl rfl) (fun _ _ _ _ h => h)) (pa_cons (pv 4) (pa_cons (pe_op op_add (pv 2) (pv 6)) pa_nil))) pa_nil))))))))), ?_⟩
  walk_at "z"
  intro D1 H1 f1 s1 h1
  walk_at "z"
  intro D2 H2 f2 s2 h2
  walk_at "z"
  have hD1 := s2 _ _ h1
  have n12 : D1 ≠ D2 := ne_of_none h1 f2
  have f2H : H D2 = none := fresh_of s1 f2
  have na1 : a ≠ D1 := ne_of_none ha f1
  have na2 : a ≠ D2 := ne_of_none ha f2H
  have np1 : D1 ≠ p := S.ne0 f1
  have np2 : D2 ≠ p := S.ne0 f2H
  have s12 := s1.trans s2
  have ha2 := s12 _ _ ha
  have f10 := S.none0 f1
  have f20 := S.none0 f2H
  refine z_forL (fun R q => by walk_at "z"; exact q) (.inl (.inl ha2)) (fun i σ' H' => Sd H0 H' p ∧ Kp3 p D1 D2 H2 H' ∧ (∃ x1 x2, σ' = [some (.ref p), some (.ref a), some (.int c), some (.ref D1), some (.ref D2), x1, x2]) ∧
      ∃ ms : List Int, ms.length = i ∧ (∀ z ∈ ms, z.natAbs ≤ 1) ∧ H' D1 = some (.lst ((List.zipWith (· + ·) (es.take i) ms).map V.int)) ∧ H' D2 = some (.lst (ms.map V.int)))
    ⟨S.mono s12, fun _ _ _ _ _ e => e, ⟨_, _, rfl⟩, [], rfl, fun _ h => (by cases h), by simpa using hD1, h2⟩ (fun i σ' H' _ h => .inl (.inl (h.2.1 _ _ nap na1 na2 ha2))) ?_ ?_
  · rintro i x σ' H' hx ⟨S', k', ⟨x1, x2, rfl⟩, ms, lm, bm, e1, e2⟩
    rw [List.getElem?_map] at hx
    cases hy : es[i]? with
    | none => rw [hy] at hx; cases hx
    | some e =>
      rw [hy] at hx
      cases hx
      have hi := (List.getElem?_eq_some_iff.mp hy).1
      walk_at "z"
      refine nx S' (by decide) (lt1000 (by decide)) fun z H3 z0 z1 S3 e3 => ?_
      have g1 : H3 D1 = some (.lst ((List.zipWith (· + ·) (es.take i) ms).map V.int)) := by rw [e3 _ np1]; exact e1
      have g2 : H3 D2 = some (.lst (ms.map V.int)) := by rw [e3 _ np2]; exact e2
      walk_at "z"
      refine z_bmL (fun R q => by walk_at "z"; exact q) g1 ?_
      walk_at "z"
      refine z_append g1 (by simp; omega) ?_
      walk_at "z"
      have g2' : upd H3 D1 (.lst ((List.zipWith (· + ·) (es.take i) ms).map V.int ++ [V.int (e + (z - 1))])) D2 = some (.lst (ms.map V.int)) := by
        rw [upd_ne (Ne.symm n12)]; exact g2
      refine z_bmL (fun R q => by walk_at "z"; exact q) g2' ?_
      walk_at "z"
      refine z_append g2' (by simp; omega) ?_
      walk_at "z"
      refine ⟨(S3.put f10 np1).put f20 np2, fun b o hb h1 h2 h => ?_, ⟨_, _, rfl⟩, ms ++ [z - 1], by simp [lm], fun y hy => ?_, ?_, ?_⟩
      · rw [upd_ne h2, upd_ne h1, e3 b hb]
        exact k' b o hb h1 h2 h
      · rcases List.mem_append.mp hy with h | h
        · exact bm y h
        · rw [List.mem_singleton.mp h]
          omega
      · rw [upd_ne n12, upd_same]
        congr 2
        rw [List.take_add_one, hy]
        show _ = (List.zipWith (· + ·) (es.take i ++ [e]) (ms ++ [z - 1])).map V.int
        rw [List.zipWith_append (by rw [List.length_take, lm]; omega), List.map_append]
        rfl
      · rw [upd_same, List.map_append]
        rfl
  · rintro σ' H' ⟨S', k', ⟨x1, x2, rfl⟩, ms, lm, bm, e1, e2⟩
    rw [List.length_map] at lm e1
    rw [List.take_length] at e1
    walk_at "z"
    refine nx S' (by decide) (lt1000 (by decide)) fun m0 H3 z0 z1 S3 e3 => ?_
    have g1 : H3 D1 = some (.lst ((List.zipWith (· + ·) es ms).map V.int)) := by rw [e3 _ np1]; exact e1
    have g2 : H3 D2 = some (.lst (ms.map V.int)) := by rw [e3 _ np2]; exact e2
    have lz : (List.zipWith (· + ·) es ms).length = es.length := by rw [List.length_zipWith, lm, Nat.min_self]
    walk_at "z"
    refine ⟨D1, _, m0, rfl, g1, by omega, fun lv tl H4 s4 ml kl => ?_⟩
    walk_at "z"
    refine ⟨D2, _, c + m0, rfl, s4 _ _ g2, by omega, fun rv tr H5 s5 mr kr => ?_⟩
    walk_at "z"
    intro t H6 f6 s6 h6
    have s46 := (s4.trans s5).trans s6
    have kk : Kp p H H3 := fun b o hb h => by
      rw [e3 b hb]
      exact k' b o hb (ne_of_none h f1) (ne_of_none h f2H) (s12 _ _ h)
    refine q t lv rv tl tr m0 H6 (S3.mono s46) (kk.trans' (kp_of s46)) h6 (ml.mono (s5.trans s6)) (mr.mono s6) kl.wf kr.wf (fun s hs => by have := kl.rg s hs; omega) (fun s hs => by have := kr.rg s hs; omega) z0 (by omega) fun k => ⟨iN ms k, iN_le bm k, ?_, kr.k k⟩
    rw [kl.k]
    congr 1
    unfold iN
    rcases Nat.lt_or_ge k es.length with h | h
    · rw [List.getElem?_eq_getElem (by omega), List.getElem?_eq_getElem h, List.getElem?_eq_getElem (by omega), List.getElem_zipWith]
      rfl
    · rw [List.getElem?_eq_none (by omega), List.getElem?_eq_none h, List.getElem?_eq_none (by omega)]
      rfl
end
/-! ### a new state -/
def fr0 (n : Nat) : List Fm := (List.range n).map fun (k : Nat) => (0, [((k : Int), 1)])
theorem fr0_snoc (n : Nat) : fr0 n ++ [(0, [(((fr0 n).length : Int), 1)])] = fr0 (n + 1) := by
  unfold fr0
  rw [List.range_succ, List.map_append, List.length_map, List.length_range]
  rfl
def sp__law_begun (K : PySem.W.Frag) (A : Nat → Addr) : Sp := fun vs H Q _ => ∃ n : Nat, vs = [.int (n : Int)] ∧ n ≤ 80 ∧ ∀ p lp H', H p = none → H lp = none → Same H H' → EqL (A 6) K H' p lp (fr0 n) → Q (.ref p) H'
section
theorem ok__law_begun {P : Program} {w : World} {K : PySem.W.Frag} {mg : Str → Option Value} {base : Heap} {A : Nat → Addr} {D : Nat → FuncData} (T : Txt K mg A D) : FnOk P w K mg base (L2.CX P w) 3 (A 32) (D 32) ["count"] (sp__law_begun K A) := by
  refine T.F__law_begun.okX sc__law_begun (fun vs H Q E h => ?_) (fun cdv A' outer s H vs Q E hr h => ?_)
  · obtain ⟨n, rfl, _⟩ := h
    rfl
  obtain ⟨n, rfl, hn, q⟩ := h
  refine ⟨_, (pss_cons (ps_set (i := 1) sc__law_begun.nd rfl (.inl rfl) (pe_make0 T.M_Equations (Nn.toL (ok_Equations___init__ T)) (hr.mono (by decide)) (by rfl) T.g_Equations T.b_Equations___init__ .nil (passes_call (takes_of rfl rfl rfl rfl) (fun _ _ _ _ h => h))))
  (pss_cons (ps_for (passes_of rfl) rfl (pi_range1 (by rfl) T.z_range (pa_cons (pv 0) pa_nil)) (pg_name (i := 2) sc__law_begun.nd rfl (.inl rfl))
  (pss_one (ps_expr (pe_meth0 (pv 1) T.q_Equations T.m_Equations_new_unknown (ok_Equations_new_unknown T) (hr.mono (by decide)) T.b_Equations_new_unknown .nil (passes_call (takes_of rfl rfl rfl rfl) (fun _ _ _ _ h => h))))))
  (pss_one (ps_ret (pv 1))))), ?_⟩
  walk_at "z"
  intro p dx f1 f2 ne
  refine ⟨p, dx, rfl, upd_same, fun H1 lp k1 f3 e1 => ⟨rfl, ?_⟩⟩
  have s01 : Same H H1 := fun b o h => k1 _ _ (ne_of_none h f1) (by rw [upd_ne (ne_of_none h f1), upd_ne (ne_of_none h f2)]; exact h)
  have flp : H lp = none := by
    have hlp : lp ≠ p := fun z => by rw [z, upd_same] at f3; cases f3
    have hlx : lp ≠ dx := fun z => by rw [z, upd_ne ne, upd_same] at f3; cases f3
    rw [upd_ne hlp, upd_ne hlx] at f3
    exact f3
  walk_at "z"
  refine z_forR1 n (by omega) (fun R q => by walk_at "z"; exact q) (fun i σ' H' => Same H H' ∧ EqL (A 6) K H' p lp (fr0 i) ∧ ∃ x1, σ' = [some (.int (n : Int)), some (.ref p), x1]) ⟨s01, e1, _, rfl⟩ ?_ ?_
  · rintro i σ' H' hi ⟨s', e', x1, rfl⟩
    have li : (fr0 i).length = i := by unfold fr0; rw [List.length_map, List.length_range]
    obtain ⟨⟨dx', ei⟩, _⟩ := id e'
    walk_at "z"
    refine ⟨p, dx', _, rfl, ei, Cw.look1n rfl, ?_⟩
    refine ⟨p, lp, fr0 i, rfl, e', by omega, fun _ H2 k2 e2 => ?_, fun z => absurd (by omega) z⟩
    rw [fr0_snoc] at e2
    walk_at "z"
    exact ⟨fun b o h => k2 _ _ (ne_of_none h flp) (s' _ _ h), e2, _, rfl⟩
  · rintro σ' H' ⟨s', e', x1, rfl⟩
    walk_at "z"
    exact q p lp H' f1 flp s' e'
end
/-! ### kinds and states, as the law sees them -/
theorem z_eqSn {a b : Str} {H : Hp} {Q : VK} (h : a ≠ b) (q : Q (.bl false) H) : rEq (.str a) (.str b) H Q := ⟨rfl, by rw [decide_eq_false (fun z => h (by injection z))]; exact q⟩
theorem z_neSn {a b : Str} {H : Hp} {Q : VK} (h : a ≠ b) (q : Q (.bl true) H) : rNe (.str a) (.str b) H Q := ⟨rfl, by rw [decide_eq_false (fun z => h (by injection z))]; exact q⟩
theorem z_neSs {a : Str} {H : Hp} {Q : VK} (q : Q (.bl false) H) : rNe (.str a) (.str a) H Q := ⟨rfl, by rw [decide_eq_true rfl]; exact q⟩
def ForRQ (g : TG) (tb : TS) (n : L2.St → Hp → Prop) (r : VK) (b c : L2.St → Hp → Prop) (σ : L2.St) : List V → Hp → Prop := fun xs H1 => tFor (iRng1 fun _ H R => R xs H) g tb ⟨n, r, b, c⟩ σ H1
theorem z_forRE {ta : TA} {g : TG} {tb : TS} {n : L2.St → Hp → Prop} {r : VK} {b c : L2.St → Hp → Prop} {σ : L2.St} {H : Hp} (h : ta σ H (ForRQ g tb n r b c σ)) : tFor (iRng1 ta) g tb ⟨n, r, b, c⟩ σ H := h
/-- a comprehension over a range, its elements data -/
theorem z_lcRD {K : PySem.W.Frag} {H : Hp} {Q : VK} {σ : L2.St} {k : Nat} {te : TE} {vs : List Nat} (m : Nat) (ds : List PyData) (hl : ds.length = m) (hm : m ≤ 1000) (hw : ∀ x, wipe ((wipe σ vs).set k (some x)) vs = wipe σ vs) (ht : ∀ d ∈ ds, tupOnly d = true)
    (hs : ∀ (i : Nat) (H' : Hp) (R : VK), i < m → Same H H' → (∀ d, ds[i]? = some d → ∀ v H3, Same H' H3 → Dp K H3 v d → R v H3) → te ((wipe σ vs).set k (some (.int (i : Int)))) H' R)
    (hd : ∀ D acc H', H D = none → Same H H' → H' D = some (.lst acc) → DpAll K H' acc ds → Q (.ref D) H') : LcRE (gName k) tYes te vs σ Q [.int (m : Int)] H := by
  have tk : ∀ i, tupOnlyA (ds.take i) = true := fun i => tupOnly_all fun d h => ht d (List.mem_of_mem_take h)
  refine z_lcRr m hm hw (fun i D acc H' => Same H H' ∧ H D = none ∧ DpAll K H' acc (ds.take i)) (fun D H' f s _ => ⟨s, f, .nil⟩) (fun i D acc H' hi hl' hD ⟨s', fD, dA⟩ => ?_) (fun D acc H' fD hl' hD ⟨s', _, dA⟩ => ?_)
  · refine hs i H' _ hi s' fun d ed v H3 s3 dv => ?_
    refine z_lcB (s3 _ _ hD) hl' (by omega) fun H5 hD5 k5 e5 => ⟨fun b o h => ?_, fD, ?_⟩
    · rw [e5 b (ne_of_none h fD)]
      exact s3 _ _ (s' _ _ h)
    · have e6 : ds.take (i + 1) = ds.take i ++ [d] := by rw [List.take_add_one, ed]; rfl
      rw [e6]
      refine dp_kpA k5 (s3 _ _ hD) ?_ (dpa_snoc dv (dp_monoA s3 dA))
      rw [← e6]
      exact tk _
  · rw [← hl, List.take_length] at dA
    exact hd D acc H' fD s' hD dA
def stD (f : Fm) (u : Int) : PyData := .tuple [.str (kindS f u), fmD f]
def stsD (fs : List Fm) : List PyData := (List.range fs.length).map fun (k : Nat) => stD (atF fs (k : Int)) (k : Int)
theorem tup_fm (f : Fm) : tupOnly (fmD f) = true := by
  show (tupOnly (qD f.1) && (tupOnlyA (f.2.map tmD) && true)) = true
  rw [tup_tms]
  rfl
theorem tup_st (f : Fm) (u : Int) : tupOnly (stD f u) = true := by
  show (true && (tupOnly (fmD f) && true)) = true
  rw [tup_fm]
  rfl
theorem shaped_sts (fs : List Fm) : SeqAt.shaped (.list (stsD fs)) = true := by
  refine shaped_fl (n := 6) (fl_list fun d hd => ?_) (by decide)
  obtain ⟨k, _, rfl⟩ := List.mem_map.mp hd
  refine fl_tup fun d hd => ?_
  rcases List.mem_cons.mp hd with rfl | h
  · unfold kindS
    split
    · exact ⟨by decide +kernel, by decide⟩
    · split
      · exact ⟨by decide +kernel, by decide⟩
      · exact ⟨by decide +kernel, by decide⟩
  · cases List.mem_singleton.mp h
    exact fl_fm _
theorem eq_get {C : Addr} {K : PySem.W.Frag} {H : Hp} {p lp : Addr} {fs : List Fm} {k : Nat} (hk : k < fs.length) : fs[((k : Int)).toNat]? = some (atF fs (k : Int)) := atF_get (by omega) (by omega)
def sp__law_states (K : PySem.W.Frag) (A : Nat → Addr) : Sp := fun vs H Q _ => ∃ (p lp : Addr) (fs : List Fm), vs = [.ref p, .int (fs.length : Int)] ∧ EqL (A 6) K H p lp fs ∧ fs.length ≤ 80 ∧ ∀ D acc H', H D = none → Same H H' → H' D = some (.lst acc) → DpAll K H' acc (stsD fs) → Q (.ref D) H'
section
theorem ok__law_states {P : Program} {w : World} {K : PySem.W.Frag} {mg : Str → Option Value} {base : Heap} {A : Nat → Addr} {D : Nat → FuncData} (T : Txt K mg A D) : FnOk P w K mg base (L2.CX P w) 3 (A 34) (D 34) ["equations", "count"] (sp__law_states K A) := by
  refine T.F__law_states.okX sc__law_states (fun vs H Q E h => ?_) (fun cdv A' outer s H vs Q E hr h => ?_)
  · obtain ⟨p, lp, fs, rfl, _⟩ := h
    rfl
  obtain ⟨p, lp, fs, rfl, he, l80, q⟩ := h
  refine ⟨_, (pss_one (ps_ret (pe_lc (own := [("unknown", 2)]) (g := gName 2) (tt := tYes) rfl sc__law_states.nd (pi_range1 (by rfl) T.z_range (pa_cons (pv 1) pa_nil)) (blkOk_by (N := ["equations", "count", "unknown"]) (sc := defScope s__law_states) (by decide +kernel)) (fun _ _ _ _ _ => pg_name (i := 2) sc__law_states.nd rfl (Or.inl rfl)) (fun _ _ _ _ _ => pts_nil) (fun _ _ _ _ _ => (pe_tup (pa_cons (pe_meth (pv 0) T.q_Equations T.m_Equations_kind (Nn.toL (ok_Equations_kind T)) (hr.mono (by decide)) T.b_Equations_kind .nil passL (pa_cons (pv 2) pa_nil)) (pa_cons (pe_meth (pv 0) T.q_Equations T.m_Equations_form (Nn.toL (ok_Equations_form T)) (hr.mono (by decide)) T.b_Equations_form .nil passL (pa_cons (pv 2) pa_nil)) pa_nil))))))), ?_⟩
  walk_at "z"
  refine z_lcRE ?_
  walk_at "z"
  refine z_lcRD (K := K) fs.length (stsD fs) (by unfold stsD; rw [List.length_map, List.length_range]) (by omega) (fun _ => rfl) (fun d hd => ?_) (fun i H' R hi s' c => ?_) fun D acc H' fD s' hD dA => q D acc H' fD s' hD dA
  · obtain ⟨k, _, rfl⟩ := List.mem_map.mp hd
    exact tup_st _ _
  · have he' := he.mono s'
    obtain ⟨⟨dx, e⟩, _⟩ := id he'
    walk_at "z"
    refine Cw.z_meth e (Cw.look1n rfl) ?_
    walk_at "z"
    refine ⟨p, lp, fs, (i : Int), rfl, he', fun f H2 _ ef s2 => ?_, fun no => absurd ⟨by omega, by omega⟩ no⟩
    rw [atF_get (by omega) (by omega)] at ef
    cases ef
    walk_at "z"
    refine Cw.z_meth (s2 _ _ e) (Cw.look1n rfl) ?_
    walk_at "z"
    refine ⟨p, lp, fs, (i : Int), rfl, he'.mono s2, fun f v _ ef mv => ?_, fun no => absurd ⟨by omega, by omega⟩ no⟩
    rw [atF_get (by omega) (by omega)] at ef
    cases ef
    walk_at "z"
    intro p9 H9 f9 s9 h9
    refine c (stD (atF fs (i : Int)) (i : Int)) ?_ _ H9 (s2.trans s9) (dp_mk h9 (.cons (.str _) (.cons (dp_mono s9 mv.dp) .nil)))
    unfold stsD
    rw [List.getElem?_map, List.getElem?_range hi]
    rfl
end

/-! ### an unknown of a state -/
theorem J.bv {n : Nat} {x : Nat → Int} {r : Nat} {fs : List Fm} (j : J n x r fs) {k : Nat} (hk : k < n) : Bv n (atF fs (k : Int)) := by
  obtain ⟨D, d1, d2, ha⟩ := j.bd
  obtain ⟨_, q2, q3⟩ := dt_le r
  have za : ∀ l, Zb (aN fs k l) D (D + Nt r) := fun l => (zb_a (ha k hk · l)).le ba_le
  exact ⟨j.wf k hk, j.rg k hk, D, 9 * D + 45 * (D + Nt r), d1, by omega, by omega, zb_c (j.pl k hk) j.n5 j.x9 hk za, fun l => (za l).le (by omega)⟩
theorem kind_fr {fs : List Fm} {k : Nat} (h : Fr fs k) : kindS (atF fs (k : Int)) (k : Int) = "free" := by
  unfold kindS
  rw [h, if_neg (fun z => nomatch z), if_pos rfl]
theorem kind_kn {f : Fm} {u : Int} (h : f.2 = []) : kindS f u = "known" := by
  unfold kindS
  rw [if_pos h]
theorem kind_dp {fs : List Fm} {k : Nat} (h : ¬ (atF fs (k : Int)).2 = []) (h2 : ¬ Fr fs k) : kindS (atF fs (k : Int)) (k : Int) = "dependent" := by
  unfold kindS
  rw [if_neg h, if_neg (show ¬ (atF fs (k : Int) = (0, [((k : Int), 1)])) from h2)]
def sp__law_holds (K : PySem.W.Frag) (A : Nat → Addr) : Sp := fun vs H Q _ => ∃ (p lp l : Addr) (fs : List Fm) (k : Nat) (ws : List V) (xs : List Int) (r : Nat), vs = [.ref p, .int (k : Int), .int (fs.length : Int), .ref l] ∧ EqL (A 6) K H p lp fs ∧ H l = some (.lst ws) ∧ DpAll K H ws (xs.map valD) ∧ xs.length = fs.length ∧ k < fs.length ∧ J fs.length (iN xs) r fs ∧ (∀ z ∈ xs, z.natAbs ≤ 9) ∧ ∀ H', Same H H' → Q (.bl true) H'

/-! ### all tuples stay -/
def TupLike : HO → Prop
  | .tup _ => True
  | .frz _ (.tup _) => True
  | _ => False
def TK (H H' : Hp) : Prop := ∀ b o, TupLike o → H b = some o → H' b = some o
theorem TK.of {H H' : Hp} (s : Same H H') : TK H H' := fun b o _ e => s b o e
theorem TK.trans {H H1 H2 : Hp} (a : TK H H1) (b : TK H1 H2) : TK H H2 := fun x o t e => b x o t (a x o t e)
theorem TK.kp {H H' : Hp} {p : Addr} {o : HO} (k : Kp p H H') (hp : H p = some o) (n : ¬ TupLike o) : TK H H' := fun b x t e => k b x (fun z => by
  rw [z, hp] at e
  cases e
  exact n t) e
theorem seqT_tk {K : PySem.W.Frag} {H H' : Hp} {a : Addr} {xs : List V} (k : TK H H') (h : SqT K H a xs) : SqT K H' a xs := by
  rcases h with (h | ⟨o, h⟩) | h
  · exact .inl (.inl (k _ _ trivial h))
  · exact .inl (.inr ⟨o, k _ _ trivial h⟩)
  · exact .inr h
mutual
theorem dp_tk {K : PySem.W.Frag} {H H' : Hp} (k : TK H H') : ∀ {d : PyData} {v : V}, tupOnly d = true → Dp K H v d → Dp K H' v d
  | _, _, _, .non => .non
  | _, _, _, .bl b => .bl b
  | _, _, _, .int i => .int i
  | _, _, _, .str x => .str x
  | _, _, t, .lst h a => by simp [tupOnly] at t
  | _, _, t, .tup h a => .tup (seqT_tk k h) (dp_tkA k (by simpa [tupOnly] using t) a)
theorem dp_tkA {K : PySem.W.Frag} {H H' : Hp} (k : TK H H') : ∀ {ds : List PyData} {vs : List V}, tupOnlyA ds = true → DpAll K H vs ds → DpAll K H' vs ds
  | _, _, _, .nil => .nil
  | _, _, t, .cons h a => by
    have t' : (tupOnly _ && tupOnlyA _) = true := t
    rw [Bool.and_eq_true] at t'
    exact .cons (dp_tk k t'.1 h) (dp_tkA k t'.2 a)
end
theorem FmAt.tk {K : PySem.W.Frag} {H H' : Hp} {v : V} {f : Fm} (k : TK H H') (h : FmAt K H v f) : FmAt K H' v f := by
  obtain ⟨a, cv, t, vs, rfl, h1, h2, ⟨o, e, r⟩, h4⟩ := h
  exact ⟨a, cv, t, vs, rfl, seqT_tk k h1, dp_tk k (tup_q _) h2, ⟨o, k _ _ trivial e, r⟩, dp_tkA k (tup_tms _) h4⟩
theorem EqL.tk {C : Addr} {K : PySem.W.Frag} {H H' : Hp} {p lp : Addr} {fs : List Fm} (k : TK H H') (h : EqL C K H p lp fs) (e1 : ∀ o, H p = some o → H' p = some o) (e2 : ∀ o, H lp = some o → H' lp = some o) : EqL C K H' p lp fs := by
  obtain ⟨⟨dx, e⟩, vs, e3, l, a⟩ := h
  exact ⟨⟨dx, e1 _ e⟩, vs, e2 _ e3, l, fun i v f hv hf => (a i v f hv hf).tk k⟩
theorem Sd.notup {H0 H : Hp} {p : Addr} (S : Sd H0 H p) {H' : Hp} (k : Kp p H H') : TK H H' := by
  obtain ⟨a, b, m, e⟩ := S.stm
  exact TK.kp k e (fun z => z)
/-! ### rows of equations -/
structure IsDiff (n : Nat) (d L R : Fm) : Prop where
  wf : Wf d.2
  rg : ∀ t ∈ d.2, 0 ≤ t.1 ∧ t.1 < (n : Int)
  c : d.1 = L.1 - R.1
  k : ∀ u, cf d.2 u = cf L.2 u - cf R.2 u
structure RowP (n : Nat) (x : Nat → Int) (L R : Fm) : Prop where
  l : Ifm n 4 L
  r : Ifm n 4 R
  d : ∀ k, ∃ z : Int, dN L.2 k - dN R.2 k = (z : Rat) ∧ z.natAbs ≤ 3
  dc : ∃ z : Int, L.1 - R.1 = (z : Rat) ∧ z.natAbs ≤ 200
  hold : (L.1 - R.1) + sm n (fun k => (dN L.2 k - dN R.2 k) * (x k : Rat)) = 0
theorem RowP.ifm {n : Nat} {x : Nat → Int} {L R d : Fm} (P : RowP n x L R) (i : IsDiff n d L R) : Ifm n 3 d := ⟨i.wf, i.rg, by rw [i.c]; exact P.dc, fun k => by
  obtain ⟨z, h1, h2⟩ := P.d k
  exact ⟨z, by unfold dN at h1 ⊢; rw [i.k]; exact h1, h2⟩⟩
theorem RowP.holds {n : Nat} {x : Nat → Int} {L R d : Fm} (P : RowP n x L R) (i : IsDiff n d L R) : d.1 + sm n (fun k => dN d.2 k * (x k : Rat)) = 0 := by
  rw [i.c]
  have := P.hold
  rw [sm_congr (h := fun k => (dN L.2 k - dN R.2 k) * (x k : Rat)) fun k _ => by unfold dN; rw [i.k]]
  exact this
theorem fits_int {z : Int} (h : z.natAbs ≤ 1000) : fitsQ (z : Rat) := fits_zb (zb_i (D := 1) h) (by decide) (by decide) (by decide)
theorem Ifm.fit {n m : Nat} {d : Fm} (i : Ifm n m d) (hm : m ≤ 1000) : FitF d := by
  refine .of ?_ fun t ht => ?_
  · obtain ⟨z, h1, h2⟩ := i.c
    rw [h1]
    exact fits_int (by omega)
  · have rt := i.rg t ht
    obtain ⟨z, h1, h2⟩ := i.k t.1.toNat
    unfold dN at h1
    rw [at_nat rt.1, cf_mem i.wf.asc ht] at h1
    rw [h1]
    exact fits_int (by omega)
def rgU (n : Nat) : List Int := (List.range n).map fun (k : Nat) => (k : Int)
theorem rgU_mem {n : Nat} {u : Int} (h0 : 0 ≤ u) (h1 : u < (n : Int)) : u ∈ rgU n := List.mem_map.mpr ⟨u.toNat, List.mem_range.mpr (by omega), at_nat h0⟩
theorem rgU_len (n : Nat) : (rgU n).length = n := by unfold rgU; rw [List.length_map, List.length_range]
theorem mem_at {fs : List Fm} {f : Fm} (h : f ∈ fs) : ∃ k, k < fs.length ∧ f = atF fs ((k : Nat) : Int) := by
  obtain ⟨k, hk⟩ := List.mem_iff_getElem?.mp h
  have hl := (List.getElem?_eq_some_iff.mp hk).1
  refine ⟨k, hl, ?_⟩
  unfold atF
  rw [nn_cast, hk]
  rfl
theorem J.stu {n : Nat} {x : Nat → Int} {r : Nat} {fs : List Fm} (j : J n x r fs) : StU fs (rgU n) := by
  obtain ⟨D, d1, d2, ha⟩ := j.bd
  obtain ⟨_, q2, q3⟩ := dt_le r
  refine ⟨fun f hf => ?_, fun f hf => ?_, fun f hf => ?_, by have := j.n5; rw [rgU_len]; omega⟩
  · obtain ⟨k, hk, rfl⟩ := mem_at hf
    exact j.wf k (by rw [← j.len]; exact hk)
  · obtain ⟨k, hk, rfl⟩ := mem_at hf
    have hk : k < n := by rw [← j.len]; exact hk
    have za : ∀ l, Zb (aN fs k l) D (D + Nt r) := fun l => (zb_a (ha k hk · l)).le ba_le
    refine ⟨fits_zb (zb_c (j.pl k hk) j.n5 j.x9 hk za) d1 (by omega) (by omega), fun u => ?_⟩
    by_cases hu : 0 ≤ u
    · have := za u.toNat
      unfold aN at this
      rw [at_nat hu] at this
      exact fits_zb this d1 (by omega) (by omega)
    · rw [cf_none fun t ht e => by have := j.rg k hk t ht; omega]
      exact fits0
  · obtain ⟨k, hk, rfl⟩ := mem_at hf
    have hk : k < n := by rw [← j.len]; exact hk
    intro t ht
    have := j.rg k hk t ht
    exact rgU_mem this.1 this.2
theorem Ifm.fmu {n m : Nat} {fs : List Fm} {d : Fm} (i : Ifm n m d) (hm : m ≤ 1000) (l : fs.length = n) : FmU fs (rgU n) d := ⟨i.wf, i.fit hm, fun t ht => rgU_mem (i.rg t ht).1 (i.rg t ht).2, fun t ht => by rw [l]; exact i.rg t ht⟩
theorem RowP.oks {n : Nat} {x : Nat → Int} {L R : Fm} (P : RowP n x L R) : OkS L R := by
  refine ⟨?_, fun u => ?_⟩
  · obtain ⟨z, h1, h2⟩ := P.dc
    rw [h1]
    exact fits_int (by omega)
  · by_cases hu : 0 ≤ u
    · obtain ⟨z, h1, h2⟩ := P.d u.toNat
      unfold dN at h1
      rw [at_nat hu] at h1
      rw [h1]
      exact fits_int (by omega)
    · rw [cf_none fun t ht e => by have := P.l.rg t ht; omega, cf_none fun t ht e => by have := P.r.rg t ht; omega, Rat.sub_self]
      exact fits0
/-- an equation that holds is taken in -/
theorem eq_take {K : PySem.W.Frag} {A : Nat → Addr} {p lp n : Nat} {x : Nat → Int} {r : Nat} {fs : List Fm} {v w : V} {L R : Fm} {H : Hp} {Q : VK} {E : XK} (he : EqL (A 6) K H p lp fs) (hL : FmAt K H v L) (hR : FmAt K H w R) (j : J n x r fs) (P : RowP n x L R)
    (q0 : ∀ H', Same H H' → (∀ d, IsDiff n d L R → Zr n fs d) → Q (.bl false) H')
    (q1 : ∀ fs' lp' H', Kp p H H' → H lp' = none → EqL (A 6) K H' p lp' fs' → J n x (r + 1) fs' → (∀ d, IsDiff n d L R → Zr n fs' d) → (∀ d, Zr n fs d → Zr n fs' d) → Q (.bl true) H') : sp_equate K A [.ref p, v, w] H Q E := by
  have n5 := j.n5
  refine ⟨p, lp, fs, v, w, L, R, rgU n, rfl, he, hL, hR, j.stu, P.l.fmu (by decide) j.len, P.r.fmu (by decide) j.len, by rw [j.len]; omega, fun no => absurd P.oks no, fun _ d ud d1 d2 => ?_⟩
  have isd : IsDiff n d L R := ⟨ud.wf, fun t ht => by have := ud.rg t ht; rw [j.len] at this; exact this, d1, d2⟩
  have i3 := P.ifm isd
  have hold := P.holds isd
  have i4 : Ifm n 4 d := ⟨i3.wf, i3.rg, i3.c, fun k => by obtain ⟨z, h1, h2⟩ := i3.k k; exact ⟨z, h1, by omega⟩⟩
  have zeq : ∀ {fs : List Fm} {d d' : Fm}, IsDiff n d L R → IsDiff n d' L R → Zr n fs d → Zr n fs d' := fun i i' z => by
    have e : ∀ k, dN _ k = dN _ k := fun k => (show dN _ k = cf _ _ from rfl).trans ((i.k (k : Int)).trans (i'.k (k : Int)).symm)
    refine ⟨?_, fun l => ?_⟩
    · rw [i'.c, ← i.c, sm_congr fun k _ => by rw [← e k]]
      exact z.1
    · rw [sm_congr fun k _ => by rw [← e k]]
      exact z.2 l
  refine ⟨fun no => absurd (j.okR i4) no, fun _ F wF F1 F2 => ?_⟩
  have Rd := j.red i3 wF F1 F2
  refine ⟨fun e => ?_, fun init u k e => ?_⟩
  · have c0 := j.end0 Rd hold e
    exact ⟨fun _ H' s' => q0 H' s' fun d' i' => zeq isd i' (Rd.of_zr e c0), fun nz => absurd c0 nz⟩
  · refine ⟨fun no => absurd (step_d j i3 Rd e) no, fun _ g wg g1 g2 => ?_⟩
    obtain ⟨h0, G⟩ := rest_of Rd e wg g1 g2
    obtain ⟨ow, nxt⟩ := step_w j i3 Rd G hold
    rw [at_nat h0] at ow
    refine ⟨fun no => absurd ow no, fun _ fs' lp' H' k' f' e' N => ?_⟩
    obtain ⟨j', z', zs⟩ := nxt fs' (by rw [at_nat h0]; exact N)
    exact q1 fs' lp' H' k' f' e' j' (fun d' i' => zeq isd i' z') zs
theorem atF_fr0 {n k : Nat} (h : k < n) : atF (fr0 n) (k : Int) = (0, [((k : Int), 1)]) := by
  unfold atF fr0
  rw [nn_cast, List.getElem?_map, List.getElem?_range h]
  rfl
theorem fr0_len (n : Nat) : (fr0 n).length = n := by unfold fr0; rw [List.length_map, List.length_range]
/-- a new state -/
theorem J.new {n : Nat} {x : Nat → Int} (n5 : n ≤ 5) (x9 : ∀ k, k < n → (x k).natAbs ≤ 9) : J n x 0 (fr0 n) := by
  have fr : ∀ k, k < n → Fr (fr0 n) k := fun k hk => atF_fr0 hk
  refine ⟨fr0_len n, fun k hk => ?_, fun k hk t ht => ?_, fun k hk => .inl (fr k hk), fun k hk => ?_, ?_, ⟨1, Nat.le_refl _, Nat.le_refl _, fun k hk nf => absurd (fr k hk) nf⟩, n5, x9⟩
  · rw [atF_fr0 hk]
    refine ⟨List.pairwise_singleton _ _, fun t ht => ?_⟩
    rw [List.mem_singleton.mp ht]
    exact fun z => absurd (show (1 : Rat) = 0 from z) (by decide +kernel)
  · rw [atF_fr0 hk] at ht
    rw [List.mem_singleton.mp ht]
    exact ⟨by show (0 : Int) ≤ (k : Int); omega, by show (k : Int) < n; omega⟩
  · rw [(fr k hk).c, sm_delta (u := k) (fun l _ hl => by rw [(fr k hk).a, if_neg hl, Rat.zero_mul]) hk, (fr k hk).a, if_pos rfl, Rat.one_mul, Rat.zero_add]
  · unfold cnt
    have := smN_le (n := n) (h := fun k => if Fr (fr0 n) k then 0 else 1) (c := 0) fun k hk => by rw [if_pos (fr k hk)]; exact Nat.le_refl _
    omega
/-- an equation that the state keeps already says nothing new -/
theorem eq_again {K : PySem.W.Frag} {A : Nat → Addr} {p lp n : Nat} {x : Nat → Int} {r : Nat} {fs : List Fm} {v w : V} {L R : Fm} {H : Hp} {Q : VK} {E : XK} (he : EqL (A 6) K H p lp fs) (hL : FmAt K H v L) (hR : FmAt K H w R) (j : J n x r fs) (P : RowP n x L R)
    (z : ∀ d, IsDiff n d L R → Zr n fs d) (q0 : ∀ H', Same H H' → Q (.bl false) H') : sp_equate K A [.ref p, v, w] H Q E := by
  have n5 := j.n5
  refine ⟨p, lp, fs, v, w, L, R, rgU n, rfl, he, hL, hR, j.stu, P.l.fmu (by decide) j.len, P.r.fmu (by decide) j.len, by rw [j.len]; omega, fun no => absurd P.oks no, fun _ d ud d1 d2 => ?_⟩
  have isd : IsDiff n d L R := ⟨ud.wf, fun t ht => by have := ud.rg t ht; rw [j.len] at this; exact this, d1, d2⟩
  have i3 := P.ifm isd
  have i4 : Ifm n 4 d := ⟨i3.wf, i3.rg, i3.c, fun k => by obtain ⟨z, h1, h2⟩ := i3.k k; exact ⟨z, h1, by omega⟩⟩
  refine ⟨fun no => absurd (j.okR i4) no, fun _ F wF F1 F2 => ?_⟩
  have Rd := j.red i3 wF F1 F2
  obtain ⟨z1, z2⟩ := Rd.zr (z d isd)
  refine ⟨fun e => ⟨fun _ H' s' => q0 H' s', fun nz => absurd z2 nz⟩, fun init u k e => ?_⟩
  rw [z1] at e
  exact absurd e (by simp)
/-- the bounds of a reduced form -/
theorem J.bvF {n : Nat} {x : Nat → Int} {r : Nat} {fs : List Fm} {d F : Fm} (j : J n x r fs) (i : Ifm n 4 d) (R : Red n fs d F) : Bv n F := by
  obtain ⟨D, d1, d2, ha⟩ := j.bd
  obtain ⟨_, q2, q3⟩ := dt_le r
  have n5 := j.n5
  have za : ∀ k, k < n → ∀ l, Zb (aN fs k l) D (D + Nt r) := fun k hk l => (zb_a (ha k hk · l)).le ba_le
  have zc : ∀ k, k < n → Zb (cN fs k) D (9 * D + 45 * (D + Nt r)) := fun k hk => zb_c (j.pl k hk) n5 j.x9 hk (za k hk)
  refine ⟨R.wf, R.rg, D, 200 * D + 20 * (9 * D + 45 * (D + Nt r)), d1, by omega, by omega, ?_, fun l => ?_⟩
  · rw [R.c]
    obtain ⟨z0, ec, hc⟩ := i.c
    have h1 := zb_sm (n := n) (D := D) (g := fun k => cN fs k * dN d.2 k) (h := fun _ => (9 * D + 45 * (D + Nt r)) * 4) fun k hk => by
      obtain ⟨z, e, hz⟩ := i.k k
      rw [e]
      exact zb_mi (zc k hk) hz
    have h2 := smN_le (n := n) (h := fun _ => (9 * D + 45 * (D + Nt r)) * 4) (c := (9 * D + 45 * (D + Nt r)) * 4) fun _ _ => Nat.le_refl _
    have h3 : n * ((9 * D + 45 * (D + Nt r)) * 4) ≤ 5 * ((9 * D + 45 * (D + Nt r)) * 4) := Nat.mul_le_mul_right _ n5
    rw [ec]
    exact (zb_add (zb_i hc) h1).le (by omega)
  · rw [R.k]
    have h1 := zb_sm (n := n) (D := D) (g := fun k => aN fs k l * dN d.2 k) (h := fun _ => (D + Nt r) * 4) fun k hk => by
      obtain ⟨z, e, hz⟩ := i.k k
      rw [e]
      exact zb_mi (za k hk l) hz
    have h2 := smN_le (n := n) (h := fun _ => (D + Nt r) * 4) (c := (D + Nt r) * 4) fun _ _ => Nat.le_refl _
    have h3 : n * ((D + Nt r) * 4) ≤ 5 * ((D + Nt r) * 4) := Nat.mul_le_mul_right _ n5
    exact h1.le (by omega)
theorem Ifm.bv {n m : Nat} {d : Fm} (i : Ifm n m d) (hm : m ≤ 1000) : Bv n d := by
  refine ⟨i.wf, i.rg, 1, 1000, by decide, by decide, by decide, ?_, fun k => ?_⟩
  · obtain ⟨z, e, hz⟩ := i.c
    rw [e]
    exact (zb_i (D := 1) hz).le (by decide)
  · obtain ⟨z, e, hz⟩ := i.k k
    rw [e]
    exact (zb_i (D := 1) hz).le (by omega)
/-! ### the state is told by its solutions -/
def Hold (n : Nat) (y : Nat → Rat) (fs : List Fm) : Prop := ∀ k, k < n → cN fs k + sm n (fun l => aN fs k l * y l) = y k
section
variable {n : Nat} {x : Nat → Int} {r r1 r2 : Nat} {fs fs' fs1 fs2 : List Fm} {d F g : Fm} {u' : Nat} {q : Rat} {y : Nat → Rat}
theorem val_y (h : Hold n y fs) (R : Red n fs d F) : F.1 + sm n (fun l => dN F.2 l * y l) = d.1 + sm n fun k => dN d.2 k * y k := by
  have e1 : sm n (fun l => dN F.2 l * y l) = sm n fun k => dN d.2 k * sm n fun l => aN fs k l * y l := by
    rw [sm_congr (h := fun l => sm n fun k => aN fs k l * dN d.2 k * y l) fun l _ => by rw [R.k, sm_mul], sm_swap]
    refine sm_congr fun k _ => ?_
    rw [Rat.mul_comm, ← sm_mul]
    exact sm_congr fun l _ => by grind
  rw [R.c, e1, Rat.add_assoc, ← sm_add]
  congr 1
  refine sm_congr fun k hk => ?_
  have := h k hk
  grind
theorem rest_y (h : Hold n y fs) (R : Red n fs d F) (G : Rest n F u' q g) (e : d.1 + sm n (fun k => dN d.2 k * y k) = 0) : g.1 + sm n (fun l => dN g.2 l * y l) = y u' := by
  have v := val_y h R
  rw [e] at v
  have e1 : sm n (fun l => dN F.2 l * y l * (((-1 : Int) : Rat) / q)) = sm n (fun l => dN g.2 l * y l) + sm n fun l => if l = u' then -(y u') else 0 := by
    rw [← sm_add]
    refine sm_congr fun l _ => ?_
    rw [G.k]
    by_cases e : l = u'
    · rw [if_pos e, if_pos e, e, G.qu]
      have := G.qw
      grind
    · rw [if_neg e, if_neg e]
      grind
  rw [sm_delta (g := fun l => if l = u' then -(y u') else 0) (u := u') (fun l _ hl => by rw [if_neg hl]) G.un, if_pos rfl, sm_mul] at e1
  rw [G.c]
  grind
theorem next_y (j : J n x r fs) (N : NextF fs g (u' : Int) fs') (f : Fr fs u') (hu : u' < n) (h : Hold n y fs) (pg : g.1 + sm n (fun l => dN g.2 l * y l) = y u') : Hold n y fs' := by
  intro k hk
  have e1 : sm n (fun l => aN fs' k l * y l) = sm n (fun l => aN fs k l * y l) + sm n (fun l => if l = u' then -(aN fs k u' * y u') else 0) + sm n fun l => dN g.2 l * y l * aN fs k u' := by
    rw [← sm_add, ← sm_add]
    refine sm_congr fun l _ => ?_
    rw [next_a j N f hk]
    by_cases e : l = u'
    · rw [if_pos e, if_pos e, e]
      grind
    · rw [if_neg e, if_neg e]
      grind
  rw [e1, sm_delta (g := fun l => if l = u' then -(aN fs k u' * y u') else 0) (u := u') (fun l _ hl => by rw [if_neg hl]) hu, if_pos rfl, sm_mul, next_c j N f hk]
  have := h k hk
  grind
/-- a point of the solutions -/
def Yp (n : Nat) (fs : List Fm) (p : Nat → Rat) : Nat → Rat := fun k => cN fs k + sm n fun l => aN fs k l * p l
theorem Yp.free (h : Fr fs k) (hk : k < n) (p : Nat → Rat) : Yp n fs p k = p k := by
  unfold Yp
  rw [h.c, sm_delta (u := k) (fun l _ hl => by rw [h.a, if_neg hl, Rat.zero_mul]) hk, h.a, if_pos rfl, Rat.one_mul, Rat.zero_add]
theorem J.fr' (j : J n x r fs) {k l : Nat} (hk : k < n) (h : aN fs k l ≠ 0) : Fr fs l := by
  rcases j.fr k hk with f | s
  · rw [f.a] at h
    by_cases e : l = k
    · rw [e]
      exact f
    · exact absurd (if_neg e) h
  · exact (s l h).2
theorem J.low (j : J n x r fs) {k l : Nat} (hk : k < n) (h : aN fs k l ≠ 0) : l ≤ k := by
  rcases j.fr k hk with f | s
  · rw [f.a] at h
    by_cases e : l = k
    · omega
    · exact absurd (if_neg e) h
  · exact Nat.le_of_lt (s l h).1
theorem Yp.hold (j : J n x r fs) (p : Nat → Rat) : Hold n (Yp n fs p) fs := by
  intro k hk
  show _ = cN fs k + _
  congr 1
  refine sm_congr fun l hl => ?_
  by_cases z : aN fs k l = 0
  · rw [z, Rat.zero_mul, Rat.zero_mul]
  · rw [Yp.free (j.fr' hk z) hl]
def dl (k : Nat) : Nat → Rat := fun l => if l = k then 1 else 0
theorem Yp.dl {k l : Nat} (hl : l < n) : Yp n fs (dl l) k = cN fs k + aN fs k l := by
  unfold Yp
  rw [sm_delta (u := l) (fun m _ hm => by unfold G.dl; rw [if_neg hm, Rat.mul_zero]) hl]
  unfold G.dl
  rw [if_pos rfl, Rat.mul_one]
theorem Yp.z {k : Nat} : Yp n fs (fun _ => 0) k = cN fs k := by
  unfold Yp
  rw [sm_zero fun l _ => Rat.mul_zero _, Rat.add_zero]
theorem free_of (j1 : J n x r1 fs1) (j2 : J n x r2 fs2) (h : ∀ y, Hold n y fs2 → Hold n y fs1) {k : Nat} (hk : k < n) (f : Fr fs2 k) : Fr fs1 k := by
  refine Decidable.byContradiction fun nf => ?_
  have s := (j1.fr k hk).resolve_left nf
  have same : ∀ l, l < k → Yp n fs2 (dl k) l = Yp n fs2 (fun _ => 0) l := fun l hl => by
    rw [Yp.dl hk, Yp.z]
    have : aN fs2 l k = 0 := Decidable.byContradiction fun z => by
      have := j2.low (k := l) (by omega) z
      omega
    rw [this, Rat.add_zero]
  have h1 := h _ (Yp.hold j2 (dl k)) k hk
  have h0 := h _ (Yp.hold j2 fun _ => 0) k hk
  rw [sm_congr (h := fun l => aN fs1 k l * Yp n fs2 (fun _ => 0) l) fun l _ => by
    by_cases z : aN fs1 k l = 0
    · rw [z, Rat.zero_mul, Rat.zero_mul]
    · rw [same l (s l z).1], h0, Yp.z, Yp.dl hk, f.c, f.a, if_pos rfl] at h1
  exact absurd h1 (by decide +kernel)
theorem uniq (j1 : J n x r1 fs1) (j2 : J n x r2 fs2) (h12 : ∀ y, Hold n y fs1 → Hold n y fs2) (h21 : ∀ y, Hold n y fs2 → Hold n y fs1) : fs1 = fs2 := by
  have at_ : ∀ k, k < n → atF fs1 (k : Int) = atF fs2 (k : Int) := fun k hk => by
    by_cases f : Fr fs1 k
    · have f2 := free_of j2 j1 h12 hk f
      unfold Fr at f f2
      rw [f, f2]
    · have nf2 : ¬ Fr fs2 k := fun z => f (free_of j1 j2 h21 hk z)
      have s1 := (j1.fr k hk).resolve_left f
      have s2 := (j2.fr k hk).resolve_left nf2
      have key : ∀ p : Nat → Rat, cN fs2 k + sm n (fun l => aN fs2 k l * p l) = Yp n fs1 p k := fun p => by
        rw [← h12 _ (Yp.hold j1 p) k hk]
        congr 1
        refine sm_congr fun l hl => ?_
        by_cases z : aN fs2 k l = 0
        · rw [z, Rat.zero_mul, Rat.zero_mul]
        · rw [Yp.free (free_of j1 j2 h21 hl (s2 l z).2) hl]
      have c : cN fs2 k = cN fs1 k := by
        have := key fun _ => 0
        rw [Yp.z, sm_zero fun l _ => Rat.mul_zero _, Rat.add_zero] at this
        exact this
      have a : ∀ l, l < n → aN fs2 k l = aN fs1 k l := fun l hl => by
        have := key (dl l)
        rw [Yp.dl hl, sm_delta (u := l) (fun m _ hm => by unfold dl; rw [if_neg hm, Rat.mul_zero]) hl, c] at this
        unfold dl at this
        rw [if_pos rfl, Rat.mul_one] at this
        grind
      refine Prod.ext c.symm (wf_ext (j1.wf k hk) (j2.wf k hk) fun u => ?_)
      by_cases hu : 0 ≤ u ∧ u < (n : Int)
      · have := a u.toNat (by omega)
        unfold aN at this
        rw [at_nat hu.1] at this
        exact this.symm
      · rw [cf_none fun t ht e => hu (by rw [← e]; exact j1.rg k hk t ht), cf_none fun t ht e => hu (by rw [← e]; exact j2.rg k hk t ht)]
  apply List.ext_getElem?
  intro i
  by_cases hi : i < n
  · have e1 := atF_get (fs := fs1) (k := (i : Int)) (by omega) (by rw [j1.len]; omega)
    have e2 := atF_get (fs := fs2) (k := (i : Int)) (by omega) (by rw [j2.len]; omega)
    rw [nn_cast] at e1 e2
    rw [e1, e2, at_ i hi]
  · rw [List.getElem?_eq_none (by rw [j1.len]; omega), List.getElem?_eq_none (by rw [j2.len]; omega)]
/-! ### rows as factors -/
def rowC (n : Nat) (x : Nat → Int) (e : Nat → Int) : Rat := -sm n fun k => (e k : Rat) * (x k : Rat)
def HdE (n : Nat) (x : Nat → Int) (y : Nat → Rat) (e : Nat → Int) : Prop := rowC n x e + sm n (fun k => (e k : Rat) * y k) = 0
def ZrE (n : Nat) (x : Nat → Int) (fs : List Fm) (e : Nat → Int) : Prop := rowC n x e + sm n (fun k => cN fs k * (e k : Rat)) = 0 ∧ ∀ l : Nat, sm n (fun k => aN fs k l * (e k : Rat)) = 0
/-- every solution of the state solves what it keeps -/
theorem ZrE.hd {e : Nat → Int} (z : ZrE n x fs e) (h : Hold n y fs) : HdE n x y e := by
  have e1 : sm n (fun k => (e k : Rat) * y k) = sm n (fun k => cN fs k * (e k : Rat)) + sm n fun l => (sm n fun k => aN fs k l * (e k : Rat)) * y l := by
    rw [sm_congr (g := fun l => (sm n fun k => aN fs k l * (e k : Rat)) * y l) (h := fun l => sm n fun k => aN fs k l * (e k : Rat) * y l) fun l _ => by rw [sm_mul], sm_swap, ← sm_add]
    refine sm_congr fun k hk => ?_
    rw [← h k hk]
    have : sm n (fun l => aN fs k l * (e k : Rat) * y l) = (sm n fun l => aN fs k l * y l) * (e k : Rat) := by
      rw [← sm_mul]
      exact sm_congr fun l _ => by grind
    rw [this]
    grind
  unfold HdE
  rw [e1, sm_zero (g := fun l => (sm n fun k => aN fs k l * (e k : Rat)) * y l) fun l _ => by rw [z.2, Rat.zero_mul], Rat.add_zero]
  exact z.1
/-- the state behind the equations of some rows -/
structure RunI (n : Nat) (x : Nat → Int) (fs : List Fm) (S : (Nat → Int) → Prop) : Prop where
  j : ∃ r, J n x r fs
  z : ∀ e, S e → ZrE n x fs e
  h : ∀ y, (∀ e, S e → HdE n x y e) → Hold n y fs
theorem RunI.uniq {S : (Nat → Int) → Prop} (a : RunI n x fs1 S) (b : RunI n x fs2 S) : fs1 = fs2 := by
  obtain ⟨_, j1⟩ := a.j
  obtain ⟨_, j2⟩ := b.j
  exact G.uniq j1 j2 (fun y h => b.h y fun e s => (a.z e s).hd h) fun y h => a.h y fun e s => (b.z e s).hd h
theorem RunI.new (n5 : n ≤ 5) (x9 : ∀ k, k < n → (x k).natAbs ≤ 9) : RunI n x (fr0 n) fun _ => False := by
  refine ⟨⟨0, J.new n5 x9⟩, fun _ h => h.elim, fun y _ k hk => ?_⟩
  have f : Fr (fr0 n) k := atF_fr0 hk
  rw [f.c, sm_delta (u := k) (fun l _ hl => by rw [f.a, if_neg hl, Rat.zero_mul]) hk, f.a, if_pos rfl, Rat.one_mul, Rat.zero_add]
/-- the sides of a row's equation -/
structure RowE (n : Nat) (x : Nat → Int) (e : Nat → Int) (L R : Fm) : Prop where
  p : RowP n x L R
  c : L.1 - R.1 = rowC n x e
  k : ∀ k : Nat, dN L.2 k - dN R.2 k = (e k : Rat)
theorem RowE.dk {e : Nat → Int} {L R : Fm} (P : RowE n x e L R) (i : IsDiff n d L R) (k : Nat) : dN d.2 k = (e k : Rat) := by
  have := P.k k
  unfold dN at this ⊢
  rw [i.k]
  exact this
theorem RowE.zr {e : Nat → Int} {L R : Fm} (P : RowE n x e L R) (i : IsDiff n d L R) : Zr n fs d ↔ ZrE n x fs e := by
  unfold Zr ZrE
  rw [i.c, P.c, sm_congr (g := fun k => cN fs k * dN d.2 k) (h := fun k => cN fs k * (e k : Rat)) fun k _ => by rw [P.dk i]]
  refine and_congr Iff.rfl (forall_congr' fun l => ?_)
  rw [sm_congr (g := fun k => aN fs k l * dN d.2 k) (h := fun k => aN fs k l * (e k : Rat)) fun k _ => by rw [P.dk i]]
theorem zrE_next (j : J n x r fs) (N : NextF fs g (u' : Int) fs') (f : Fr fs u') {e : Nat → Int} (z : ZrE n x fs e) : ZrE n x fs' e := by
  refine ⟨?_, fun l => ?_⟩
  · rw [next_sumC j N f, z.2, Rat.mul_zero, Rat.add_zero]
    exact z.1
  · rw [next_sumA j N f, z.2 u', Rat.mul_zero, Rat.add_zero, z.2]
    split <;> rfl
/-- an equation that holds is taken in -/
theorem eq_takeE {K : PySem.W.Frag} {A : Nat → Addr} {p lp : Nat} {v w : V} {L R : Fm} {e : Nat → Int} {S : (Nat → Int) → Prop} {H : Hp} {Q : VK} {E : XK} (he : EqL (A 6) K H p lp fs) (hL : FmAt K H v L) (hR : FmAt K H w R) (I : RunI n x fs S) (P : RowE n x e L R)
    (q1 : ∀ b fs' lp' H', Kp p H H' → (lp' = lp ∨ H lp' = none) → EqL (A 6) K H' p lp' fs' → RunI n x fs' (fun e' => S e' ∨ e' = e) → Q (.bl b) H') : sp_equate K A [.ref p, v, w] H Q E := by
  obtain ⟨r, j⟩ := I.j
  have n5 := j.n5
  refine ⟨p, lp, fs, v, w, L, R, rgU n, rfl, he, hL, hR, j.stu, P.p.l.fmu (by decide) j.len, P.p.r.fmu (by decide) j.len, by rw [j.len]; omega, fun no => absurd P.p.oks no, fun _ d ud d1 d2 => ?_⟩
  have isd : IsDiff n d L R := ⟨ud.wf, fun t ht => by have := ud.rg t ht; rw [j.len] at this; exact this, d1, d2⟩
  have i3 := P.p.ifm isd
  have hold := P.p.holds isd
  have i4 : Ifm n 4 d := ⟨i3.wf, i3.rg, i3.c, fun k => by obtain ⟨z, h1, h2⟩ := i3.k k; exact ⟨z, h1, by omega⟩⟩
  refine ⟨fun no => absurd (j.okR i4) no, fun _ F wF F1 F2 => ?_⟩
  have Rd := j.red i3 wF F1 F2
  refine ⟨fun e0 => ?_, fun init u k e0 => ?_⟩
  · have c0 := j.end0 Rd hold e0
    refine ⟨fun _ H' s' => q1 false fs lp H' (kp_of s') (.inl rfl) (he.mono s') ⟨⟨r, j⟩, fun e' h' => ?_, fun y hy => I.h y fun e' h' => hy e' (.inl h')⟩, fun nz => absurd c0 nz⟩
    rcases h' with h' | rfl
    · exact I.z e' h'
    · exact (P.zr isd).mp (Rd.of_zr e0 c0)
  · refine ⟨fun no => absurd (step_d j i3 Rd e0) no, fun _ g wg g1 g2 => ?_⟩
    obtain ⟨h0, G⟩ := rest_of Rd e0 wg g1 g2
    obtain ⟨ow, nxt⟩ := step_w j i3 Rd G hold
    rw [at_nat h0] at ow
    refine ⟨fun no => absurd ow no, fun _ fs' lp' H' k' f' e' N => ?_⟩
    have N' : NextF fs g ((u.toNat : Nat) : Int) fs' := by rw [at_nat h0]; exact N
    obtain ⟨j', z', zs⟩ := nxt fs' N'
    have fu : Fr fs u.toNat := j.free Rd (by rw [G.qu]; exact G.q0)
    refine q1 true fs' lp' H' k' (.inr f') e' ⟨⟨r + 1, j'⟩, fun e2 h2 => ?_, fun y hy => ?_⟩
    · rcases h2 with h2 | rfl
      · exact zrE_next j N' fu (I.z e2 h2)
      · exact (P.zr isd).mp z'
    · have hh := I.h y fun e2 h2 => hy e2 (.inl h2)
      refine next_y j N' fu G.un hh (rest_y hh Rd G ?_)
      have := hy e (.inr rfl)
      unfold HdE at this
      rw [isd.c, P.c, sm_congr (h := fun k => (e k : Rat) * y k) fun k _ => by rw [P.dk isd]]
      exact this
/-- an equation with the factors of one that is kept, and another constant -/
theorem eq_contra {K : PySem.W.Frag} {A : Nat → Addr} {p lp : Nat} {v w : V} {L R : Fm} {e : Nat → Int} {S : (Nat → Int) → Prop} {H : Hp} {Q : VK} {E : XK} (he : EqL (A 6) K H p lp fs) (hL : FmAt K H v L) (hR : FmAt K H w R) (I : RunI n x fs S) (z : ZrE n x fs e)
    (iL : Ifm n 4 L) (iR : Ifm n 4 R) (hk : ∀ k : Nat, dN L.2 k - dN R.2 k = (e k : Rat)) (eb : ∀ k, (e k).natAbs ≤ 3) (hc : L.1 - R.1 = rowC n x e + 1) (hci : ∃ c : Int, L.1 - R.1 = (c : Rat) ∧ c.natAbs ≤ 200)
    (q1 : ∀ H', Same H H' → E (.ref (A 3)) none H') : sp_equate K A [.ref p, v, w] H Q E := by
  obtain ⟨r, j⟩ := I.j
  have n5 := j.n5
  have oks : OkS L R := by
    obtain ⟨c, h1, h2⟩ := hci
    refine ⟨by rw [h1]; exact fits_int (by omega), fun u => ?_⟩
    by_cases hu : 0 ≤ u
    · have h1 := hk u.toNat
      unfold dN at h1
      rw [at_nat hu] at h1
      rw [h1]
      exact fits_int (by have := eb u.toNat; omega)
    · rw [cf_none fun t ht e => by have := iL.rg t ht; omega, cf_none fun t ht e => by have := iR.rg t ht; omega, Rat.sub_self]
      exact fits0
  refine ⟨p, lp, fs, v, w, L, R, rgU n, rfl, he, hL, hR, j.stu, iL.fmu (by decide) j.len, iR.fmu (by decide) j.len, by rw [j.len]; omega, fun no => absurd oks no, fun _ d ud d1 d2 => ?_⟩
  have dk : ∀ k, dN d.2 k = (e k : Rat) := fun k => by
    have := hk k
    unfold dN at this ⊢
    rw [d2]
    exact this
  have i4 : Ifm n 4 d := ⟨ud.wf, fun t ht => by have := ud.rg t ht; rw [j.len] at this; exact this, by rw [d1]; exact hci, fun k => ⟨e k, dk k, by have := eb k; omega⟩⟩
  refine ⟨fun no => absurd (j.okR i4) no, fun _ F wF F1 F2 => ?_⟩
  have Rd := j.red i4 wF F1 F2
  have F20 : F.2 = [] := by
    cases h : F.2 with
    | nil => rfl
    | cons t rr =>
      have ht : t ∈ F.2 := by rw [h]; exact .head _
      have h0 := Rd.rg t ht
      have h1 := Rd.k t.1.toNat
      rw [sm_congr (h := fun k => aN fs k t.1.toNat * (e k : Rat)) fun k _ => by rw [dk], z.2] at h1
      unfold dN at h1
      rw [at_nat h0.1, cf_mem Rd.wf.asc ht] at h1
      exact absurd h1 (Rd.wf.nz t ht)
  have F11 : F.1 = 1 := by
    have z1 := z.1
    rw [Rd.c, sm_congr (h := fun k => cN fs k * (e k : Rat)) fun k _ => by rw [dk], d1, hc]
    grind
  refine ⟨fun _ => ⟨fun z0 => absurd (F11.symm.trans z0) (by decide +kernel), fun _ H' s' => q1 H' s'⟩, fun init u k e0 => ?_⟩
  rw [F20] at e0
  exact absurd e0 (by simp)
end
/-! ### an order of a list -/
theorem perm_erase {α : Type} : ∀ {l : List α} {k : Nat} (h : k < l.length), (l[k] :: l.eraseIdx k).Perm l
  | [], _, h => absurd h (Nat.not_lt_zero _)
  | a :: l, 0, _ => .refl _
  | a :: l, k + 1, h => by
    have ih := perm_erase (l := l) (k := k) (Nat.lt_of_succ_lt_succ h)
    show (l[k]'(Nat.lt_of_succ_lt_succ h) :: a :: l.eraseIdx k).Perm (a :: l)
    exact (List.Perm.swap _ _ _).trans (ih.cons a)
theorem z_popAt {p : Addr} {xs : List V} {y : V} {i : Int} {H : Hp} {Q : VK} (hp : H p = some (.lst xs)) (h0 : 0 ≤ i) (hl : xs.length ≤ 1000) (hy : xs[i.toNat]? = some y) (q : Q y (upd H p (.lst (xs.eraseIdx i.toNat)))) : rPopAt (.ref p) [.int i] H Q := by
  have hi := (List.getElem?_eq_some_iff.mp hy).1
  exact ⟨p, xs, i, i.toNat, y, rfl, rfl, hp, by omega, by omega, seqIndex_of h0 (by omega), hy, q⟩
def sp__law_order (K : PySem.W.Frag) : Sp := fun vs H Q _ => ∃ (p a : Addr) (xs : List V) (H0 : Hp), vs = [.ref p, .ref a] ∧ Sd H0 H p ∧ a ≠ p ∧ H a = some (.lst xs) ∧ xs.length ≤ 100 ∧
  ∀ D ys H', H D = none → D ≠ p → Sd H0 H' p → Kp p H H' → H' D = some (.lst ys) → ys.Perm xs → Q (.ref D) H'
section
theorem ok__law_order {P : Program} {w : World} {K : PySem.W.Frag} {mg : Str → Option Value} {base : Heap} {A : Nat → Addr} {D : Nat → FuncData} (T : Txt K mg A D) : FnOk P w K mg base (L2.CX P w) 2 (A 33) (D 33) ["stream", "rows"] (sp__law_order K) := by
  refine T.F__law_order.okX sc__law_order (fun vs H Q E h => ?_) (fun cdv A' outer s H vs Q E hr h => ?_)
  · obtain ⟨p, a, xs, H0, rfl, _⟩ := h
    rfl
  obtain ⟨p, a, xs, H0, rfl, S, nap, ha, la, q⟩ := h
  refine ⟨_, (pss_cons (ps_set (i := 2) sc__law_order.nd rfl (.inl rfl) (pe_callTy Z.c_listOf (by rfl) T.z_list (by decide +kernel) (pa_cons (pv 1) pa_nil)))
  (pss_cons (ps_set (i := 3) sc__law_order.nd rfl (.inl rfl) (pe_lst pa_nil))
  (pss_cons (ps_for (passes_of rfl) rfl (pi_range1 (by rfl) T.z_range (pa_cons (pe_callB Z.c_len (by rfl) T.z_len (by decide +kernel) (pa_cons (pv 1) pa_nil)) pa_nil)) (pg_name (i := 4) sc__law_order.nd rfl (.inl rfl))
  (pss_one (ps_expr (pe_bm PySem.F.plainAttrs_list PySem.F.slot_list_append PySem.F.type_list_append mt_append (pv 3) (pa_cons (pe_bm PySem.F.plainAttrs_list PySem.F.slot_list_pop PySem.F.type_list_pop mt_popAt (pv 2) (pa_cons (pe_call (ok__law_next T) (hr.mono (by decide)) (by rfl) T.m__law_next T.F__law_next.kp T.b__law_next .nil (passes_call (takes_of rfl rfl rfl rfl) (fun _ _ _ _ h => h)) (pa_cons (pv 0) (pa_cons (pe_callB Z.c_len (by rfl) T.z_len (by decide +kernel) (pa_cons (pv 2) pa_nil)) pa_nil))) pa_nil)) pa_nil)))))
  (pss_one (ps_ret (pv 3)))))), ?_⟩
  walk_at "z"
  refine z_listOf (.inl (.inl ha)) fun D1 H1 f1 s1 h1 => ?_
  walk_at "z"
  intro D2 H2 f2 s2 h2
  walk_at "z"
  have hD1 := s2 _ _ h1
  have n12 : D1 ≠ D2 := ne_of_none h1 f2
  have f2H : H D2 = none := fresh_of s1 f2
  have na1 : a ≠ D1 := ne_of_none ha f1
  have na2 : a ≠ D2 := ne_of_none ha f2H
  have np1 : D1 ≠ p := S.ne0 f1
  have np2 : D2 ≠ p := S.ne0 f2H
  have s12 := s1.trans s2
  have f10 := S.none0 f1
  have f20 := S.none0 f2H
  refine z_forR1 xs.length (by omega) (fun R q => by
    walk_at "z"
    refine z_lenL (.inl (.inl (s12 _ _ ha))) ?_
    walk_at "z"
    exact q) (fun i σ' H' => Sd H0 H' p ∧ Kp3 p D1 D2 H2 H' ∧ (∃ x4, σ' = [some (.ref p), some (.ref a), some (.ref D1), some (.ref D2), x4]) ∧
      ∃ rs os : List V, os.length = i ∧ H' D1 = some (.lst rs) ∧ H' D2 = some (.lst os) ∧ (os ++ rs).Perm xs)
    ⟨S.mono s12, fun _ _ _ _ _ e => e, ⟨_, rfl⟩, xs, [], rfl, hD1, h2, .refl _⟩ ?_ ?_
  · rintro i σ' H' hi ⟨S', k', ⟨x4, rfl⟩, rs, os, lo, e1, e2, pm⟩
    have ll : os.length + rs.length = xs.length := by rw [← List.length_append]; exact pm.length_eq
    walk_at "z"
    refine z_bmL (fun R q => by walk_at "z"; exact q) e2 ?_
    walk_at "z"
    refine z_bmL (fun R q => by walk_at "z"; exact q) e1 ?_
    walk_at "z"
    refine nx S' (by omega) (lt1000 (by omega)) fun z H3 z0 z1 S3 e3 => ?_
    have g1 : H3 D1 = some (.lst rs) := by rw [e3 _ np1]; exact e1
    have g2 : H3 D2 = some (.lst os) := by rw [e3 _ np2]; exact e2
    have hz : z.toNat < rs.length := by omega
    have hy : rs[z.toNat]? = some rs[z.toNat] := List.getElem?_eq_getElem hz
    walk_at "z"
    refine z_popAt g1 z0 (by omega) hy ?_
    walk_at "z"
    have g2' : upd H3 D1 (.lst (rs.eraseIdx z.toNat)) D2 = some (.lst os) := by
      rw [upd_ne (Ne.symm n12)]; exact g2
    refine z_append g2' (by omega) ?_
    walk_at "z"
    refine ⟨(S3.put f10 np1).put f20 np2, fun b o hb h1 h2 h => ?_, ⟨_, rfl⟩, rs.eraseIdx z.toNat, os ++ [rs[z.toNat]], by rw [List.length_append, lo]; rfl, ?_, upd_same, ?_⟩
    · rw [upd_ne h2, upd_ne h1, e3 b hb]
      exact k' b o hb h1 h2 h
    · rw [upd_ne n12, upd_same]
    · rw [List.append_assoc]
      exact ((perm_erase hz).append_left os).trans pm
  · rintro σ' H' ⟨S', k', ⟨x4, rfl⟩, rs, os, lo, e1, e2, pm⟩
    walk_at "z"
    have ll : os.length + rs.length = xs.length := by rw [← List.length_append]; exact pm.length_eq
    have r0 : rs = [] := List.eq_nil_of_length_eq_zero (by omega)
    subst r0
    rw [List.append_nil] at pm
    refine q D2 os H' f2H np2 S' (fun b o hb h => k' b o hb (ne_of_none h f1) (ne_of_none h f2H) (s12 _ _ h)) e2 pm
end
/-! ### rows (as in k06) -/
theorem sum_sm (e x : Nat → Int) (n : Nat) : ((((List.range n).map fun k => e k * x k).sum : Int) : Rat) = sm n fun k => (e k : Rat) * (x k : Rat) := by
  induction n with
  | zero => rfl
  | succ n ih =>
    rw [List.range_succ, List.map_append, List.sum_append]
    show (((((List.range n).map fun k => e k * x k).sum + ([e n * x n] : List Int).sum : Int)) : Rat) = sm n _ + _
    rw [Rat.intCast_add, ih, List.sum_singleton, Rat.intCast_mul]
theorem sum_le (e x : Nat → Int) {n : Nat} (h : ∀ k, (e k * x k).natAbs ≤ 27) : (((List.range n).map fun k => e k * x k).sum).natAbs ≤ n * 27 := by
  induction n with
  | zero => exact Nat.le_refl _
  | succ n ih =>
    rw [List.range_succ, List.map_append, List.sum_append, List.map_singleton, List.sum_singleton]
    have := h n
    have e2 : (n + 1) * 27 = n * 27 + 27 := by omega
    omega
theorem mul27 {a b : Int} (h1 : a.natAbs ≤ 3) (h2 : b.natAbs ≤ 9) : (a * b).natAbs ≤ 27 := by
  rw [Int.natAbs_mul]
  exact Nat.mul_le_mul h1 h2
/-- the drawn sides are a row -/
theorem row_of {n : Nat} {es xs : List Int} {tl tr : Tms} {m0 c : Int} (le : es.length = n) (n5 : n ≤ 5) (be : ∀ k, (iN es k).natAbs ≤ 3) (bx : ∀ k, (iN xs k).natAbs ≤ 9) (ec : c = ((List.range n).map fun k => iN es k * iN xs k).sum) (w1 : Wf tl) (w2 : Wf tr)
    (r1 : ∀ s ∈ tl, 0 ≤ s.1 ∧ s.1 < (es.length : Int)) (r2 : ∀ s ∈ tr, 0 ≤ s.1 ∧ s.1 < (es.length : Int)) (m1 : 0 ≤ m0) (m2 : m0 ≤ 8) (kk : ∀ k, ∃ z : Int, z.natAbs ≤ 1 ∧ dN tl k = ((iN es k + z : Int) : Rat) ∧ dN tr k = (z : Rat)) : RowP n (iN xs) ((m0 : Rat), tl) (((c + m0 : Int) : Rat), tr) := by
  have bc : c.natAbs ≤ 135 := by
    rw [ec]
    have := sum_le (iN es) (iN xs) (n := n) fun k => mul27 (be k) (bx k)
    omega
  rw [le] at r1 r2
  have dd : ∀ k, dN tl k - dN tr k = (iN es k : Rat) := fun k => by
    obtain ⟨z, _, h1, h2⟩ := kk k
    rw [h1, h2, Rat.intCast_add]
    grind
  refine ⟨⟨w1, r1, ⟨m0, rfl, by omega⟩, fun k => ?_⟩, ⟨w2, r2, ⟨c + m0, rfl, by omega⟩, fun k => ?_⟩, fun k => ⟨iN es k, dd k, be k⟩, ⟨-c, ?_, by omega⟩, ?_⟩
  · obtain ⟨z, h0, h1, h2⟩ := kk k
    have := be k
    exact ⟨_, h1, by omega⟩
  · obtain ⟨z, h0, h1, h2⟩ := kk k
    exact ⟨z, h2, by omega⟩
  · show (m0 : Rat) - ((c + m0 : Int) : Rat) = ((-c : Int) : Rat)
    rw [Rat.intCast_add, Rat.intCast_neg]
    grind
  · show ((m0 : Rat) - ((c + m0 : Int) : Rat)) + sm n (fun k => (dN tl k - dN tr k) * (iN xs k : Rat)) = 0
    rw [sm_congr (h := fun k => (iN es k : Rat) * (iN xs k : Rat)) fun k _ => by rw [dd], ← sum_sm, ← ec, Rat.intCast_add]
    grind

/-- the drawn sides are a row of these factors -/
theorem rowE_of {n : Nat} {es xs : List Int} {tl tr : Tms} {m0 c : Int} (le : es.length = n) (n5 : n ≤ 5) (be : ∀ k, (iN es k).natAbs ≤ 3) (bx : ∀ k, (iN xs k).natAbs ≤ 9) (ec : c = ((List.range n).map fun k => iN es k * iN xs k).sum) (w1 : Wf tl) (w2 : Wf tr)
    (r1 : ∀ s ∈ tl, 0 ≤ s.1 ∧ s.1 < (es.length : Int)) (r2 : ∀ s ∈ tr, 0 ≤ s.1 ∧ s.1 < (es.length : Int)) (m1 : 0 ≤ m0) (m2 : m0 ≤ 8) (kk : ∀ k, ∃ z : Int, z.natAbs ≤ 1 ∧ dN tl k = ((iN es k + z : Int) : Rat) ∧ dN tr k = (z : Rat)) : RowE n (iN xs) (iN es) ((m0 : Rat), tl) (((c + m0 : Int) : Rat), tr) := by
  refine ⟨row_of le n5 be bx ec w1 w2 r1 r2 m1 m2 kk, ?_, fun k => ?_⟩
  · show (m0 : Rat) - ((c + m0 : Int) : Rat) = _
    unfold rowC
    rw [← sum_sm, ← ec, Rat.intCast_add]
    grind
  · obtain ⟨z, _, h1, h2⟩ := kk k
    show dN tl k - dN tr k = _
    rw [h1, h2, Rat.intCast_add]
    grind
/-- lists of factors -/
structure Rows (H : Hp) (n : Nat) (ts : List Addr) (rs : List (List Int)) : Prop where
  len : ts.length = rs.length
  at_ : ∀ (i : Nat) (t : Addr) (es : List Int), ts[i]? = some t → rs[i]? = some es → H t = some (.lst (es.map V.int))
  ok : ∀ es ∈ rs, es.length = n ∧ ∀ e ∈ es, e.natAbs ≤ 3
theorem Rows.kp {H H' : Hp} {n : Nat} {ts : List Addr} {rs : List (List Int)} (h : Rows H n ts rs) (k : ∀ t ∈ ts, ∀ o, H t = some o → H' t = some o) : Rows H' n ts rs :=
  ⟨h.len, fun i t es a b => k t (List.mem_of_getElem? a) _ (h.at_ i t es a b), h.ok⟩
theorem Rows.mono {H H' : Hp} {n : Nat} {ts : List Addr} {rs : List (List Int)} (h : Rows H n ts rs) (s : Same H H') : Rows H' n ts rs := h.kp fun t _ o e => s t o e
theorem Rows.get {H : Hp} {n : Nat} {ts : List Addr} {rs : List (List Int)} (h : Rows H n ts rs) {i : Nat} {t : Addr} (e : ts[i]? = some t) : ∃ es, rs[i]? = some es ∧ H t = some (.lst (es.map V.int)) ∧ es.length = n ∧ ∀ e ∈ es, e.natAbs ≤ 3 := by
  have hi := (List.getElem?_eq_some_iff.mp e).1
  have er : rs[i]? = some (rs[i]'(by rw [← h.len]; exact hi)) := List.getElem?_eq_getElem _
  exact ⟨_, er, h.at_ i t _ e er, h.ok _ (List.mem_of_getElem? er)⟩
theorem Rows.ex {H : Hp} {n : Nat} {ts : List Addr} {rs : List (List Int)} (h : Rows H n ts rs) {t : Addr} (e : t ∈ ts) : ∃ es : List Int, H t = some (.lst (es.map V.int)) := by
  obtain ⟨i, hi⟩ := List.mem_iff_getElem?.mp e
  obtain ⟨es, _, he, _⟩ := h.get hi
  exact ⟨es, he⟩
theorem Rows.snoc {H : Hp} {n : Nat} {ts : List Addr} {rs : List (List Int)} (h : Rows H n ts rs) {t : Addr} {es : List Int} (ht : H t = Option.some (.lst (es.map V.int))) (he : es.length = n ∧ ∀ e ∈ es, e.natAbs ≤ 3) : Rows H n (ts ++ [t]) (rs ++ [es]) := by
  refine ⟨by rw [List.length_append, List.length_append, h.len]; rfl, fun i t' es' a b => ?_, fun e m => ?_⟩
  · rcases Nat.lt_or_ge i ts.length with c | c
    · rw [List.getElem?_append_left c] at a
      rw [List.getElem?_append_left (by rw [← h.len]; exact c)] at b
      exact h.at_ i t' es' a b
    · have hi := (List.getElem?_eq_some_iff.mp a).1
      rw [List.length_append, List.length_singleton] at hi
      have : i = ts.length := by omega
      subst this
      rw [List.getElem?_append_right (Nat.le_refl _), Nat.sub_self] at a
      rw [List.getElem?_append_right (by rw [h.len]; exact Nat.le_refl _), h.len, Nat.sub_self] at b
      cases a
      cases b
      exact ht
  · rcases List.mem_append.mp m with m | m
    · exact h.ok e m
    · rw [List.mem_singleton.mp m]
      exact he
theorem int_inj {es es' : List Int} (h : es.map V.int = es'.map V.int) : es = es' := by
  induction es generalizing es' with
  | nil =>
    cases es' with
    | nil => rfl
    | cons _ _ => cases h
  | cons a l ih =>
    cases es' with
    | nil => cases h
    | cons b m =>
      have h : V.int a :: l.map V.int = V.int b :: m.map V.int := h
      injection h with h1 h2
      injection h1 with h1
      rw [h1, ih h2]
/-! ### a run of rows -/
def rsS (rs : List (List Int)) : (Nat → Int) → Prop := fun e => ∃ es ∈ rs, e = iN es
def sp__law_run (K : PySem.W.Frag) (A : Nat → Addr) : Sp := fun vs H Q _ => ∃ (p a l : Addr) (n : Nat) (xs : List Int) (ts : List Addr) (rs : List (List Int)) (H0 : Hp), vs = [.ref p, .ref a, .ref l] ∧ Sd H0 H p ∧ a ≠ p ∧ l ≠ p ∧ H a = some (.lst (ts.map V.ref)) ∧ H l = some (.lst (xs.map V.int)) ∧ xs.length = n ∧ n ≤ 5 ∧ (∀ x ∈ xs, x.natAbs ≤ 9) ∧
  Rows H n ts rs ∧ (∀ t ∈ ts, t ≠ p) ∧ ts.length ≤ 100 ∧ ∀ pe lp fs H', H pe = none → H lp = none → Sd H0 H' p → Kp p H H' → EqL (A 6) K H' pe lp fs → RunI n (iN xs) fs (rsS rs) → Q (.ref pe) H'
section
theorem ok__law_run {P : Program} {w : World} {K : PySem.W.Frag} {mg : Str → Option Value} {base : Heap} {A : Nat → Addr} {D : Nat → FuncData} (T : Txt K mg A D) : FnOk P w K mg base (L2.CX P w) 8 (A 35) (D 35) ["stream", "rows", "solution"] (sp__law_run K A) := by
  refine T.F__law_run.okX sc__law_run (fun vs H Q E h => ?_) (fun cdv A' outer s H vs Q E hr h => ?_)
  · obtain ⟨p, a, l, n, xs, ts, rs, H0, rfl, _⟩ := h
    rfl
  obtain ⟨p, a, l, n, xs, ts, rs, H0, rfl, S, nap, nlp, ha, hl, lx, n5, x9, R, tp, l100, q⟩ := h
  refine ⟨_, (pss_cons (ps_set (i := 3) sc__law_run.nd rfl (.inl rfl) (pe_call (ok__law_begun T) (hr.mono (by decide)) (by rfl) T.m__law_begun T.F__law_begun.kp T.b__law_begun .nil (passes_call (takes_of rfl rfl rfl rfl) (fun _ _ _ _ h => h)) (pa_cons (pe_callB Z.c_len (by rfl) T.z_len (by decide +kernel) (pa_cons (pv 2) pa_nil)) pa_nil)))
  (pss_cons (ps_for (passes_of rfl) rfl (pi_list (pv 1)) (pg_name (i := 4) sc__law_run.nd rfl (.inr rfl))
  (pss_cons (ps_set (i := 5) sc__law_run.nd rfl (.inl rfl) (pe_callB (cr_sum rfl) (by rfl) T.z_sum (by decide +kernel) (pa_cons (pe_lc (own := [("k", 6)]) (g := gName 6) (tt := tYes) rfl sc__law_run.nd (pi_range1 (by rfl) T.z_range (pa_cons (pe_callB Z.c_len (by rfl) T.z_len (by decide +kernel) (pa_cons (pv 2) pa_nil)) pa_nil)) (blkOk_by (N := ["stream", "rows", "solution", "equations", "factors", "constant", "k", "left", "right"]) (sc := defScope s__law_run) (by decide +kernel)) (fun _ _ _ _ _ => pg_name (i := 6) sc__law_run.nd rfl (Or.inl rfl)) (fun _ _ _ _ _ => pts_nil) (fun _ _ _ _ _ => (pe_op op_mulW (pe_ix (show IxR _ (rIxL K) from ix_list) (pv 4) (pv 6) (fun _ _ => rfl)) (pe_ix (show IxR _ (rIxL K) from ix_list) (pv 2) (pv 6) (fun _ _ => rfl))))) pa_nil)))
  (pss_cons (ps_asg (pe_call (ok__law_sides T) (hr.mono (by decide)) (by rfl) T.m__law_sides T.F__law_sides.kp T.b__law_sides .nil (passes_call (takes_of rfl rfl rfl rfl) (fun _ _ _ _ h => h)) (pa_cons (pv 0) (pa_cons (pv 4) (pa_cons (pv 5) pa_nil)))) (pg_tup (by rfl) (pgs_cons (pg_name (i := 7) sc__law_run.nd rfl (.inl rfl)) (pgs_cons (pg_name (i := 8) sc__law_run.nd rfl (.inl rfl)) pgs_nil))))
  (pss_one (ps_expr (pe_meth (pv 3) T.q_Equations T.m_Equations_equate (Nn.toL (ok_Equations_equate T)) (hr.mono (by decide)) T.b_Equations_equate .nil (passes_call (takes_of rfl rfl rfl rfl) (fun _ _ _ _ h => h)) (pa_cons (pv 7) (pa_cons (pv 8) pa_nil))))))))
  (pss_one (ps_ret (pv 3))))), ?_⟩
  walk_at "z"
  refine ⟨n, ?_, by omega, fun pe lp H1 fpe flp s1 e1 => ?_⟩
  · rw [List.length_map, lx]
  have S1 := S.mono s1
  have x9' : ∀ k, (iN xs k).natAbs ≤ 9 := iN_le x9
  have nlp0 : lp ≠ p := fun z => by
    obtain ⟨x, y, w, e⟩ := S.stm
    rw [z, e] at flp
    cases flp
  walk_at "z"
  refine z_forL (fun R q => by walk_at "z"; exact q) (.inl (.inl (s1 _ _ ha))) (fun i σ' H' => Sd H0 H' p ∧ Kp p H H' ∧ ∃ (lp : Addr) (fs : List Fm) (x4 x5 x6 x7 x8 : Option V), σ' = [some (.ref p), some (.ref a), some (.ref l), some (.ref pe), x4, x5, x6, x7, x8] ∧ H lp = none ∧ lp ≠ p ∧ EqL (A 6) K H' pe lp fs ∧ RunI n (iN xs) fs (rsS (rs.take i)))
    ⟨S1, kp_of s1, lp, fr0 n, _, _, _, _, _, rfl, flp, nlp0, e1, ?_⟩ (fun i σ' H' _ h => .inl (.inl (h.2.1 _ _ nap ha))) ?_ ?_
  · have := RunI.new (n := n) (x := iN xs) n5 fun k _ => x9' k
    rw [List.take_zero]
    refine ⟨this.j, fun e h => ?_, fun y _ => this.h y fun e h => h.elim⟩
    obtain ⟨es, m, _⟩ := h
    cases m
  · rintro i x σ' H2 hx ⟨S2, k2, lp, fs, x4, x5, x6, x7, x8, rfl, flp, nlpp, he, I⟩
    rw [List.getElem?_map] at hx
    cases ht : ts[i]? with
    | none => rw [ht] at hx; cases hx
    | some t =>
      rw [ht] at hx
      cases hx
      obtain ⟨es, er, h0, les, be3⟩ := R.get ht
      have ntp := tp t (List.mem_of_getElem? ht)
      have h2 := k2 _ _ ntp h0
      have hl2 := k2 _ _ nlp hl
      have be := iN_le be3
      walk_at "z"
      refine z_lcRE ?_
      walk_at "z"
      rw [List.length_map, lx]
      refine z_lcRr n (by omega) (fun _ => rfl) (fun i' D acc H' => Same H2 H' ∧ H2 D = none ∧ acc = ((List.range i').map fun k => V.int (iN es k * iN xs k))) (fun D9 H' f s _ => ⟨s, f, rfl⟩) (fun i' D acc H' hi' hl' hD9 ⟨s', f9, ea⟩ => ?_) (fun D acc H3 f3 hl3 h3 ⟨s3, _, ea⟩ => ?_)
      · walk_at "z"
        refine z_ixL (.inl (.inl (s' _ _ h2))) (iN_at (by omega)) ?_
        walk_at "z"
        refine z_ixL (.inl (.inl (s' _ _ hl2))) (iN_at (by omega)) ?_
        refine z_I (wide_mul (a := 32) (b := 32) (by have := be i'; omega) (by have := x9' i'; omega) (by decide) (by decide) (by decide)) ?_
        refine z_lcB hD9 hl' (by omega) fun H5 h5 k5 e5 => ⟨fun b o h => ?_, f9, ?_⟩
        · rw [e5 b (ne_of_none h f9)]
          exact s' _ _ h
        · rw [ea, List.range_succ, List.map_append]
          rfl
      have ea : acc = (((List.range n).map fun k => iN es k * iN xs k).map V.int) := by rw [ea, List.map_map]; rfl
      subst ea
      walk_at "z"
      refine Cw.z_sum (.inl (.inl h3)) ?_
      obtain ⟨c, hc⟩ : ∃ c, c = ((List.range n).map fun k => iN es k * iN xs k).sum := ⟨_, rfl⟩
      rw [← hc]
      walk_at "z"
      refine ⟨p, t, es, c, H0, rfl, S2.mono s3, ntp, s3 _ _ h2, by omega, fun t2 lv rv tl tr m0 H5 S5 k5 ht2 ml mr w1 w2 r1 r2 m01 m02 kk => ?_⟩
      have row := rowE_of les n5 be x9' hc w1 w2 r1 r2 m01 m02 kk
      walk_at "z"
      have he5 : EqL (A 6) K H5 pe lp fs := (he.mono s3).tk ((S2.mono s3).notup k5) (fun o h => k5 _ _ (fun z => by
        obtain ⟨⟨dx, e⟩, _⟩ := id he
        obtain ⟨x, y, w, e'⟩ := S2.stm
        rw [z, e'] at e
        cases e) h) (fun o h => k5 _ _ nlpp h)
      obtain ⟨⟨dx, e5⟩, _⟩ := id he5
      refine Cw.z_meth e5 (Cw.look1n rfl) ?_
      walk_at "z"
      refine eq_takeE he5 ml mr I row fun b fs' lp' H6 k6 hlp e6 I6 => ?_
      have kk2 : Kp p H H6 := fun b o hb h => k6 b o (ne_of_none h fpe) (k5 b o hb (s3 b o (k2 b o hb h)))
      walk_at "z"
      refine ⟨?_, kk2, lp', fs', _, _, _, _, _, rfl, ?_, ?_, e6, ?_⟩
      · obtain ⟨x, y, w, e'⟩ := S5.stm
        refine ⟨fun b o h => ?_, S5.fresh, x, y, w, k6 _ _ (fun z => by rw [z, e5] at e'; cases e') e'⟩
        exact kk2 b o (ne_of_none h S5.fresh) (S.same b o h)
      · rcases hlp with rfl | f
        · exact flp
        · cases z : H lp' with
          | none => rfl
          | some o =>
            by_cases e : lp' = p
            · obtain ⟨x, y, w, e'⟩ := S5.stm
              rw [e, e'] at f
              cases f
            · have := k5 _ _ e (s3 _ _ (k2 _ _ e z))
              rw [f] at this
              cases this
      · rcases hlp with rfl | f
        · exact nlpp
        · rintro rfl
          obtain ⟨x, y, w, e'⟩ := S5.stm
          rw [e'] at f
          cases f
      · have er' : rs.take (i + 1) = rs.take i ++ [es] := by rw [List.take_add_one, er]; rfl
        rw [er']
        refine ⟨I6.j, fun e h => I6.z e ?_, fun y hy => I6.h y fun e h => hy e ?_⟩
        · obtain ⟨es', m, rfl⟩ := h
          rcases List.mem_append.mp m with m | m
          · exact .inl ⟨es', m, rfl⟩
          · rw [List.mem_singleton.mp m]
            exact .inr rfl
        · rcases h with ⟨es', m, rfl⟩ | rfl
          · exact ⟨es', List.mem_append.mpr (.inl m), rfl⟩
          · exact ⟨es, List.mem_append.mpr (.inr (List.mem_singleton.mpr rfl)), rfl⟩
  · rintro σ' H2 ⟨S2, k2, lp, fs, x4, x5, x6, x7, x8, rfl, flp, nlpp, he, I⟩
    walk_at "z"
    rw [List.length_map, R.len, List.take_length] at I
    exact q pe lp fs H2 fpe flp S2 k2 he I
end
/-! ### what contradicts, what still holds -/
theorem ifm_nil {n m : Nat} {c : Int} (h : c.natAbs ≤ 200) : Ifm n m ((c : Rat), []) := ⟨⟨.nil, fun _ h => (by cases h)⟩, fun _ h => (by cases h), ⟨c, rfl, h⟩, fun k => ⟨0, rfl, Nat.zero_le _⟩⟩
theorem ifm_made {n : Nat} {es : List Int} {tl : Tms} {c : Int} (mk : Mk es tl) (le : es.length = n) (be : ∀ k, (iN es k).natAbs ≤ 3) (h : c.natAbs ≤ 200) : Ifm n 4 ((c : Rat), tl) := ⟨mk.wf, fun t ht => by have := mk.rg t ht; rw [le] at this; exact this, ⟨c, rfl, h⟩, fun k => ⟨iN es k, mk.k k, by have := be k; omega⟩⟩
theorem dn_nil {c : Rat} {k : Nat} : dN ((c, []) : Fm).2 k = 0 := rfl
theorem rowE_made {n : Nat} {es xs : List Int} {tl : Tms} {c : Int} (mk : Mk es tl) (le : es.length = n) (n5 : n ≤ 5) (be : ∀ k, (iN es k).natAbs ≤ 3) (bx : ∀ k, (iN xs k).natAbs ≤ 9) (ec : c = ((List.range n).map fun k => iN es k * iN xs k).sum) : RowE n (iN xs) (iN es) (((0 : Int) : Rat), tl) ((c : Rat), []) := by
  have bc : c.natAbs ≤ 135 := by
    rw [ec]
    have := sum_le (iN es) (iN xs) (n := n) fun k => mul27 (be k) (bx k)
    omega
  have dk : ∀ k, dN tl k - dN ((c : Rat), ([] : Tms)).2 k = (iN es k : Rat) := fun k => by
    rw [mk.k, dn_nil]
    grind
  have z0 : ((0 : Int) : Rat) = 0 := rfl
  refine ⟨⟨ifm_made mk le be (by decide), ifm_nil (by omega), fun k => ⟨iN es k, dk k, be k⟩, ⟨-c, ?_, by omega⟩, ?_⟩, ?_, dk⟩
  · show ((0 : Int) : Rat) - (c : Rat) = _
    rw [Rat.intCast_neg, z0]
    grind
  · show (((0 : Int) : Rat) - (c : Rat)) + sm n (fun k => (dN tl k - dN ((c : Rat), ([] : Tms)).2 k) * (iN xs k : Rat)) = 0
    rw [sm_congr (h := fun k => (iN es k : Rat) * (iN xs k : Rat)) fun k _ => by rw [dk], ← sum_sm, ← ec, z0]
    grind
  · show ((0 : Int) : Rat) - (c : Rat) = _
    unfold rowC
    rw [← sum_sm, ← ec, z0]
    grind
def sp__law_contradicts (K : PySem.W.Frag) (A : Nat → Addr) : Sp := fun vs H Q _ => ∃ (pe lp t l : Addr) (n : Nat) (es xs : List Int) (fs : List Fm) (S : (Nat → Int) → Prop), vs = [.ref pe, .ref t, .ref l] ∧ EqL (A 6) K H pe lp fs ∧ H t = some (.lst (es.map V.int)) ∧ H l = some (.lst (xs.map V.int)) ∧ RunI n (iN xs) fs S ∧ S (iN es) ∧
  es.length = n ∧ xs.length = n ∧ n ≤ 5 ∧ (∀ e ∈ es, e.natAbs ≤ 3) ∧ (∀ x ∈ xs, x.natAbs ≤ 9) ∧ ∀ H', Same H H' → Q (.bl true) H'
section
theorem ok__law_contradicts {P : Program} {w : World} {K : PySem.W.Frag} {mg : Str → Option Value} {base : Heap} {A : Nat → Addr} {D : Nat → FuncData} (T : Txt K mg A D) : FnOk P w K mg base (L2.CX P w) 8 (A 36) (D 36) ["equations", "factors", "solution"] (sp__law_contradicts K A) := by
  refine T.F__law_contradicts.okX sc__law_contradicts (fun vs H Q E h => ?_) (fun cdv A' outer s H vs Q E hr h => ?_)
  · obtain ⟨pe, lp, t, l, n, es, xs, fs, S, rfl, _⟩ := h
    rfl
  obtain ⟨pe, lp, t, l, n, es, xs, fs, S, rfl, he, ht, hl, I, Se, les, lx, n5, be3, x9, q⟩ := h
  refine ⟨_, (pss_cons (ps_set (i := 3) sc__law_contradicts.nd rfl (.inl rfl) (pe_callB (cr_sum rfl) (by rfl) T.z_sum (by decide +kernel) (pa_cons (pe_lc (own := [("k", 4)]) (g := gName 4) (tt := tYes) rfl sc__law_contradicts.nd (pi_range1 (by rfl) T.z_range (pa_cons (pe_callB Z.c_len (by rfl) T.z_len (by decide +kernel) (pa_cons (pv 2) pa_nil)) pa_nil)) (blkOk_by (N := ["equations", "factors", "solution", "constant", "k"]) (sc := defScope s__law_contradicts) (by decide +kernel)) (fun _ _ _ _ _ => pg_name (i := 4) sc__law_contradicts.nd rfl (Or.inl rfl)) (fun _ _ _ _ _ => pts_nil) (fun _ _ _ _ _ => (pe_op op_mulW (pe_ix (show IxR _ (rIxL K) from ix_list) (pv 1) (pv 4) (fun _ _ => rfl)) (pe_ix (show IxR _ (rIxL K) from ix_list) (pv 2) (pv 4) (fun _ _ => rfl))))) pa_nil)))
  (pss_cons (ps_try_only (Wout := fun _ _ _ _ => False) rfl rfl ⟨rfl, by decide, .inl T.x_Contradiction.g⟩ takes0 (fun W pn xe tk PO => (pss_one (ps_expr (Cw.pe_methS (by exact (pv 0)) T.q_Equations T.m_Equations_equate (Nn.toL (ok_Equations_equate T)) (hr.mono (by decide)) T.b_Equations_equate .nil (fun σ => passAt tk σ) (pa_cons (pe_callS (ok__law_made T) (hr.mono (by decide)) (by rfl) T.m__law_made T.F__law_made.kp T.b__law_made (fun σ => passAt tk σ) (by exact (pa_cons (pv 1) (pa_cons pe_int pa_nil)))) (pa_cons (pe_tup (pa_cons (pe_tup (pa_cons (pv 3) (pa_cons pe_int pa_nil))) (pa_cons (Dm.pe_tupF pa_nil) pa_nil))) pa_nil))))))
  (fun a oe cls d pn hz hf => (pss_one (ps_ret pe_bl))))
  (pss_one (ps_ret pe_bl)))), ?_⟩
  have be := iN_le be3
  have bx := iN_le x9
  walk_at "z"
  refine z_lcRE ?_
  walk_at "z"
  rw [List.length_map, lx]
  refine z_lcRr n (by omega) (fun _ => rfl) (fun i' D acc H' => Same H H' ∧ H D = none ∧ acc = ((List.range i').map fun k => V.int (iN es k * iN xs k))) (fun D9 H' f s _ => ⟨s, f, rfl⟩) (fun i' D acc H' hi' hl' hD9 ⟨s', f9, ea⟩ => ?_) (fun D acc H3 f3 hl3 h3 ⟨s3, _, ea⟩ => ?_)
  · walk_at "z"
    refine z_ixL (.inl (.inl (s' _ _ ht))) (iN_at (by omega)) ?_
    walk_at "z"
    refine z_ixL (.inl (.inl (s' _ _ hl))) (iN_at (by omega)) ?_
    refine z_I (wide_mul (a := 32) (b := 32) (by have := be i'; omega) (by have := bx i'; omega) (by decide) (by decide) (by decide)) ?_
    refine z_lcB hD9 hl' (by omega) fun H5 h5 k5 e5 => ⟨fun b o h => ?_, f9, ?_⟩
    · rw [e5 b (ne_of_none h f9)]
      exact s' _ _ h
    · rw [ea, List.range_succ, List.map_append]
      rfl
  have ea : acc = (((List.range n).map fun k => iN es k * iN xs k).map V.int) := by rw [ea, List.map_map]; rfl
  subst ea
  walk_at "z"
  refine Cw.z_sum (.inl (.inl h3)) ?_
  obtain ⟨c, hc⟩ : ∃ c, c = ((List.range n).map fun k => iN es k * iN xs k).sum := ⟨_, rfl⟩
  rw [← hc]
  have bc : c.natAbs ≤ 135 := by
    rw [hc]
    have := sum_le (iN es) (iN xs) (n := n) fun k => mul27 (be k) (bx k)
    omega
  have he3 := he.mono s3
  obtain ⟨⟨dx, e3⟩, _⟩ := id he3
  walk_at "z"
  refine Cw.z_meth e3 (Cw.look1n rfl) ?_
  walk_at "z"
  refine ⟨t, es, 1, rfl, s3 _ _ ht, by omega, fun vl tl H4 s4 ml mk => ?_⟩
  walk_at "z"
  intro p5 H5 f5 s5 h5
  walk_at "z"
  refine z_newF (by decide) fun p6 H6 f6 s6 h6 => ?_
  walk_at "z"
  intro p7 H7 f7 s7 h7
  have s67 := s6.trans s7
  have s57 := s5.trans s67
  have mr : FmAt K H7 (.ref p7) ((c : Rat), []) := .mk (.inl (.inl h7)) (by
    show Dp K H7 _ (qD (c : Rat))
    rw [qIe]
    exact dp_mk (s67 _ _ h5) (.cons (.int _) (.cons (.int _) .nil))) (h6.mono s7) .nil
  refine eq_contra (he3.mono (s4.trans s57)) (ml.mono s57) mr I (I.z _ Se) (ifm_made mk les be (by decide)) (ifm_nil (by omega)) (fun k => ?_) be ?_ ⟨1 - c, ?_, by omega⟩ fun H8 s8 => ?_
  · rw [dn_nil]
    show dN tl k - 0 = _
    rw [mk.k]
    grind
  · show ((1 : Int) : Rat) - (c : Rat) = _
    unfold rowC
    rw [← sum_sm, ← hc, show ((1 : Int) : Rat) = 1 from rfl]
    grind
  · show ((1 : Int) : Rat) - (c : Rat) = _
    rw [Rat.intCast_sub]
  refine z_excO (exm T.x_Contradiction T.e_Contradiction_Contradiction) fun a ha => ?_
  walk_at "z"
  exact q _ (s3.trans (s4.trans (s57.trans s8)))
end
def sp__law_holds_still (K : PySem.W.Frag) (A : Nat → Addr) : Sp := fun vs H Q _ => ∃ (pe lp t l : Addr) (n : Nat) (es xs : List Int) (fs : List Fm) (S : (Nat → Int) → Prop), vs = [.ref pe, .ref t, .ref l] ∧ EqL (A 6) K H pe lp fs ∧ H t = some (.lst (es.map V.int)) ∧ H l = some (.lst (xs.map V.int)) ∧ RunI n (iN xs) fs S ∧ S (iN es) ∧
  es.length = n ∧ xs.length = n ∧ n ≤ 5 ∧ (∀ e ∈ es, e.natAbs ≤ 3) ∧ (∀ x ∈ xs, x.natAbs ≤ 9) ∧ ∀ H', Same H H' → Q (.bl true) H'
section
theorem ok__law_holds_still {P : Program} {w : World} {K : PySem.W.Frag} {mg : Str → Option Value} {base : Heap} {A : Nat → Addr} {D : Nat → FuncData} (T : Txt K mg A D) : FnOk P w K mg base (L2.CX P w) 8 (A 38) (D 38) ["equations", "factors", "solution"] (sp__law_holds_still K A) := by
  refine T.F__law_holds_still.okX sc__law_holds_still (fun vs H Q E h => ?_) (fun cdv A' outer s H vs Q E hr h => ?_)
  · obtain ⟨pe, lp, t, l, n, es, xs, fs, S, rfl, _⟩ := h
    rfl
  obtain ⟨pe, lp, t, l, n, es, xs, fs, S, rfl, he, ht, hl, I, Se, les, lx, n5, be3, x9, q⟩ := h
  refine ⟨_, (pss_cons (ps_set (i := 3) sc__law_holds_still.nd rfl (.inl rfl) (pe_callB (cr_sum rfl) (by rfl) T.z_sum (by decide +kernel) (pa_cons (pe_lc (own := [("k", 4)]) (g := gName 4) (tt := tYes) rfl sc__law_holds_still.nd (pi_range1 (by rfl) T.z_range (pa_cons (pe_callB Z.c_len (by rfl) T.z_len (by decide +kernel) (pa_cons (pv 2) pa_nil)) pa_nil)) (blkOk_by (N := ["equations", "factors", "solution", "constant", "k"]) (sc := defScope s__law_holds_still) (by decide +kernel)) (fun _ _ _ _ _ => pg_name (i := 4) sc__law_holds_still.nd rfl (Or.inl rfl)) (fun _ _ _ _ _ => pts_nil) (fun _ _ _ _ _ => (pe_op op_mulW (pe_ix (show IxR _ (rIxL K) from ix_list) (pv 1) (pv 4) (fun _ _ => rfl)) (pe_ix (show IxR _ (rIxL K) from ix_list) (pv 2) (pv 4) (fun _ _ => rfl))))) pa_nil)))
  (pss_one (ps_ret (pe_cmpR L2.op_isBl (pe_meth (pv 0) T.q_Equations T.m_Equations_equate (Nn.toL (ok_Equations_equate T)) (hr.mono (by decide)) T.b_Equations_equate .nil (passes_call (takes_of rfl rfl rfl rfl) (fun _ _ _ _ h => h)) (pa_cons (pe_call (ok__law_made T) (hr.mono (by decide)) (by rfl) T.m__law_made T.F__law_made.kp T.b__law_made .nil (passes_call (takes_of rfl rfl rfl rfl) (fun _ _ _ _ h => h)) (pa_cons (pv 1) (pa_cons pe_int pa_nil))) (pa_cons (pe_tup (pa_cons (pe_tup (pa_cons (pv 3) (pa_cons pe_int pa_nil))) (pa_cons (Dm.pe_tupF pa_nil) pa_nil))) pa_nil))) pe_bl (nomark _))))), ?_⟩
  have be := iN_le be3
  have bx := iN_le x9
  walk_at "z"
  refine z_lcRE ?_
  walk_at "z"
  rw [List.length_map, lx]
  refine z_lcRr n (by omega) (fun _ => rfl) (fun i' D acc H' => Same H H' ∧ H D = none ∧ acc = ((List.range i').map fun k => V.int (iN es k * iN xs k))) (fun D9 H' f s _ => ⟨s, f, rfl⟩) (fun i' D acc H' hi' hl' hD9 ⟨s', f9, ea⟩ => ?_) (fun D acc H3 f3 hl3 h3 ⟨s3, _, ea⟩ => ?_)
  · walk_at "z"
    refine z_ixL (.inl (.inl (s' _ _ ht))) (iN_at (by omega)) ?_
    walk_at "z"
    refine z_ixL (.inl (.inl (s' _ _ hl))) (iN_at (by omega)) ?_
    refine z_I (wide_mul (a := 32) (b := 32) (by have := be i'; omega) (by have := bx i'; omega) (by decide) (by decide) (by decide)) ?_
    refine z_lcB hD9 hl' (by omega) fun H5 h5 k5 e5 => ⟨fun b o h => ?_, f9, ?_⟩
    · rw [e5 b (ne_of_none h f9)]
      exact s' _ _ h
    · rw [ea, List.range_succ, List.map_append]
      rfl
  have ea : acc = (((List.range n).map fun k => iN es k * iN xs k).map V.int) := by rw [ea, List.map_map]; rfl
  subst ea
  walk_at "z"
  refine Cw.z_sum (.inl (.inl h3)) ?_
  obtain ⟨c, hc⟩ : ∃ c, c = ((List.range n).map fun k => iN es k * iN xs k).sum := ⟨_, rfl⟩
  rw [← hc]
  have he3 := he.mono s3
  obtain ⟨⟨dx, e3⟩, _⟩ := id he3
  walk_at "z"
  refine Cw.z_meth e3 (Cw.look1n rfl) ?_
  walk_at "z"
  refine ⟨t, es, 0, rfl, s3 _ _ ht, by omega, fun vl tl H4 s4 ml mk => ?_⟩
  walk_at "z"
  intro p5 H5 f5 s5 h5
  walk_at "z"
  refine z_newF (by decide) fun p6 H6 f6 s6 h6 => ?_
  walk_at "z"
  intro p7 H7 f7 s7 h7
  have s67 := s6.trans s7
  have s57 := s5.trans s67
  have mr : FmAt K H7 (.ref p7) ((c : Rat), []) := .mk (.inl (.inl h7)) (by
    show Dp K H7 _ (qD (c : Rat))
    rw [qIe]
    exact dp_mk (s67 _ _ h5) (.cons (.int _) (.cons (.int _) .nil))) (h6.mono s7) .nil
  have P := rowE_made mk les n5 be bx hc
  obtain ⟨r, j⟩ := I.j
  refine eq_again (he3.mono (s4.trans s57)) (ml.mono s57) mr j P.p (fun d i => (P.zr i).mpr (I.z _ Se)) fun H8 s8 => ?_
  walk_at "z"
  refine ⟨false, false, rfl, rfl, ?_⟩
  walk_at "z"
  exact q _ (s3.trans (s4.trans (s57.trans s8)))
end
/-! ### where an exception is handled -/
def sp_formH (K : PySem.W.Frag) (A : Nat → Addr) : Sp := fun vs H Q _ => ∃ (p lp : Addr) (fs : List Fm) (u : Int), vs = [.ref p, .int u] ∧ EqL (A 6) K H p lp fs ∧ 0 ≤ u ∧ u < (fs.length : Int) ∧ ∀ v, FmAt K H v (atF fs u) → Q v H
section
theorem okh_unknown_form {P : Program} {w : World} {K : PySem.W.Frag} {mg : Str → Option Value} {base : Heap} {A : Nat → Addr} {D : Nat → FuncData} (T : Txt K mg A D) : L2H.FnH P w K mg base (L2.CX P w) 1 (A 13) (D 13) ["unknown"] (sp_unknown K) := by
  refine Nn.okH T.F_unknown_form sc_unknown_form (fun vs H Q E h => ?_) (fun cdv A' outer s H vs Q E p hot hr h => ?_)
  · obtain ⟨u, rfl, _⟩ := h
    rfl
  obtain ⟨u, rfl, q⟩ := h
  refine ⟨_, (pss_one (ps_ret (pe_tup (pa_cons (Z.pe_globR T.c_ZERO) (pa_cons (Dm.pe_tupF (pa_cons (pe_tup (pa_cons (pv 0) (pa_cons (Z.pe_globR T.c_ONE) pa_nil))) pa_nil)) pa_nil))))), ?_⟩
  walk_at "z"
  intro p7 H7 f7 s7 h7
  walk_at "z"
  refine z_newF (Nat.le_of_ble_eq_true rfl) fun t H1 f1 s1 p1 => ?_
  walk_at "z"
  intro p9 H9 f9 s9 h9
  exact q _ H9 ((s7.trans s1).trans s9) (.mk (.inl (.inl h9)) (T.d_ZERO H9) (p1.mono s9) (.cons (dp_mk ((s1.trans s9) _ _ h7) (.cons (.int _) (.cons (T.d_ONE H9) .nil))) .nil))
theorem okh_form {P : Program} {w : World} {K : PySem.W.Frag} {mg : Str → Option Value} {base : Heap} {A : Nat → Addr} {D : Nat → FuncData} (T : Txt K mg A D) : L2H.FnH P w K mg base (L2.CX P w) 1 (A 23) (D 23) ["self", "unknown"] (sp_formH K A) := by
  refine Nn.okH T.F_Equations_form sc_Equations_form (fun vs H Q E h => ?_) (fun cdv A' outer s H vs Q E p hot hr h => ?_)
  · obtain ⟨p, lp, fs, u, rfl, _⟩ := h
    rfl
  obtain ⟨p, lp, fs, u, rfl, he, u0, u1, q⟩ := h
  refine ⟨_, (pss_cons (ps_if (pt_not (pt_chain op_le op_lt pe_int (pv 1) (pe_callB (show CallR _ (.builtin "len") (Z.rLen K) from Z.c_len) (by rfl) T.z_len (by decide +kernel) (pa_cons (show PE _ _ (tFld K _ _) from pe_fld (pv 0) rfl) pa_nil))))
  (pss_one Nn.ps_never)
  pss_nil)
  (pss_one (ps_ret (pe_ix (show IxR _ (rIxL K) from ix_list) (show PE _ _ (tFld K _ _) from pe_fld (pv 0) rfl) (pv 1) (fun _ _ => rfl))))), ?_⟩
  obtain ⟨⟨dx, e⟩, vs, e2, l, a⟩ := id he
  walk_at "z"
  refine z_if (fun c1 => ?_) (fun c1 => absurd u0 c1)
  walk_at "z"
  refine Cw.z_fld e T.q_Equations T.nf_Equations__forms Cw.look1 ?_
  walk_at "z"
  rw [l]
  refine z_ifN (fun c2 => absurd u1 c2) (fun c2 => ?_)
  walk_at "z"
  refine Cw.z_fld e T.q_Equations T.nf_Equations__forms Cw.look1 ?_
  walk_at "z"
  have hu : u.toNat < fs.length := by omega
  have ef : fs[u.toNat]? = some fs[u.toNat] := List.getElem?_eq_getElem hu
  have ev : vs[u.toNat]? = some vs[u.toNat] := List.getElem?_eq_getElem (by omega)
  have m := a _ _ _ ev ef
  have e9 := atF_get u0 u1
  rw [ef] at e9
  rw [Option.some.inj e9] at m
  exact z_ixL (.inl (.inl e2)) (v := vs[u.toNat]) (atI_pos c1 ev) (q _ m)
def sp_kindH (K : PySem.W.Frag) (A : Nat → Addr) : Sp := fun vs H Q _ => ∃ (p lp : Addr) (fs : List Fm) (u : Int), vs = [.ref p, .int u] ∧ EqL (A 6) K H p lp fs ∧ 0 ≤ u ∧ u < (fs.length : Int) ∧ ∀ H', Same H H' → Q (.str (kindS (atF fs u) u)) H'
theorem okh_kind {P : Program} {w : World} {K : PySem.W.Frag} {mg : Str → Option Value} {base : Heap} {A : Nat → Addr} {D : Nat → FuncData} (T : Txt K mg A D) : L2H.FnH P w K mg base (L2.CX P w) 2 (A 22) (D 22) ["self", "unknown"] (sp_kindH K A) := by
  refine Nn.okH T.F_Equations_kind sc_Equations_kind (fun vs H Q E h => ?_) (fun cdv A' outer s H vs Q E pp hot hr h => ?_)
  · obtain ⟨p, lp, fs, u, rfl, _⟩ := h
    rfl
  obtain ⟨p, lp, fs, u, rfl, he, u0, u1, q⟩ := h
  refine ⟨_, (pss_cons (ps_set (i := 2) sc_Equations_kind.nd rfl (.inl rfl) (show PE _ _ (L2H.tMethH (A 6) "form" (sp_formH K A) (fun _ => E0) _ _) from L2H.pe_methH (pv 0) T.q_Equations T.m_Equations_form (okh_form T) (hr.mono (by decide)) (Nn.hotB hot) T.b_Equations_form Nn.passA (pa_cons (pv 1) pa_nil)))
  (pss_cons (ps_if (pt_not (show PT _ _ (tTru K _) from Z.pt_tru (pe_ix (show IxR _ (rIxT K) from ix_tup) (pv 2) pe_int (fun _ _ => rfl)) (by intro _; rfl)))
  (pss_one (ps_ret pe_str))
  pss_nil)
  (pss_cons (ps_if (pt_cmpR (show OpR _ (compareOp .Eq) (rEqD K) from op_eqD (Nn.unitsH hr)) (pv 2) (show PE _ _ (tCallS (sp_unknown K) (fun _ => E0) _) from L2H.pe_callH (okh_unknown_form T) (hr.mono (by decide)) (Nn.hotB hot) (by rfl) T.m_unknown_form T.F_unknown_form.kp T.b_unknown_form Nn.passA (pa_cons (pv 1) pa_nil)) (nomark _))
  (pss_one (ps_ret pe_str))
  pss_nil)
  (pss_one (ps_ret pe_str))))), ?_⟩
  obtain ⟨⟨dx, e⟩, _⟩ := id he
  walk_at "z"
  refine Nn.z_methHE ?_
  walk_at "z"
  refine Cw.z_meth e (Cw.look1n rfl) ?_
  walk_at "z"
  refine ⟨p, lp, fs, u, rfl, he, u0, u1, fun v hv => ?_⟩
  have hv' := hv
  obtain ⟨a, ca, ta, va, rfl, sa, da, pa, la⟩ := hv
  walk_at "z"
  have lv := dpa_len' la
  rw [List.length_map] at lv
  refine z_truT pa.sq ?_
  unfold kindS at q
  cases hf : (atF fs u).2 with
  | nil =>
    rw [hf] at lv
    have : va = [] := List.length_eq_zero_iff.mp lv
    subst this
    walk_at "z"
    have q := q H (fun _ _ e => e)
    rw [if_pos hf] at q
    exact q
  | cons t r =>
    rw [hf] at lv
    cases va with
    | nil => cases lv
    | cons v0 vr =>
      walk_at "z"
      refine ⟨u, rfl, fun w H1 s1 m1 => ?_⟩
      walk_at "z"
      refine z_eqF (dp_mono s1 hv'.dp) m1.dp ?_
      walk_at "z"
      have q := q H1 s1
      rw [if_neg (by rw [hf]; exact fun z => nomatch z)] at q
      refine z_if (fun c => ?_) (fun c => ?_)
      · walk_at "z"
        rw [if_pos c] at q
        exact q
      · walk_at "z"
        rw [if_neg c] at q
        exact q
theorem okh_states {P : Program} {w : World} {K : PySem.W.Frag} {mg : Str → Option Value} {base : Heap} {A : Nat → Addr} {D : Nat → FuncData} (T : Txt K mg A D) : L2H.FnH P w K mg base (L2.CX P w) 3 (A 34) (D 34) ["equations", "count"] (sp__law_states K A) := by
  refine Nn.okH T.F__law_states sc__law_states (fun vs H Q E h => ?_) (fun cdv A' outer s H vs Q E pp hot hr h => ?_)
  · obtain ⟨p, lp, fs, rfl, _⟩ := h
    rfl
  obtain ⟨p, lp, fs, rfl, he, l80, q⟩ := h
  refine ⟨_, (pss_one (ps_ret (Hl.pe_lcH (own := [("unknown", 2)]) (g := gName 2) (Nn.hotB hot) sc__law_states.nd (L2H.pi_range1H (by rfl) T.z_range (pa_cons (pv 1) pa_nil)) (blkOk_by (N := ["equations", "count", "unknown"]) (sc := defScope s__law_states) (by decide +kernel)) (fun _ _ _ _ _ _ _ => pg_name (i := 2) sc__law_states.nd rfl (Or.inl rfl))
    (fun _ _ _ _ _ _ hp => (pe_tup (pa_cons (show PE _ _ (L2H.tMethH (A 6) "kind" (sp_kindH K A) (fun _ => E0) _ _) from L2H.pe_methH (pv 0) T.q_Equations T.m_Equations_kind (okh_kind T) (hr.mono (by decide)) (Nn.hotK hp) T.b_Equations_kind Nn.passA (pa_cons (pv 2) pa_nil)) (pa_cons (show PE _ _ (L2H.tMethH (A 6) "form" (sp_formH K A) (fun _ => E0) _ _) from L2H.pe_methH (pv 0) T.q_Equations T.m_Equations_form (okh_form T) (hr.mono (by decide)) (Nn.hotK hp) T.b_Equations_form Nn.passA (pa_cons (pv 2) pa_nil)) pa_nil))))))), ?_⟩
  walk_at "z"
  refine z_lcRE ?_
  walk_at "z"
  refine z_lcRD (K := K) fs.length (stsD fs) (by unfold stsD; rw [List.length_map, List.length_range]) (by omega) (fun _ => rfl) (fun d hd => ?_) (fun i H' R hi s' c => ?_) fun D acc H' fD s' hD dA => q D acc H' fD s' hD dA
  · obtain ⟨k, _, rfl⟩ := List.mem_map.mp hd
    exact tup_st _ _
  · have he' := he.mono s'
    obtain ⟨⟨dx, e⟩, _⟩ := id he'
    walk_at "z"
    refine Nn.z_methHE ?_
    walk_at "z"
    refine Cw.z_meth e (Cw.look1n rfl) ?_
    walk_at "z"
    refine ⟨p, lp, fs, (i : Int), rfl, he', by omega, by omega, fun H2 s2 => ?_⟩
    walk_at "z"
    refine Nn.z_methHE ?_
    walk_at "z"
    refine Cw.z_meth (s2 _ _ e) (Cw.look1n rfl) ?_
    walk_at "z"
    refine ⟨p, lp, fs, (i : Int), rfl, he'.mono s2, by omega, by omega, fun v mv => ?_⟩
    walk_at "z"
    intro p9 H9 f9 s9 h9
    refine c (stD (atF fs (i : Int)) (i : Int)) ?_ _ H9 (s2.trans s9) (dp_mk h9 (.cons (.str _) (.cons (dp_mono s9 mv.dp) .nil)))
    unfold stsD
    rw [List.getElem?_map, List.getElem?_range hi]
    rfl
end
/-! ### two equations, the second of which is too great -/
theorem wf1 {u : Int} {r : Rat} (h : r ≠ 0) : Wf [(u, r)] := ⟨List.pairwise_singleton _ _, fun t ht => by rw [List.mem_singleton.mp ht]; exact h⟩
theorem wf2 {u w : Int} {r q : Rat} (h : u < w) (hr : r ≠ 0) (hq : q ≠ 0) : Wf [(u, r), (w, q)] := by
  refine ⟨?_, fun t ht => ?_⟩
  · rw [List.pairwise_cons]
    refine ⟨fun b hb => ?_, List.pairwise_singleton _ _⟩
    rw [List.mem_singleton.mp hb]
    exact h
  · rcases List.mem_cons.mp ht with rfl | ht
    · exact hr
    · rw [List.mem_singleton.mp ht]
      exact hq
theorem cf1 (u : Int) (r : Rat) (x : Int) : cf [(u, r)] x = if u = x then r else 0 := rfl
theorem cf2 (u w : Int) (r q : Rat) (x : Int) : cf [(u, r), (w, q)] x = if u = x then r else if w = x then q else 0 := rfl
def fs1 (r : Rat) : List Fm := [(0, [(0, 1)]), (0, [(0, r)]), (0, [(2, 1)])]
theorem one_ne : (1 : Rat) ≠ 0 := by decide
theorem fits1 : fitsQ 1 := by unfold fitsQ lim; decide
theorem neg_ne {r : Rat} (h : r ≠ 0) : -r ≠ 0 := fun z => h (by grind)
theorem fit_f1 {u : Int} {r : Rat} (h : fitsQ r) : FitF (0, [(u, r)]) := ⟨fits0, fun x => by show fitsQ (cf [(u, r)] x); rw [cf1]; split; exact h; exact fits0⟩
theorem key1 {u : Int} {r : Rat} {U : List Int} (h : u ∈ U) : Keys [(u, r)] U := fun t ht => by rw [List.mem_singleton.mp ht]; exact h
theorem stu3 {a b c : Int} {x y z : Rat} (ha : a ∈ rgU 3) (hb : b ∈ rgU 3) (hc : c ∈ rgU 3) (hx : x ≠ 0 ∧ fitsQ x) (hy : y ≠ 0 ∧ fitsQ y) (hz : z ≠ 0 ∧ fitsQ z) : StU [(0, [(a, x)]), (0, [(b, y)]), (0, [(c, z)])] (rgU 3) := by
  refine ⟨fun f hf => ?_, fun f hf => ?_, fun f hf => ?_, by rw [rgU_len]; decide⟩ <;> simp only [List.mem_cons, List.not_mem_nil, or_false] at hf <;> rcases hf with rfl | rfl | rfl
  · exact wf1 hx.1
  · exact wf1 hy.1
  · exact wf1 hz.1
  · exact fit_f1 hx.2
  · exact fit_f1 hy.2
  · exact fit_f1 hz.2
  · exact key1 ha
  · exact key1 hb
  · exact key1 hc
theorem fmu1 {fs : List Fm} {u : Int} {r : Rat} (l : fs.length = 3) (h0 : 0 ≤ u) (h1 : u < 3) (hr : r ≠ 0) (fr : fitsQ r) : FmU fs (rgU 3) (0, [(u, r)]) := by
  refine ⟨wf1 hr, fit_f1 fr, key1 (rgU_mem h0 h1), fun t ht => ?_⟩
  rw [List.mem_singleton.mp ht, l]
  exact ⟨h0, h1⟩
section
variable {K : PySem.W.Frag} {A : Nat → Addr} {p lp : Addr} {v w : V} {r : Rat} {H : Hp} {Q : VK} {E : XK}
theorem oks1 {a b : Int} (ab : a ≠ b) (fn : fitsQ (-r)) : OkS (0, [(a, 1)]) (0, [(b, r)]) := by
  refine ⟨by show fitsQ ((0 : Rat) - 0); rw [Rat.sub_self]; exact fits0, fun u => ?_⟩
  show fitsQ (cf [(a, 1)] u - cf [(b, r)] u)
  have e : cf [(a, 1)] u - cf [(b, r)] u = if a = u then 1 else if b = u then -r else 0 := by
    rw [cf1, cf1]
    split
    · rename_i h
      rw [if_neg (fun z => ab (h.trans z.symm))]
      grind
    · split <;> grind
  rw [e]
  split
  · exact fits1
  · split
    · exact fn
    · exact fits0
theorem dif1 {a b : Int} {d : Fm} (ba : b < a) (r0 : r ≠ 0) (wd : Wf d.2) (d1 : d.1 = (0 : Rat) - 0) (d2 : ∀ u, cf d.2 u = cf [(a, 1)] u - cf [(b, r)] u) : d = (0, [(b, -r), (a, 1)]) := by
  refine Prod.ext (by rw [d1, Rat.sub_self]) (wf_ext wd (wf2 ba (neg_ne r0) one_ne) fun u => ?_)
  rw [d2, cf1, cf1]
  show _ = cf [(b, -r), (a, 1)] u
  rw [cf2]
  by_cases h : b = u
  · rw [if_pos h, if_pos h, if_neg (by omega)]
    grind
  · rw [if_neg h, if_neg h]
    split <;> grind
theorem tg_first (he : EqL (A 6) K H p lp (fr0 3)) (hL : FmAt K H v (0, [(1, 1)])) (hR : FmAt K H w (0, [(0, r)])) (r0 : r ≠ 0) (fr : fitsQ r) (fn : fitsQ (-r))
    (q1 : ∀ lp' H', Kp p H H' → EqL (A 6) K H' p lp' (fs1 r) → Q (.bl true) H') : sp_equate K A [.ref p, v, w] H Q E := by
  have l3 : (fr0 3).length = 3 := rfl
  have st : StU (fr0 3) (rgU 3) := stu3 (rgU_mem (by decide) (by decide)) (rgU_mem (by decide) (by decide)) (rgU_mem (by decide) (by decide)) ⟨one_ne, fits1⟩ ⟨one_ne, fits1⟩ ⟨one_ne, fits1⟩
  refine ⟨p, lp, fr0 3, v, w, _, _, rgU 3, rfl, he, hL, hR, st, fmu1 l3 (by decide) (by decide) one_ne fits1, fmu1 l3 (by decide) (by decide) r0 fr, by rw [l3]; decide, fun no => absurd (oks1 (by decide) fn) no, fun _ d ud d1 d2 => ?_⟩
  obtain rfl := dif1 (by decide) r0 ud.wf d1 d2
  have sR : ∀ u, sumR (fr0 3) [(0, -r), (1, 1)] z0 u = cf [(0, -r), (1, 1)] u := fun u => by
    show (0 : Rat) + cf [(0, 1)] u * -r + cf [(1, 1)] u * 1 = _
    rw [cf1, cf1, cf2]
    by_cases h : (0 : Int) = u
    · rw [if_pos h, if_pos h, if_neg (by omega)]
      grind
    · rw [if_neg h, if_neg h]
      split <;> grind
  have okr : OkR (fr0 3) (0, [(0, -r), (1, 1)]) := by
    intro i t h
    · match i, h with
      | 0, h =>
        cases h
        refine ⟨⟨by show fitsQ ((0 : Rat) * -r); rw [Rat.zero_mul]; exact fits0, fun u => ?_⟩, by show fitsQ ((0 : Rat) + 0 * -r); rw [Rat.zero_mul, Rat.add_zero]; exact fits0, fun u => ?_⟩
        · show fitsQ (cf [(0, 1)] u * -r)
          rw [cf1]
          split
          · rw [Rat.one_mul]
            exact fn
          · rw [Rat.zero_mul]
            exact fits0
        · show fitsQ ((0 : Rat) + cf [(0, 1)] u * -r)
          rw [cf1, Rat.zero_add]
          split
          · rw [Rat.one_mul]
            exact fn
          · rw [Rat.zero_mul]
            exact fits0
      | 1, h =>
        cases h
        refine ⟨⟨by show fitsQ ((0 : Rat) * 1); rw [Rat.zero_mul]; exact fits0, fun u => ?_⟩, by show fitsQ ((0 : Rat) + 0 * -r + 0 * 1); rw [Rat.zero_mul, Rat.zero_mul, Rat.add_zero, Rat.add_zero]; exact fits0, fun u => ?_⟩
        · show fitsQ (cf [(1, 1)] u * 1)
          rw [cf1, Rat.mul_one]
          split
          · exact fits1
          · exact fits0
        · show fitsQ (sumR (fr0 3) [(0, -r), (1, 1)] z0 u)
          rw [sR, cf2]
          split
          · exact fn
          · split
            · exact fits1
            · exact fits0
  refine ⟨fun no => absurd okr no, fun _ F wF F1 F2 => ?_⟩
  have eF : F = (0, [(0, -r), (1, 1)]) := by
    refine Prod.ext ?_ (wf_ext wF (wf2 (by decide) (neg_ne r0) one_ne) fun u => by rw [F2]; exact sR u)
    rw [F1]
    show (0 : Rat) + 0 * -r + 0 * 1 = 0
    rw [Rat.zero_mul, Rat.zero_mul, Rat.add_zero, Rat.add_zero]
  subst eF
  have m1 : ((-1 : Int) : Rat) / 1 = -1 := by decide +kernel
  refine ⟨fun z => absurd z (by simp), fun init u k e0 => ?_⟩
  have e1 : ([(0, -r)] : Tms) ++ [(1, 1)] = init ++ [(u, k)] := e0
  obtain ⟨rfl, e2⟩ := List.append_inj' e1 rfl
  cases e2
  have okd : OkD (0, [(0, -r), (1, 1)]) [(0, -r)] 1 := by
    refine ⟨?_, ?_, fun x => ?_⟩
    · rw [m1]
      unfold fitsQ lim
      decide
    · show fitsQ ((0 : Rat) * _)
      rw [Rat.zero_mul]
      exact fits0
    · rw [m1, cf1]
      split
      · rw [show -r * -1 = r by grind]
        exact fr
      · rw [Rat.zero_mul]
        exact fits0
  refine ⟨fun no => absurd okd no, fun _ g wg g1 g2 => ?_⟩
  have eg : g = (0, [(0, r)]) := by
    refine Prod.ext (by rw [g1]; exact Rat.zero_mul _) (wf_ext wg (wf1 r0) fun x => ?_)
    rw [g2, m1, cf1]
    show _ = cf [(0, r)] x
    rw [cf1]
    split <;> grind
  subst eg
  have okw : OkW (fr0 3) (0, [(0, r)]) 1 := by
    intro k f hf hk hc
    match k, hf with
    | 0, hf => cases hf; exact absurd rfl hc
    | 1, hf => exact absurd rfl hk
    | 2, hf => cases hf; exact absurd rfl hc
  refine ⟨fun no => absurd okw no, fun _ fs' lp' H' k' _ e' N => ?_⟩
  · have ef : fs' = fs1 r := by
      obtain ⟨l, N⟩ := N
      match fs', l with
      | [f0, f1, f2], _ =>
        have n0 := (N 0 _ _ rfl rfl).2 (by decide)
        have n1 := (N 1 _ _ rfl rfl).1 rfl
        have n2 := (N 2 _ _ rfl rfl).2 (by decide)
        have e0 : f0 = (0, [(0, 1)]) := by
          refine Prod.ext (n0.2.1.trans (by show (0 : Rat) + 0 * _ = 0; rw [Rat.zero_mul, Rat.add_zero])) (wf_ext n0.1 (wf1 one_ne) fun x => (n0.2.2 x).trans ?_)
          show (if x = 1 then 0 else cf [(0, 1)] x) + cf [(0, r)] x * 0 = cf [(0, 1)] x
          rw [Rat.mul_zero, Rat.add_zero, cf1]
          split
          · rw [if_neg (by omega)]
          · rfl
        have e2 : f2 = (0, [(2, 1)]) := by
          refine Prod.ext (n2.2.1.trans (by show (0 : Rat) + 0 * _ = 0; rw [Rat.zero_mul, Rat.add_zero])) (wf_ext n2.1 (wf1 one_ne) fun x => (n2.2.2 x).trans ?_)
          show (if x = 1 then 0 else cf [(2, 1)] x) + cf [(0, r)] x * 0 = cf [(2, 1)] x
          rw [Rat.mul_zero, Rat.add_zero, cf1]
          split
          · rw [if_neg (by omega)]
          · rfl
        rw [e0, n1, e2]
        rfl
    rw [ef] at e'
    exact q1 lp' H' k' e'
theorem tg_second (he : EqL (A 6) K H p lp (fs1 r)) (hL : FmAt K H v (0, [(2, 1)])) (hR : FmAt K H w (0, [(1, r)])) (r0 : r ≠ 0) (fr : fitsQ r) (fn : fitsQ (-r)) (nf : ¬ fitsQ (r * -r))
    (q1 : ∀ H', Same H H' → E (.ref (A 1)) none H') : sp_equate K A [.ref p, v, w] H Q E := by
  have l3 : (fs1 r).length = 3 := rfl
  have st : StU (fs1 r) (rgU 3) := stu3 (rgU_mem (by decide) (by decide)) (rgU_mem (by decide) (by decide)) (rgU_mem (by decide) (by decide)) ⟨one_ne, fits1⟩ ⟨r0, fr⟩ ⟨one_ne, fits1⟩
  refine ⟨p, lp, fs1 r, v, w, _, _, rgU 3, rfl, he, hL, hR, st, fmu1 l3 (by decide) (by decide) one_ne fits1, fmu1 l3 (by decide) (by decide) r0 fr, by rw [l3]; decide, fun no => absurd (oks1 (by decide) fn) no, fun _ d ud d1 d2 => ?_⟩
  obtain rfl := dif1 (by decide) r0 ud.wf d1 d2
  exact ⟨fun _ H' s' => q1 H' s', fun ok => absurd ((ok 0 (1, -r) rfl).1.2 0) nf⟩
theorem part_of (w0 : Int) (h0 : 0 ≤ w0) (h1 : w0 < 2) : ∃ r : Rat, r.num = 1000000000000000000 - 1 ∧ (r.den : Int) = 1000000000000000000 - w0 * 2 ∧ r ≠ 0 ∧ fitsQ r ∧ fitsQ (-r) ∧ ¬ fitsQ (r * -r) := by
  rcases (by omega : w0 = 0 ∨ w0 = 1) with rfl | rfl
  · exact ⟨⟨999999999999999999, 1000000000000000000, by decide, by decide +kernel⟩, rfl, rfl, by decide +kernel, by unfold fitsQ lim; decide +kernel, by unfold fitsQ lim; decide +kernel, by unfold fitsQ lim; decide +kernel⟩
  · exact ⟨⟨999999999999999999, 999999999999999998, by decide, by decide +kernel⟩, rfl, rfl, by decide +kernel, by unfold fitsQ lim; decide +kernel, by unfold fitsQ lim; decide +kernel, by unfold fitsQ lim; decide +kernel⟩
end
def sp__law_too_great (K : PySem.W.Frag) : Sp := fun vs H Q _ => ∃ (p : Addr) (H0 : Hp), vs = [.ref p] ∧ Sd H0 H p ∧ ∀ H', Q (.bl true) H'
section
theorem ok__law_too_great {P : Program} {w : World} {K : PySem.W.Frag} {mg : Str → Option Value} {base : Heap} {A : Nat → Addr} {D : Nat → FuncData} (T : Txt K mg A D) : FnOk P w K mg base (L2.CX P w) 8 (A 37) (D 37) ["stream"] (sp__law_too_great K) := by
  refine T.F__law_too_great.okX sc__law_too_great (fun vs H Q E h => ?_) (fun cdv A' outer s H vs Q E hr h => ?_)
  · obtain ⟨p, H0, rfl, _⟩ := h
    rfl
  obtain ⟨p, H0, rfl, S, q⟩ := h
  refine ⟨_, (pss_cons (ps_set (i := 1) sc__law_too_great.nd rfl (.inl rfl) (pe_call (ok__law_begun T) (hr.mono (by decide)) (by rfl) T.m__law_begun T.F__law_begun.kp T.b__law_begun .nil (passes_call (takes_of rfl rfl rfl rfl) (fun _ _ _ _ h => h)) (pa_cons pe_int pa_nil)))
  (pss_cons (ps_set (i := 2) sc__law_too_great.nd rfl (.inl rfl) (pe_tup (pa_cons (pe_op op_sub (Z.pe_powc (v := 1000000000000000000) ⟨by decide, by decide, by decide⟩ (by decide)) pe_int) (pa_cons (pe_op op_sub (Z.pe_powc (v := 1000000000000000000) ⟨by decide, by decide, by decide⟩ (by decide)) (pe_op op_mul (pe_call (ok__law_next T) (hr.mono (by decide)) (by rfl) T.m__law_next T.F__law_next.kp T.b__law_next .nil (passes_call (takes_of rfl rfl rfl rfl) (fun _ _ _ _ h => h)) (pa_cons (pv 0) (pa_cons pe_int pa_nil))) pe_int)) pa_nil))))
  (pss_cons (ps_expr (pe_meth (pv 1) T.q_Equations T.m_Equations_equate (Nn.toL (ok_Equations_equate T)) (hr.mono (by decide)) T.b_Equations_equate .nil (passes_call (takes_of rfl rfl rfl rfl) (fun _ _ _ _ h => h)) (pa_cons (pe_tup (pa_cons (pe_tup (pa_cons pe_int (pa_cons pe_int pa_nil))) (pa_cons (Dm.pe_tupF (pa_cons (pe_tup (pa_cons pe_int (pa_cons (pe_tup (pa_cons pe_int (pa_cons pe_int pa_nil))) pa_nil))) pa_nil)) pa_nil))) (pa_cons (pe_tup (pa_cons (pe_tup (pa_cons pe_int (pa_cons pe_int pa_nil))) (pa_cons (Dm.pe_tupF (pa_cons (pe_tup (pa_cons pe_int (pa_cons (pv 2) pa_nil))) pa_nil)) pa_nil))) pa_nil))))
  (pss_cons (ps_set (i := 3) sc__law_too_great.nd rfl (.inl rfl) (pe_call (ok__law_states T) (hr.mono (by decide)) (by rfl) T.m__law_states T.F__law_states.kp T.b__law_states .nil (passes_call (takes_of rfl rfl rfl rfl) (fun _ _ _ _ h => h)) (pa_cons (pv 1) (pa_cons pe_int pa_nil))))
  (pss_cons (L2H.ps_try_onlyX (Wout := fun _ _ _ _ => False) rfl rfl ⟨rfl, by decide, .inl T.x_TooGreat.g⟩ (fun hd => L2H.passesAt_of rfl hd) takes0 (fun W pn xe tk tkl PO => (pss_one (ps_expr (Cw.pe_methS (by exact (pv 1)) T.q_Equations T.m_Equations_equate (@ok_Equations_equate _ _ _ _ _ _ _ T) (hr.mono (by decide)) T.b_Equations_equate .nil (fun σ => L2N.passAt tk σ) (pa_cons (pe_tup (pa_cons (pe_tup (pa_cons pe_int (pa_cons pe_int pa_nil))) (pa_cons (Dm.pe_tupF (pa_cons (pe_tup (pa_cons pe_int (pa_cons (pe_tup (pa_cons pe_int (pa_cons pe_int pa_nil))) pa_nil))) pa_nil)) pa_nil))) (pa_cons (pe_tup (pa_cons (pe_tup (pa_cons pe_int (pa_cons pe_int pa_nil))) (pa_cons (Dm.pe_tupF (pa_cons (pe_tup (pa_cons pe_int (pa_cons (pv 2) pa_nil))) pa_nil)) pa_nil))) pa_nil))))))
  (fun a oe cls d pn hz hf tk hc => (pss_one (ps_ret (pe_and (pe_cmpR (show OpR _ (compareOp .Eq) (rEqD K) from op_eqD hr.units) (show PE _ _ (tCallS (sp__law_states K A) (fun _ => E0) _) from L2H.pe_callH (okh_states T) ⟨(Room.mono (j := 3) hr (by decide)).dp, (Room.mono (j := 3) hr (by decide)).un⟩ hc (by rfl) T.m__law_states T.F__law_states.kp T.b__law_states Nn.passA (pa_cons (pv 1) (pa_cons pe_int pa_nil))) (pv 3) (nomark _)) (pe_one (pe_cmpR op_eq (show PE _ _ (L2H.tMethH (A 6) "kind" (sp_kindH K A) (fun _ => E0) _ _) from L2H.pe_methH (pv 1) T.q_Equations T.m_Equations_kind (okh_kind T) ⟨(Room.mono (j := 2) hr (by decide)).dp, (Room.mono (j := 2) hr (by decide)).un⟩ hc T.b_Equations_kind Nn.passA (pa_cons pe_int pa_nil)) pe_str (nomark _))))))))
  (pss_one (ps_ret pe_bl))))))), ?_⟩
  walk_at "z"
  refine ⟨3, rfl, by decide, fun pe lp H1 fpe flp s1 e1 => ?_⟩
  have S1 := S.mono s1
  walk_at "z"
  refine nx S1 (by decide) (lt1000 (by decide)) fun w0 H2 w00 w01 S2 e2 => ?_
  have k2 := kp_eq e2
  walk_at "z"
  obtain ⟨r, rn, rd, r0, fr, fn, nf⟩ := part_of w0 w00 w01
  have ne1 : pe ≠ p := S.ne0 fpe
  have ne2 : lp ≠ p := S.ne0 flp
  have eq2 : EqL (A 6) K H2 pe lp (fr0 3) := e1.tk (S1.notup k2) (fun o h => k2 _ _ ne1 h) (fun o h => k2 _ _ ne2 h)
  intro pt H3 f3 s3 h3
  have dr3 : Dp K H3 (.ref pt) (qD r) := by
    unfold qD
    rw [rn, rd]
    exact dp_mk h3 (.cons (.int _) (.cons (.int _) .nil))
  have eq3 := eq2.mono s3
  obtain ⟨⟨dx, ei⟩, _⟩ := id eq3
  walk_at "z"
  refine Cw.z_meth ei (Cw.look1n rfl) ?_
  walk_at "z"
  intro p4 H4 f4 s4 h4
  walk_at "z"
  intro p5 H5 f5 s5 h5
  walk_at "z"
  intro p6 H6 f6 s6 h6
  walk_at "z"
  refine z_newF (Nat.le_of_ble_eq_true rfl) fun p7 H7 f7 s7 h7 => ?_
  walk_at "z"
  intro p8 H8 f8 s8 h8
  walk_at "z"
  intro p9 H9 f9 s9 h9
  walk_at "z"
  intro p10 H10 f10 s10 h10
  walk_at "z"
  refine z_newF (Nat.le_of_ble_eq_true rfl) fun p11 H11 f11 s11 h11 => ?_
  walk_at "z"
  intro p12 H12 f12 s12 h12
  have s8c := ((s9.trans s10).trans s11).trans s12
  have s3c := ((((s4.trans s5).trans s6).trans s7).trans s8).trans s8c
  refine tg_first (eq3.mono s3c) (FmAt.mono s8c (.mk (.inl (.inl h8)) (dp_mk (((s5.trans (s6.trans s7)).trans s8) _ _ h4) (.cons (.int _) (.cons (.int _) .nil))) (h7.mono s8) (.cons (dp_mk ((s7.trans s8) _ _ h6) (.cons (.int _) (.cons (dp_mk ((s6.trans (s7.trans s8)) _ _ h5) (.cons (.int _) (.cons (.int _) .nil))) .nil))) .nil)))
    (.mk (.inl (.inl h12)) (dp_mk (((s10.trans s11).trans s12) _ _ h9) (.cons (.int _) (.cons (.int _) .nil))) (h11.mono s12) (.cons (dp_mk ((s11.trans s12) _ _ h10) (.cons (.int _) (.cons (dp_mono s3c dr3) .nil))) .nil)) r0 fr fn fun lp' H13 k13 e13 => ?_
  walk_at "z"
  refine ⟨pe, lp', fs1 r, rfl, e13, Nat.le_of_ble_eq_true rfl, fun D acc H14 f14 s14 h14 d14 => ?_⟩
  walk_at "z"
  have dr13 : Dp K H13 (.ref pt) (qD r) := dp_kpI k13 (s3c _ _ ei) (tup_q _) (dp_mono s3c dr3)
  have e14 := e13.mono s14
  obtain ⟨⟨dx2, ei2⟩, _⟩ := id e14
  refine Cw.z_meth ei2 (Cw.look1n rfl) ?_
  walk_at "z"
  intro q4 G4 f4 s4 h4
  walk_at "z"
  intro q5 G5 f5 s5 h5
  walk_at "z"
  intro q6 G6 f6 s6 h6
  walk_at "z"
  refine z_newF (Nat.le_of_ble_eq_true rfl) fun q7 G7 f7 s7 h7 => ?_
  walk_at "z"
  intro q8 G8 f8 s8 h8
  walk_at "z"
  intro q9 G9 f9 s9 h9
  walk_at "z"
  intro q10 G10 f10 s10 h10
  walk_at "z"
  refine z_newF (Nat.le_of_ble_eq_true rfl) fun q11 G11 f11 s11 h11 => ?_
  walk_at "z"
  intro q12 G12 f12 s12 h12
  have s8c := ((s9.trans s10).trans s11).trans s12
  have s3c := ((((s4.trans s5).trans s6).trans s7).trans s8).trans s8c
  refine tg_second (e14.mono s3c) (FmAt.mono s8c (.mk (.inl (.inl h8)) (dp_mk (((s5.trans (s6.trans s7)).trans s8) _ _ h4) (.cons (.int _) (.cons (.int _) .nil))) (h7.mono s8) (.cons (dp_mk ((s7.trans s8) _ _ h6) (.cons (.int _) (.cons (dp_mk ((s6.trans (s7.trans s8)) _ _ h5) (.cons (.int _) (.cons (.int _) .nil))) .nil))) .nil)))
    (.mk (.inl (.inl h12)) (dp_mk (((s10.trans s11).trans s12) _ _ h9) (.cons (.int _) (.cons (.int _) .nil))) (h11.mono s12) (.cons (dp_mk ((s11.trans s12) _ _ h10) (.cons (.int _) (.cons (dp_mono (s14.trans s3c) dr13) .nil))) .nil)) r0 fr fn nf fun G13 t13 => ?_
  refine z_excO (exm T.x_TooGreat T.e_TooGreat_TooGreat) fun a ha => ?_
  walk_at "z"
  have sX := s3c.trans t13
  refine ⟨pe, lp', fs1 r, rfl, e14.mono sX, Nat.le_of_ble_eq_true rfl, fun D2 acc2 G14 f14' s14' h14' d14' => ?_⟩
  walk_at "z"
  have sY := sX.trans s14'
  refine z_eqSame (d := .list (stsD (fs1 r))) (.lst (.inl (.inl h14')) d14') (.lst (.inl (.inl (sY _ _ h14))) (dp_monoA sY d14)) (shaped_sts _) ?_
  walk_at "z"
  have e15 := e14.mono sY
  obtain ⟨⟨dx3, ei3⟩, _⟩ := id e15
  refine Nn.z_methHE ?_
  walk_at "z"
  refine Cw.z_meth ei3 (Cw.look1n rfl) ?_
  walk_at "z"
  refine ⟨pe, lp', fs1 r, 2, rfl, e15, by decide, by show (2 : Int) < 3; decide, fun G15 t15 => ?_⟩
  walk_at "z"
  refine z_eq rfl ?_
  have ek : kindS (atF (fs1 r) 2) 2 = "free" := by
    have : atF (fs1 r) 2 = (0, [(2, 1)]) := rfl
    rw [this]
    unfold kindS
    rw [if_neg (by simp), if_pos rfl]
  rw [ek]
  rw [decide_eq_true rfl]
  exact q _
end
/-! ### rows in a list -/
structure S9 (H H' : Hp) (p0 sol RL : Addr) (n : Nat) (xs : List Int) (ts : List Addr) (rs : List (List Int)) : Prop where
  sd : Sd H H' p0
  hs : H' sol = some (.lst (xs.map V.int))
  ns : sol ≠ p0
  hR : H' RL = some (.lst (ts.map V.ref))
  nR : RL ≠ p0
  sR : sol ≠ RL
  fR : H RL = none
  R : Rows H' n ts rs
  tp : ∀ t ∈ ts, t ≠ p0 ∧ t ≠ RL
section
variable {H H' H2 : Hp} {p0 sol RL : Addr} {n : Nat} {xs : List Int} {ts : List Addr} {rs : List (List Int)}
theorem S9.mono (S : S9 H H' p0 sol RL n xs ts rs) (s : Same H' H2) : S9 H H2 p0 sol RL n xs ts rs :=
  { S with sd := S.sd.mono s, hs := s _ _ S.hs, hR := s _ _ S.hR, R := S.R.mono s }
theorem S9.next (S : S9 H H' p0 sol RL n xs ts rs) (T : Sd H H2 p0) (k : Kp p0 H' H2) : S9 H H2 p0 sol RL n xs ts rs :=
  { S with sd := T, hs := k _ _ S.ns S.hs, hR := k _ _ S.nR S.hR, R := S.R.kp fun t ht o h => k t o (S.tp t ht).1 h }
theorem S9.add (S : S9 H H' p0 sol RL n xs ts rs) {t : Addr} {es : List Int} (ht : H' t = some (.lst (es.map V.int))) (tp : t ≠ p0) (tR : t ≠ RL) (he : es.length = n ∧ ∀ e ∈ es, e.natAbs ≤ 3) : S9 H (upd H' RL (.lst ((ts ++ [t]).map V.ref))) p0 sol RL n xs (ts ++ [t]) (rs ++ [es]) := by
  have k : ∀ b o, b ≠ RL → H' b = some o → upd H' RL (.lst ((ts ++ [t]).map V.ref)) b = some o := fun b o hb h => by rw [upd_ne hb]; exact h
  have tpn : ∀ t' ∈ ts ++ [t], t' ≠ p0 ∧ t' ≠ RL := fun t' h' => by
    rcases List.mem_append.mp h' with m | m
    · exact S.tp t' m
    · rw [List.mem_singleton.mp m]
      exact ⟨tp, tR⟩
  exact { S with sd := S.sd.put S.fR S.nR, hs := k _ _ S.sR S.hs, hR := upd_same, R := (S.R.kp fun t' h' o h => k t' o (S.tp t' h').2 h).snoc (k _ _ tR ht) he, tp := tpn }
end
theorem map_ref {ys : List V} {ts : List Addr} (h : ys.Perm (ts.map V.ref)) : ∃ us : List Addr, ys = us.map V.ref ∧ ∀ t, t ∈ us ↔ t ∈ ts := by
  have h1 : ∀ y ∈ ys, ∃ t, y = V.ref t := fun y hy => by
    obtain ⟨t, _, e⟩ := List.mem_map.mp (h.mem_iff.mp hy)
    exact ⟨t, e.symm⟩
  have h2 : ∀ ys : List V, (∀ y ∈ ys, ∃ t, y = V.ref t) → ∃ us : List Addr, ys = us.map V.ref := by
    intro ys
    induction ys with
    | nil => intro _; exact ⟨[], rfl⟩
    | cons y l ih =>
      intro hh
      obtain ⟨us, e⟩ := ih fun z hz => hh z (.tail _ hz)
      obtain ⟨t, et⟩ := hh y (.head _)
      exact ⟨t :: us, by rw [e, et]; rfl⟩
  obtain ⟨us, rfl⟩ := h2 ys h1
  refine ⟨us, rfl, fun t => ?_⟩
  have := h.mem_iff (a := V.ref t)
  rw [List.mem_map, List.mem_map] at this
  constructor
  · intro m
    obtain ⟨t', m', e⟩ := this.mp ⟨t, m, rfl⟩
    cases e
    exact m'
  · intro m
    obtain ⟨t', m', e⟩ := this.mpr ⟨t, m, rfl⟩
    cases e
    exact m'
theorem rows_of {H : Hp} {n : Nat} {ts : List Addr} {rs : List (List Int)} (R : Rows H n ts rs) : ∀ (us : List Addr), (∀ u ∈ us, u ∈ ts) → ∃ qs, Rows H n us qs
  | [], _ => ⟨[], rfl, fun i t es h => (by cases h), fun es h => (by cases h)⟩
  | u :: us, h => by
    obtain ⟨qs, R2⟩ := rows_of R us fun v hv => h v (.tail _ hv)
    obtain ⟨i, hi⟩ := List.mem_iff_getElem?.mp (h u (.head _))
    obtain ⟨es, _, he, ok⟩ := R.get hi
    refine ⟨es :: qs, by rw [List.length_cons, List.length_cons, R2.len], fun i t es' a b => ?_, fun e m => ?_⟩
    · cases i with
      | zero =>
        cases a
        cases b
        exact he
      | succ i => exact R2.at_ i t es' a b
    · rcases List.mem_cons.mp m with rfl | m
      · exact ok
      · exact R2.ok e m
theorem Rows.mem {H : Hp} {n : Nat} {ts : List Addr} {rs : List (List Int)} (R : Rows H n ts rs) (es : List Int) : es ∈ rs ↔ ∃ t ∈ ts, H t = some (.lst (es.map V.int)) := by
  constructor
  · intro m
    obtain ⟨i, hi⟩ := List.mem_iff_getElem?.mp m
    have l := (List.getElem?_eq_some_iff.mp hi).1
    have et : ts[i]? = some (ts[i]'(by rw [R.len]; exact l)) := List.getElem?_eq_getElem _
    exact ⟨_, List.mem_of_getElem? et, R.at_ i _ es et hi⟩
  · rintro ⟨t, m, e⟩
    obtain ⟨i, hi⟩ := List.mem_iff_getElem?.mp m
    obtain ⟨es', h1, h2, _⟩ := R.get hi
    rw [e] at h2
    have h3 : es.map V.int = es'.map V.int := by
      injection h2 with h2
      injection h2
    rw [int_inj h3]
    exact List.mem_of_getElem? h1
theorem rsS_eq {H : Hp} {n : Nat} {ts us : List Addr} {rs qs : List (List Int)} (R : Rows H n ts rs) (R2 : Rows H n us qs) (h : ∀ t, t ∈ us ↔ t ∈ ts) : rsS qs = rsS rs := by
  funext e
  refine propext ⟨?_, ?_⟩
  · rintro ⟨es, m, rfl⟩
    obtain ⟨t, mt, et⟩ := (R2.mem es).mp m
    exact ⟨es, (R.mem es).mpr ⟨t, (h t).mp mt, et⟩, rfl⟩
  · rintro ⟨es, m, rfl⟩
    obtain ⟨t, mt, et⟩ := (R.mem es).mp m
    exact ⟨es, (R2.mem es).mpr ⟨t, (h t).mpr mt, et⟩, rfl⟩
/-- a comprehension over a range whose test acts -/
theorem z_lcRP {H : Hp} {Q : VK} {σ : L2.St} {k : Nat} {tt : TT} {te : TE} {vs : List Nat} (m : Nat) (hm : m ≤ 1000) (hw : ∀ x, wipe ((wipe σ vs).set k (some x)) vs = wipe σ vs) (Pv : Nat → Addr → List V → Hp → Prop)
    (h0 : ∀ D H', H D = none → Same H H' → H' D = some (.lst []) → Pv 0 D [] H')
    (hs : ∀ i D acc H', i < m → acc.length ≤ i → H' D = some (.lst acc) → Pv i D acc H' → tt ((wipe σ vs).set k (some (.int (i : Int)))) H' fun b H3 =>
      if b = true then te ((wipe σ vs).set k (some (.int (i : Int)))) H3 (fun y H4 => ∃ acc, H4 D = some (.lst acc) ∧ acc.length < sizeLine ∧ ∃ acc', acc'.length ≤ i + 1 ∧ upd H4 D (.lst (acc ++ [y])) D = some (.lst acc') ∧ Pv (i + 1) D acc' (upd H4 D (.lst (acc ++ [y])))) else ∃ acc', acc'.length ≤ i + 1 ∧ H3 D = some (.lst acc') ∧ Pv (i + 1) D acc' H3)
    (hd : ∀ D acc H', H D = none → acc.length ≤ m → H' D = some (.lst acc) → Pv m D acc H' → Q (.ref D) H') : LcRE (gName k) tt te vs σ Q [.int (m : Int)] H := by
  refine ⟨(m : Int), rfl, by omega, by omega, fun D hD => ?_⟩
  refine lc_range (lo := 0) (n := (m : Int).toNat) (fun i H' => ∃ acc, acc.length ≤ i ∧ H' D = some (.lst acc) ∧ Pv i D acc H') ⟨[], Nat.le_refl _, upd_same, h0 D _ hD (same_upd hD) upd_same⟩ (fun i H' hi ⟨acc, hl, hH, pv⟩ => ?_) (fun H' ⟨acc, hl, hH, pv⟩ => hd D acc H' hD (by simpa using hl) hH (by simpa using pv))
  have e : (0 : Int) + (i : Int) = (i : Int) := Int.zero_add _
  show wipe ((wipe σ vs).set k (some (.int ((0 : Int) + (i : Int))))) vs = wipe σ vs ∧ _
  refine ⟨hw _, ?_⟩
  rw [e]
  exact hs i D acc H' (by simpa using hi) hl hH pv
theorem tup_sts (fs : List Fm) : tupOnlyA (stsD fs) = true := tupOnly_all fun d hd => by
  obtain ⟨k, _, rfl⟩ := List.mem_map.mp hd
  exact tup_st _ _
def sp_law (K : PySem.W.Frag) : Sp := fun vs H Q _ => ∃ (a : Addr) (ns : List Int), vs = [.ref a] ∧ SqL K H a (ns.map V.int) ∧ ns.length ≤ 63 ∧ ∀ H', Q (.bl true) H'
abbrev nn : Option V := none
section
theorem ok_law {P : Program} {w : World} {K : PySem.W.Frag} {mg : Str → Option Value} {base : Heap} {A : Nat → Addr} {D : Nat → FuncData} (T : Txt K mg A D) : FnOk P w K mg base CX0 9 (A 39) (D 39) ["script"] (sp_law K) := by
  refine T.F_law.ok sc_law (fun vs H Q E h => ?_) (fun cdv A' outer s H vs Q E hr h => ?_)
  · obtain ⟨l, ns, rfl, _⟩ := h
    rfl
  obtain ⟨l, ns, rfl, hS, _, q⟩ := h
  refine ⟨_, (pss_cons (ps_set (i := 1) sc_law.nd rfl (.inr rfl) (pe_call (ok__law_stream T) (hr.mono (by decide)) (by rfl) T.m__law_stream T.F__law_stream.kp T.b__law_stream .nil passL (pa_cons (pe_call (ok__law_cell T) (hr.mono (by decide)) (by rfl) T.m__law_cell T.F__law_cell.kp T.b__law_cell .nil passL (pa_cons (pv 0) (pa_cons pe_int pa_nil))) pa_nil)))
  (pss_cons (ps_set (i := 2) sc_law.nd rfl (.inl rfl) (pe_op op_add (pe_call (ok__law_next T) (hr.mono (by decide)) (by rfl) T.m__law_next T.F__law_next.kp T.b__law_next .nil passL (pa_cons (pv 1) (pa_cons pe_int pa_nil))) pe_int))
  (pss_cons (ps_setLc (i := 3) (own := [("k", 4)]) (g := gName 4) (tt := tYes) rfl sc_law.nd rfl rfl (sw_true rfl rfl rfl (by decide +kernel)) (pi_range1 (by rfl) T.z_range (pa_cons (pv 2) pa_nil)) (blkOk_by (N := ["script", "stream", "count", "solution", "k", "rows", "own", "factors", "m", "a", "b", "other", "again", "first", "second", "states", "row"]) (sc := defScope s_law) (by decide +kernel)) (fun _ _ _ _ _ => pg_name (i := 4) sc_law.nd rfl (Or.inl rfl)) (fun _ _ _ _ _ => pts_nil) (fun _ _ _ _ _ => (pe_op op_sub (pe_call (ok__law_next T) (hr.mono (by decide)) (by rfl) T.m__law_next T.F__law_next.kp T.b__law_next .nil passL (pa_cons (pv 1) (pa_cons pe_int pa_nil))) pe_int)))
  (pss_cons (ps_set (i := 5) sc_law.nd rfl (.inr rfl) (pe_lst pa_nil))
  (pss_cons (ps_for PassesOwn.never rfl (pi_range1 (by rfl) T.z_range (pa_cons (pe_call (ok__law_next T) (hr.mono (by decide)) (by rfl) T.m__law_next T.F__law_next.kp T.b__law_next .nil passL (pa_cons (pv 1) (pa_cons pe_int pa_nil))) pa_nil)) (pg_name (i := 4) sc_law.nd rfl (.inl rfl))
  (pss_cons (ps_set (i := 6) sc_law.nd rfl (.inr rfl) (pe_call (ok__law_stream T) (hr.mono (by decide)) (by rfl) T.m__law_stream T.F__law_stream.kp T.b__law_stream .nil passL (pa_cons (pe_call (ok__law_cell T) (hr.mono (by decide)) (by rfl) T.m__law_cell T.F__law_cell.kp T.b__law_cell .nil passL (pa_cons (pv 0) (pa_cons (pe_op op_add (pv 4) pe_int) pa_nil))) pa_nil)))
  (pss_cons (ps_setLc (i := 7) (own := [("m", 8)]) (g := gName 8) (tt := tYes) rfl sc_law.nd rfl rfl (sw_true rfl rfl rfl (by decide +kernel)) (pi_range1 (by rfl) T.z_range (pa_cons (pv 2) pa_nil)) (blkOk_by (N := ["script", "stream", "count", "solution", "k", "rows", "own", "factors", "m", "a", "b", "other", "again", "first", "second", "states", "row"]) (sc := defScope s_law) (by decide +kernel)) (fun _ _ _ _ _ => pg_name (i := 8) sc_law.nd rfl (Or.inl rfl)) (fun _ _ _ _ _ => pts_nil) (fun _ _ _ _ _ => (pe_op op_sub (pe_call (ok__law_next T) (hr.mono (by decide)) (by rfl) T.m__law_next T.F__law_next.kp T.b__law_next .nil passL (pa_cons (pv 6) (pa_cons pe_int pa_nil))) pe_int)))
  (Evl.pss_cut (ps_if (PW.pt (pw_and (pt_cmpR op_gt (pv 4) pe_int (nomark _)) (pw_and1 (pt_cmpR op_eq (pe_call (ok__law_next T) (hr.mono (by decide)) (by rfl) T.m__law_next T.F__law_next.kp T.b__law_next .nil passL (pa_cons (pv 6) (pa_cons pe_int pa_nil))) pe_int (nomark _)))))
  (pss_cons (ps_set (i := 9) sc_law.nd rfl (.inr rfl) (pe_ix ix_list (pv 5) (pe_call (ok__law_next T) (hr.mono (by decide)) (by rfl) T.m__law_next T.F__law_next.kp T.b__law_next .nil passL (pa_cons (pv 6) (pa_cons (pv 4) pa_nil))) (fun _ _ => rfl)))
  (pss_cons (ps_set (i := 10) sc_law.nd rfl (.inr rfl) (pe_ix ix_list (pv 5) (pe_call (ok__law_next T) (hr.mono (by decide)) (by rfl) T.m__law_next T.F__law_next.kp T.b__law_next .nil passL (pa_cons (pv 6) (pa_cons (pv 4) pa_nil))) (fun _ _ => rfl)))
  (pss_one (ps_setLc (i := 7) (own := [("m", 8)]) (g := gName 8) (tt := tYes) rfl sc_law.nd rfl rfl (sw_true rfl rfl rfl (by decide +kernel)) (pi_range1 (by rfl) T.z_range (pa_cons (pv 2) pa_nil)) (blkOk_by (N := ["script", "stream", "count", "solution", "k", "rows", "own", "factors", "m", "a", "b", "other", "again", "first", "second", "states", "row"]) (sc := defScope s_law) (by decide +kernel)) (fun _ _ _ _ _ => pg_name (i := 8) sc_law.nd rfl (Or.inl rfl)) (fun _ _ _ _ _ => pts_nil) (fun _ _ _ _ _ => (pe_callB (Z.c_max2 rfl) (by rfl) T.z_max (by decide +kernel) (pa_cons (pe_un un_neg pe_int) (pa_cons (pe_callB (Z.c_min2 rfl) (by rfl) T.z_min (by decide +kernel) (pa_cons pe_int (pa_cons (pe_op op_add (pe_ix (show IxR _ (rIxL K) from ix_list) (pv 9) (pv 8) (fun _ _ => rfl)) (pe_ix (show IxR _ (rIxL K) from ix_list) (pv 10) (pv 8) (fun _ _ => rfl))) pa_nil))) pa_nil))))))))
  pss_nil)
  (pss_one (ps_expr (pe_bm PySem.F.plainAttrs_list PySem.F.slot_list_append PySem.F.type_list_append mt_append (pv 5) (pa_cons (pv 7) pa_nil))))))))
  (pss_cons (ps_set (i := 11) sc_law.nd rfl (.inr rfl) (pe_call (ok__law_stream T) (hr.mono (by decide)) (by rfl) T.m__law_stream T.F__law_stream.kp T.b__law_stream .nil passL (pa_cons (pe_call (ok__law_cell T) (hr.mono (by decide)) (by rfl) T.m__law_cell T.F__law_cell.kp T.b__law_cell .nil passL (pa_cons (pv 0) (pa_cons pe_int pa_nil))) pa_nil)))
  (pss_cons (ps_setLc (i := 12) (own := [("k", 4)]) (g := gName 4) rfl sc_law.nd rfl rfl (sw_true rfl rfl rfl (by decide +kernel)) (pi_range1 (by rfl) T.z_range (pa_cons (pe_callB Z.c_len (by rfl) T.z_len (by decide +kernel) (pa_cons (pv 5) pa_nil)) pa_nil)) (blkOk_by (N := ["script", "stream", "count", "solution", "k", "rows", "own", "factors", "m", "a", "b", "other", "again", "first", "second", "states", "row"]) (sc := defScope s_law) (by decide +kernel)) (fun _ _ _ _ _ => pg_name (i := 4) sc_law.nd rfl (Or.inl rfl)) (fun _ _ _ _ _ => (pts_one (pt_cmpR op_eq (pe_call (ok__law_next T) (hr.mono (by decide)) (by rfl) T.m__law_next T.F__law_next.kp T.b__law_next .nil passL (pa_cons (pv 11) (pa_cons pe_int pa_nil))) pe_int (nomark _)))) (fun _ _ _ _ _ => (pe_ix (show IxR _ (rIxL K) from ix_list) (pv 5) (pv 4) (fun _ _ => rfl))))
  (pss_cons (ps_set (i := 13) sc_law.nd rfl (.inl rfl) (pe_call (ok__law_run T) (hr.mono (by decide)) (by rfl) T.m__law_run T.F__law_run.kp T.b__law_run .nil passL (pa_cons (pv 1) (pa_cons (pv 5) (pa_cons (pv 3) pa_nil)))))
  (pss_cons (ps_set (i := 14) sc_law.nd rfl (.inl rfl) (pe_call (ok__law_run T) (hr.mono (by decide)) (by rfl) T.m__law_run T.F__law_run.kp T.b__law_run .nil passL (pa_cons (pv 11) (pa_cons (pe_call (ok__law_order T) (hr.mono (by decide)) (by rfl) T.m__law_order T.F__law_order.kp T.b__law_order .nil passL (pa_cons (pv 11) (pa_cons (pe_op op_cat (pv 5) (pv 12)) pa_nil))) (pa_cons (pv 3) pa_nil)))))
  (pss_cons (ps_set (i := 15) sc_law.nd rfl (.inl rfl) (pe_call (ok__law_states T) (hr.mono (by decide)) (by rfl) T.m__law_states T.F__law_states.kp T.b__law_states .nil passL (pa_cons (pv 13) (pa_cons (pv 2) pa_nil))))
  (pss_cons (ps_if (pt_cmpR (op_neD hr.units) (pe_call (ok__law_states T) (hr.mono (by decide)) (by rfl) T.m__law_states T.F__law_states.kp T.b__law_states .nil passL (pa_cons (pv 14) (pa_cons (pv 2) pa_nil))) (pv 15) (nomark _))
  (pss_one (ps_ret pe_bl))
  pss_nil)
  (Evl.pss_cut (ps_if (pt_cmpR op_gt (pe_callB Z.c_len (by rfl) T.z_len (by decide +kernel) (pa_cons (pv 5) pa_nil)) pe_int (nomark _))
  (pss_cons (ps_set (i := 16) sc_law.nd rfl (.inl rfl) (pe_ix ix_list (pv 5) (pe_call (ok__law_next T) (hr.mono (by decide)) (by rfl) T.m__law_next T.F__law_next.kp T.b__law_next .nil passL (pa_cons (pv 11) (pa_cons (pe_callB Z.c_len (by rfl) T.z_len (by decide +kernel) (pa_cons (pv 5) pa_nil)) pa_nil))) (fun _ _ => rfl)))
  (pss_one (ps_if (PW.pt (pw_or (pt_not (pt_val (pe_call (ok__law_contradicts T) (hr.mono (by decide)) (by rfl) T.m__law_contradicts T.F__law_contradicts.kp T.b__law_contradicts .nil passL (pa_cons (pv 13) (pa_cons (pv 16) (pa_cons (pv 3) pa_nil)))))) (pw_or1 (pt_not (pt_val (pe_call (ok__law_holds_still T) (hr.mono (by decide)) (by rfl) T.m__law_holds_still T.F__law_holds_still.kp T.b__law_holds_still .nil passL (pa_cons (pv 13) (pa_cons (pv 16) (pa_cons (pv 3) pa_nil)))))))))
  (pss_one (ps_ret pe_bl))
  pss_nil)))
  pss_nil)
  (pss_one (ps_ret (pe_and (pe_cmpR (op_eqD hr.units) (pe_call (ok__law_states T) (hr.mono (by decide)) (by rfl) T.m__law_states T.F__law_states.kp T.b__law_states .nil passL (pa_cons (pv 13) (pa_cons (pv 2) pa_nil))) (pv 15) (nomark _)) (pe_one (pe_call (ok__law_too_great T) (hr.mono (by decide)) (by rfl) T.m__law_too_great T.F__law_too_great.kp T.b__law_too_great .nil passL (pa_cons (pv 1) pa_nil)))))))))))))))))), ?_⟩
  walk_at "z"
  refine ⟨l, ns, 0, rfl, hS, fun v => ?_⟩
  walk_at "z"
  refine ⟨v, rfl, fun p0 H1 i1 j1 m hp s1 h1 => ?_⟩
  have S1 := Sd.mk0 hp s1 h1
  walk_at "z"
  refine nx S1 (by decide) (lt1000 (by decide)) fun k0 H2 k00 k01 S2 e2 => ?_
  walk_at "z"
  obtain ⟨n, hn⟩ : ∃ n : Nat, k0 + 1 = (n : Int) := ⟨(k0 + 1).toNat, by omega⟩
  rw [hn]
  have n1 : 1 ≤ n := by omega
  have n5 : n ≤ 5 := by omega
  refine z_lcRE ?_
  walk_at "z"
  refine z_drawsC S2 (c := 9) (z := 19) rfl (by omega) (by decide) (lt1000 (by decide)) (fun _ => rfl) (fun i H' R h => by
      walk_at "z"
      exact nx_mono (h fun _ _ _ => False) fun w H2 r => by
        obtain ⟨w', e, r⟩ := r
        cases e
        walk_at "z"
        exact r) fun sol H3 xs f3 ne3 S3 k3 h3 lx bx => ?_
  have x9 : ∀ x ∈ xs, x.natAbs ≤ 9 := fun x hx => by have := bx x hx; omega
  walk_at "z"
  intro RL H4 fR s4 hR
  have nRp : RL ≠ p0 := S3.ne0 fR
  have I0 : S9 H H4 p0 sol RL n xs [] [] :=
    { sd := S3.mono s4, hs := s4 _ _ h3, ns := ne3, hR := hR, nR := nRp, sR := ne_of_none h3 fR, fR := S3.none0 fR, R := ⟨rfl, fun i t es h => (by cases h), fun es h => (by cases h)⟩, tp := fun t h => (by cases h) }
  walk_at "z"
  refine z_forRE ?_
  walk_at "z"
  refine nx I0.sd (by decide) (lt1000 (by decide)) fun m7 H5 m70 m71 S5 e5 => ?_
  have I5 := I0.next S5 (kp_eq e5)
  obtain ⟨M, hM⟩ : ∃ M : Nat, m7 = (M : Int) := ⟨m7.toNat, by omega⟩
  subst hM
  unfold ForRQ
  refine z_forR1 M (by omega) (fun R q => q) (fun i σ' H' => ∃ (ts : List Addr) (rs : List (List Int)) (x4 x6 x7 x8 x9 x10 : Option V), σ' = [some (.ref l), some (.ref p0), some (.int (n : Int)), some (.ref sol), x4, some (.ref RL), x6, x7, x8, x9, x10, nn, nn, nn, nn, nn, nn] ∧ S9 H H' p0 sol RL n xs ts rs ∧ ts.length = i)
    ⟨[], [], _, _, _, _, _, _, rfl, I5, rfl⟩ ?_ ?_
  · rintro i σ' H6 hi ⟨ts, rs, x4, x6, x7, x8, x9', x10, rfl, S, lts⟩
    walk_at "z"
    refine ⟨l, ns, i + 2, rfl, sqL_monoE S.sd.same hS, fun v => ?_⟩
    walk_at "z"
    refine ⟨v, rfl, fun q0 H7 a b m fq s7 hq => ?_⟩
    have T7 := Sd.mk0 fq s7 hq
    walk_at "z"
    refine z_lcRE ?_
    walk_at "z"
    refine z_drawsC T7 (c := 3) (z := 7) rfl (by omega) (by decide) (lt1000 (by decide)) (fun _ => rfl) (fun i H' R h => by
      walk_at "z"
      exact nx_mono (h fun _ _ _ => False) fun w H2 r => by
        obtain ⟨w', e, r⟩ := r
        cases e
        walk_at "z"
        exact r) fun fa H8 es f8 ne8 T8 k8 h8 le be' => ?_
    have be3 : ∀ e ∈ es, e.natAbs ≤ 3 := fun e he => by
      have := be' e he
      omega
    have S8 := S.mono T8.same
    have nfaRL : fa ≠ RL := (ne_of_none (s7 _ _ S.hR) f8).symm
    have nfap : fa ≠ p0 := by
      obtain ⟨x, y, w, e⟩ := S.sd.stm
      exact (ne_of_none (s7 _ _ e) f8).symm
    walk_at "z"
    refine z_cut (fun σ' H9 => ∃ (fa : Addr) (es : List Int) (x8 x9 x10 : Option V), σ' = [some (.ref l), some (.ref p0), some (.int (n : Int)), some (.ref sol), some (.int (i : Int)), some (.ref RL), some (.ref q0), some (.ref fa), x8, x9, x10, nn, nn, nn, nn, nn, nn] ∧
      S9 H H9 p0 sol RL n xs ts rs ∧ H9 fa = some (.lst (es.map V.int)) ∧ fa ≠ p0 ∧ fa ≠ RL ∧ es.length = n ∧ ∀ e ∈ es, e.natAbs ≤ 3) ?_ ?_
    · walk_at "z"
      refine z_if (fun c1 => ?_) (fun c1 => ?_)
      · walk_at "z"
        refine nx T8 (by decide) (lt1000 (by decide)) fun w0 H9 w00 w01 T9 e9 => ?_
        have k9 := kp_eq e9
        have h9 := k9 _ _ ne8 h8
        have S9' := S.mono T9.same
        walk_at "z"
        refine z_if (fun c2 => ?_) (fun c2 => ?_)
        · walk_at "z"
          refine nx T9 (by omega) (lt1000 (by omega)) fun wa HA wa0 wa1 TA eA => ?_
          have SA := S.mono TA.same
          obtain ⟨ta, hta⟩ : ∃ t, ts[wa.toNat]? = some t := ⟨_, List.getElem?_eq_getElem (by omega)⟩
          obtain ⟨ea, _, hea, lea, bea⟩ := SA.R.get hta
          walk_at "z"
          refine z_ixL (.inl (.inl SA.hR)) (atI_pos wa0 (by rw [List.getElem?_map, hta]; rfl)) ?_
          walk_at "z"
          refine nx TA (by omega) (lt1000 (by omega)) fun wb HB wb0 wb1 TB eB => ?_
          have SB := S.mono TB.same
          obtain ⟨tb, htb⟩ : ∃ t, ts[wb.toNat]? = some t := ⟨_, List.getElem?_eq_getElem (by omega)⟩
          obtain ⟨eb, _, heb, leb, beb⟩ := SB.R.get htb
          have nq : ∀ t ∈ ts, t ≠ q0 := fun t ht => by
            obtain ⟨es, e⟩ := S.R.ex ht
            exact ne_of_none e fq
          have heaB := kp_eq eB _ _ (nq _ (List.mem_of_getElem? hta)) hea
          walk_at "z"
          refine z_ixL (.inl (.inl SB.hR)) (atI_pos wb0 (by rw [List.getElem?_map, htb]; rfl)) ?_
          walk_at "z"
          refine z_lcRE ?_
          walk_at "z"
          have mm : ∀ z : Int, ∃ w : Int, (if (if z < 3 then z else 3) > -3 then (if z < 3 then z else 3) else -3) = w ∧ w.natAbs ≤ 3 := fun z => ⟨_, rfl, by split <;> split <;> omega⟩
          refine z_lcRr n (by omega) (fun _ => rfl) (fun i' D acc H' => Same HB H' ∧ HB D = none ∧ ∃ es : List Int, acc = es.map V.int ∧ ∀ e ∈ es, e.natAbs ≤ 3) (fun D9 H' f s _ => ⟨s, f, [], rfl, fun _ h => (by cases h)⟩) (fun i' D acc H' hi' hl' hD9 ⟨s', f9, es', ea', eb'⟩ => ?_) (fun D acc HC fC hlC hC ⟨sC, _, es', ea', eb'⟩ => ?_)
          · walk_at "z"
            refine z_ixL (.inl (.inl (s' _ _ heaB))) (iN_at (by omega)) ?_
            walk_at "z"
            refine z_ixL (.inl (.inl (s' _ _ heb))) (iN_at (by omega)) ?_
            walk_at "z"
            obtain ⟨wm, ew, hwm⟩ := mm (iN ea i' + iN eb i')
            rw [ew]
            refine z_lcB hD9 hl' (by omega) fun HF hF kF eF => ⟨fun b o h => ?_, f9, es' ++ [wm], by rw [ea', List.map_append]; rfl, fun e he => ?_⟩
            · rw [eF b (ne_of_none h f9)]
              exact s' _ _ h
            · rcases List.mem_append.mp he with m | m
              · exact eb' e m
              · rw [List.mem_singleton.mp m]
                exact hwm
          · walk_at "z"
            rw [ea', List.length_map] at hlC
            exact ⟨D, es', _, _, _, rfl, SB.mono sC, by rw [hC, ea'], (by
              obtain ⟨x, y, w, e⟩ := SB.sd.stm
              exact (ne_of_none e fC).symm), (ne_of_none SB.hR fC).symm, hlC, eb'⟩
        · walk_at "z"
          exact ⟨fa, es, _, _, _, rfl, S9', h9, nfap, nfaRL, le, be3⟩
      · walk_at "z"
        exact ⟨fa, es, _, _, _, rfl, S8, h8, nfap, nfaRL, le, be3⟩
    clear S8 nfaRL nfap h8 be3 be' le f8 ne8 k8 T8 fa es
    rintro σ' H9 ⟨fa, es, x8, x9, x10, rfl, S, h9, nfa, nfR, le, be⟩
    walk_at "z"
    refine z_bmL (fun R q => by walk_at "z"; exact q) S.hR ?_
    walk_at "z"
    refine z_append S.hR (by rw [List.length_map]; omega) ?_
    walk_at "z"
    have := S.add h9 nfa nfR ⟨le, be⟩
    rw [List.map_append] at this
    exact ⟨ts ++ [fa], rs ++ [es], _, _, _, _, _, _, rfl, this, by rw [List.length_append, lts]; rfl⟩
  · rintro σ' H6 ⟨ts, rs, x4, x6, x7, x8, x9', x10, rfl, S, lts⟩
    walk_at "z"
    refine ⟨l, ns, 1, rfl, sqL_monoE S.sd.same hS, fun v => ?_⟩
    walk_at "z"
    refine ⟨v, rfl, fun q0 H7 a b m fq s7 hq => ?_⟩
    have T7 := Sd.mk0 fq s7 hq
    have nqp : q0 ≠ p0 := by
      obtain ⟨x, y, w, e⟩ := S.sd.stm
      exact (ne_of_none e fq).symm
    have nqs : sol ≠ q0 := ne_of_none S.hs fq
    have nqR : RL ≠ q0 := ne_of_none S.hR fq
    have nqt : ∀ t ∈ ts, t ≠ q0 := fun t ht => by
      obtain ⟨es, e⟩ := S.R.ex ht
      exact ne_of_none e fq
    walk_at "z"
    refine z_lcRE ?_
    walk_at "z"
    refine z_lenL (.inl (.inl (s7 _ _ S.hR))) ?_
    walk_at "z"
    rw [List.length_map]
    refine z_lcRP ts.length (by omega) (fun _ => rfl) (fun i D acc H' => Sd H6 H' q0 ∧ H7 D = none ∧ ∃ us : List Addr, acc = us.map V.ref ∧ ∀ t ∈ us, t ∈ ts) (fun D H' f s _ => ⟨T7.mono s, f, [], rfl, fun t h => (by cases h)⟩) (fun i D acc H' hi hl hD ⟨T', fD, us, ea, hu⟩ => ?_) (fun AG acc H8 fAG hl hAG ⟨T8, _, us, ea, hu⟩ => ?_)
    · walk_at "z"
      refine nx T' (by decide) (lt1000 (by decide)) fun w0 H9 w00 w01 T9 e9 => ?_
      have nDq : D ≠ q0 := T7.ne0 fD
      have hD9 : H9 D = some (.lst acc) := by rw [e9 _ nDq]; exact hD
      walk_at "z"
      refine z_if (fun c => ?_) (fun c => ?_)
      · walk_at "z"
        obtain ⟨t, ht⟩ : ∃ t, ts[i]? = some t := ⟨_, List.getElem?_eq_getElem hi⟩
        refine z_ixL (.inl (.inl (T9.same _ _ S.hR))) (v := .ref t) (atI_nat (by rw [List.getElem?_map, ht]; rfl)) ?_
        refine ⟨acc, hD9, Nat.lt_of_le_of_lt (show acc.length ≤ 100 by omega) (by decide), acc ++ [.ref t], by rw [List.length_append]; exact Nat.add_le_add_right hl 1, upd_same, T9.put ?_ nDq, fD, us ++ [t], by rw [ea, List.map_append]; rfl, fun t' h' => ?_⟩
        · exact T7.none0 fD
        · rcases List.mem_append.mp h' with m | m
          · exact hu t' m
          · rw [List.mem_singleton.mp m]
            exact List.mem_of_getElem? ht
      · exact ⟨acc, by omega, hD9, T9, fD, us, ea, hu⟩
    have S8 := S.mono T8.same
    have nAq : AG ≠ q0 := T7.ne0 fAG
    have nAp : AG ≠ p0 := by
      obtain ⟨x, y, w, e⟩ := S.sd.stm
      exact (ne_of_none (s7 _ _ e) fAG).symm
    walk_at "z"
    refine ⟨p0, RL, sol, n, xs, ts, rs, H, rfl, S8.sd, S8.nR, S8.ns, S8.hR, S8.hs, lx, n5, x9, S8.R, fun t h => (S8.tp t h).1, by omega, fun pe lp fs H9 fpe flp D9 k9 e9 I9 => ?_⟩
    have S9' := S8.next D9 k9
    obtain ⟨qa, qb, qc, eq8⟩ := T8.stm
    have T9 : Sd (fun _ => none) H9 q0 := ⟨fun _ _ z => (by cases z), rfl, qa, qb, qc, k9 _ _ nqp eq8⟩
    have hA9 := k9 _ _ nAp hAG
    have npq : pe ≠ q0 := (ne_of_none eq8 fpe).symm
    have nlq : lp ≠ q0 := (ne_of_none eq8 flp).symm
    clear S S8 I0 I5 S5
    walk_at "z"
    subst ea
    refine z_cat S9'.hR hA9 (by rw [List.length_map]; omega) fun c HA fc sA hA => ?_
    have SA := S9'.mono sA
    walk_at "z"
    have ncq : c ≠ q0 := by
      obtain ⟨x, y, w, e⟩ := T9.stm
      exact (ne_of_none e fc).symm
    refine ⟨q0, c, _, fun _ => none, rfl, T9.mono sA, ncq, hA, by rw [List.length_append, List.length_map]; omega, fun D2 ys HB fD2 nD2 TB kB hB pm => ?_⟩
    rw [← List.map_append] at pm
    obtain ⟨us2, rfl, hus⟩ := map_ref pm
    have hus2 : ∀ t, t ∈ us2 ↔ t ∈ ts := fun t => by
      rw [hus, List.mem_append]
      exact ⟨fun h => h.elim (fun h => h) (hu t), .inl⟩
    have lus : us2.length ≤ 100 := by
      have := pm.length_eq
      rw [List.length_map, List.length_map, List.length_append] at this
      rw [List.length_map] at hl
      omega
    have RB : Rows HB n ts rs := SA.R.kp fun t ht o h => kB t o (nqt t ht) h
    obtain ⟨qs, R2⟩ := rows_of RB us2 fun u hu => (hus2 u).mp hu
    have eqS := rsS_eq RB R2 hus2
    walk_at "z"
    refine ⟨q0, D2, sol, n, xs, us2, qs, fun _ => none, rfl, TB, nD2, nqs, hB, kB _ _ nqs SA.hs, lx, n5, x9, R2, fun t ht => nqt t ((hus2 t).mp ht), lus, fun pe2 lp2 fs2 HC fpe2 flp2 TC kC eC IC => ?_⟩
    rw [eqS] at IC
    have efs : fs2 = fs := IC.uniq I9
    subst efs
    walk_at "z"
    have eB := ((e9.mono sA).tk ((T9.mono sA).notup kB) (fun o h => kB _ _ npq h) (fun o h => kB _ _ nlq h))
    have eC1 : EqL (A 6) K HC pe lp fs2 := eB.tk (TB.notup kC) (fun o h => kC _ _ npq h) (fun o h => kC _ _ nlq h)
    obtain ⟨r9, j9⟩ := I9.j
    have l9 := j9.len
    have RC : Rows HC n ts rs := RB.kp fun t ht o h => kC t o (nqt t ht) h
    have hsC := kC _ _ nqs (kB _ _ nqs SA.hs)
    have hRC := kC _ _ nqR (kB _ _ nqR SA.hR)
    obtain ⟨pa, pb, pc, ep⟩ := SA.sd.stm
    have epC := kC _ _ nqp.symm (kB _ _ nqp.symm ep)
    refine ⟨pe, lp, fs2, by rw [l9], eC1, by omega, fun ST acc1 HD fST sD hST dST => ?_⟩
    walk_at "z"
    refine ⟨pe2, lp2, fs2, by rw [l9], eC.mono sD, by omega, fun S2' acc2 HE fS2 sE hS2 dS2 => ?_⟩
    walk_at "z"
    refine z_neSame (d := .list (stsD fs2)) (.lst (.inl (.inl hS2)) dS2) (.lst (.inl (.inl (sE _ _ hST))) (dp_monoA sE dST)) (shaped_sts fs2) ?_
    have sDE := sD.trans sE
    walk_at "z"
    have fin : ∀ HF, Same HE HF ∨ (Kp q0 HE HF) → ∀ x16 : Option V, ∃ HG, True := fun _ _ _ => ⟨HE, trivial⟩
    clear fin
    refine z_cut (fun σ' HF => ∃ x16 : Option V, σ' = [some (.ref l), some (.ref p0), some (.int (n : Int)), some (.ref sol), x4, some (.ref RL), x6, x7, x8, x9', x10, some (.ref q0), some (.ref AG), some (.ref pe), some (.ref pe2), some (.ref ST), x16] ∧
      EqL (A 6) K HF pe lp fs2 ∧ HF ST = some (.lst acc1) ∧ DpAll K HF acc1 (stsD fs2) ∧ HF p0 = some (.lst [.int pa, .int pb, .int pc])) ?_ ?_
    · walk_at "z"
      refine z_lenL (.inl (.inl (sDE _ _ hRC))) ?_
      rw [List.length_map]
      walk_at "z"
      refine z_if (fun d1 => ?_) (fun d1 => ?_)
      · walk_at "z"
        refine z_lenL (.inl (.inl (sDE _ _ hRC))) ?_
        rw [List.length_map]
        walk_at "z"
        refine nx ((TC.mono sD).mono sE) (by omega) (lt1000 (by omega)) fun w0 HF w00 w01 TF eF => ?_
        have kF := kp_eq eF
        have hRF := kF _ _ nqR (sDE _ _ hRC)
        obtain ⟨t, ht⟩ : ∃ t, ts[w0.toNat]? = some t := ⟨_, List.getElem?_eq_getElem (by omega)⟩
        have RF : Rows HF n ts rs := (RC.mono sDE).kp fun t ht o h => kF t o (nqt t ht) h
        obtain ⟨es, er, het, les, be3⟩ := RF.get ht
        walk_at "z"
        refine z_ixL (.inl (.inl hRF)) (v := .ref t) (atI_pos w00 (by rw [List.getElem?_map, ht]; rfl)) ?_
        walk_at "z"
        have nSTq : ST ≠ q0 := by
          obtain ⟨x, y, w, e⟩ := TC.stm
          exact (ne_of_none e fST).symm
        have eqF : EqL (A 6) K HF pe lp fs2 := (eC1.mono sDE).tk (((TC.mono sD).mono sE).notup kF) (fun o h => kF _ _ npq h) (fun o h => kF _ _ nlq h)
        have hsF := kF _ _ nqs (sDE _ _ hsC)
        have mS : rsS rs (iN es) := ⟨es, List.mem_of_getElem? er, rfl⟩
        have dF := dp_tkA (((TC.mono sD).mono sE).notup kF) (tup_sts fs2) (dp_monoA sE dST)
        refine ⟨pe, lp, t, sol, n, es, xs, fs2, rsS rs, rfl, eqF, het, hsF, I9, mS, les, lx, n5, be3, x9, fun HG sG => ?_⟩
        walk_at "z"
        refine ⟨pe, lp, t, sol, n, es, xs, fs2, rsS rs, rfl, eqF.mono sG, sG _ _ het, sG _ _ hsF, I9, mS, les, lx, n5, be3, x9, fun HI sI => ?_⟩
        walk_at "z"
        have sGI := sG.trans sI
        exact ⟨_, rfl, eqF.mono sGI, sGI _ _ (kF _ _ nSTq (sE _ _ hST)), dp_monoA sGI dF, sGI _ _ (kF _ _ nqp.symm (sDE _ _ epC))⟩
      · walk_at "z"
        exact ⟨_, rfl, eC1.mono sDE, sE _ _ hST, dp_monoA sE dST, sDE _ _ epC⟩
    · rintro σ' HF ⟨x16, rfl, eqF, hSF, dF, epF⟩
      walk_at "z"
      refine ⟨pe, lp, fs2, by rw [l9], eqF, by omega, fun S3' acc3 HG fS3 sG hS3 dS3 => ?_⟩
      walk_at "z"
      refine z_eqSame (d := .list (stsD fs2)) (.lst (.inl (.inl hS3)) dS3) (.lst (.inl (.inl (sG _ _ hSF))) (dp_monoA sG dF)) (shaped_sts fs2) ?_
      walk_at "z"
      exact ⟨p0, fun _ => none, rfl, ⟨fun _ _ z => (by cases z), rfl, pa, pb, pc, sG _ _ epF⟩, q⟩
end

theorem all_mk {l : PySem.W.OpenLaw} {w : World} {K : PySem.W.Frag} {h : Heap} {mg : Str → Option Value} {fa : Addr} (X : K.In h) (G : h.Ns mainGlobals mg) (hfa : mg "law" = some (.ref fa))
    {a7 : Addr} {od7 an7 : Option Addr} {sl7 : Array (Option Value)} {oc7 kV7 dc7 pm7 cd7 ct7 : Value} {a8 : Addr} {od8 an8 : Option Addr} {sl8 : Array (Option Value)} {oc8 kV8 dc8 pm8 cd8 ct8 : Value} {a9 : Addr} {od9 an9 : Option Addr} {sl9 : Array (Option Value)} {oc9 kV9 dc9 pm9 cd9 ct9 : Value} {a10 : Addr} {od10 an10 : Option Addr} {sl10 : Array (Option Value)} {oc10 kV10 dc10 pm10 cd10 ct10 : Value} {a11 : Addr} {od11 an11 : Option Addr} {sl11 : Array (Option Value)} {oc11 kV11 dc11 pm11 cd11 ct11 : Value} {a12 : Addr} {od12 an12 : Option Addr} {sl12 : Array (Option Value)} {oc12 kV12 dc12 pm12 cd12 ct12 : Value} {a13 : Addr} {od13 an13 : Option Addr} {sl13 : Array (Option Value)} {oc13 kV13 dc13 pm13 cd13 ct13 : Value} {a14 : Addr} {od14 an14 : Option Addr} {sl14 : Array (Option Value)} {oc14 kV14 dc14 pm14 cd14 ct14 : Value} {a15 : Addr} {od15 an15 : Option Addr} {sl15 : Array (Option Value)} {oc15 kV15 dc15 pm15 cd15 ct15 : Value} {a16 : Addr} {od16 an16 : Option Addr} {sl16 : Array (Option Value)} {oc16 kV16 dc16 pm16 cd16 ct16 : Value} {a17 : Addr} {od17 an17 : Option Addr} {sl17 : Array (Option Value)} {oc17 kV17 dc17 pm17 cd17 ct17 : Value} {a18 : Addr} {od18 an18 : Option Addr} {sl18 : Array (Option Value)} {oc18 kV18 dc18 pm18 cd18 ct18 : Value} {a19 : Addr} {od19 an19 : Option Addr} {sl19 : Array (Option Value)} {oc19 kV19 dc19 pm19 cd19 ct19 : Value} {a20 : Addr} {od20 an20 : Option Addr} {sl20 : Array (Option Value)} {oc20 kV20 dc20 pm20 cd20 ct20 : Value} {a21 : Addr} {od21 an21 : Option Addr} {sl21 : Array (Option Value)} {oc21 kV21 dc21 pm21 cd21 ct21 : Value} {a22 : Addr} {od22 an22 : Option Addr} {sl22 : Array (Option Value)} {oc22 kV22 dc22 pm22 cd22 ct22 : Value} {a23 : Addr} {od23 an23 : Option Addr} {sl23 : Array (Option Value)} {oc23 kV23 dc23 pm23 cd23 ct23 : Value} {a24 : Addr} {od24 an24 : Option Addr} {sl24 : Array (Option Value)} {oc24 kV24 dc24 pm24 cd24 ct24 : Value} {a25 : Addr} {od25 an25 : Option Addr} {sl25 : Array (Option Value)} {oc25 kV25 dc25 pm25 cd25 ct25 : Value} {a26 : Addr} {od26 an26 : Option Addr} {sl26 : Array (Option Value)} {oc26 kV26 dc26 pm26 cd26 ct26 : Value} {a27 : Addr} {od27 an27 : Option Addr} {sl27 : Array (Option Value)} {oc27 kV27 dc27 pm27 cd27 ct27 : Value} {a28 : Addr} {od28 an28 : Option Addr} {sl28 : Array (Option Value)} {oc28 kV28 dc28 pm28 cd28 ct28 : Value} {a29 : Addr} {od29 an29 : Option Addr} {sl29 : Array (Option Value)} {oc29 kV29 dc29 pm29 cd29 ct29 : Value} {a30 : Addr} {od30 an30 : Option Addr} {sl30 : Array (Option Value)} {oc30 kV30 dc30 pm30 cd30 ct30 : Value} {a31 : Addr} {od31 an31 : Option Addr} {sl31 : Array (Option Value)} {oc31 kV31 dc31 pm31 cd31 ct31 : Value} {a32 : Addr} {od32 an32 : Option Addr} {sl32 : Array (Option Value)} {oc32 kV32 dc32 pm32 cd32 ct32 : Value} {a33 : Addr} {od33 an33 : Option Addr} {sl33 : Array (Option Value)} {oc33 kV33 dc33 pm33 cd33 ct33 : Value} {a34 : Addr} {od34 an34 : Option Addr} {sl34 : Array (Option Value)} {oc34 kV34 dc34 pm34 cd34 ct34 : Value} {a35 : Addr} {od35 an35 : Option Addr} {sl35 : Array (Option Value)} {oc35 kV35 dc35 pm35 cd35 ct35 : Value} {a36 : Addr} {od36 an36 : Option Addr} {sl36 : Array (Option Value)} {oc36 kV36 dc36 pm36 cd36 ct36 : Value} {a37 : Addr} {od37 an37 : Option Addr} {sl37 : Array (Option Value)} {oc37 kV37 dc37 pm37 cd37 ct37 : Value} {a38 : Addr} {od38 an38 : Option Addr} {sl38 : Array (Option Value)} {oc38 kV38 dc38 pm38 cd38 ct38 : Value} {a39 : Addr} {od39 an39 : Option Addr} {sl39 : Array (Option Value)} {oc39 kV39 dc39 pm39 cd39 ct39 : Value} {a6 : Addr} {a0 : Addr} {a1 : Addr} {a2 : Addr} {a3 : Addr} {a4 : Addr} {a5 : Addr} {t_LIMIT : Tok} {t_MOST_UNKNOWNS : Tok} {a40 : Addr} {tZERO_0_0 : Tok} {tZERO_0_1 : Tok} {odZERO_0 : Option Addr} {nnZERO_0 : Nat} {slZERO_0 : Array (Option Value)} {a41 : Addr} {tONE_0_0 : Tok} {tONE_0_1 : Tok} {odONE_0 : Option Addr} {nnONE_0 : Nat} {slONE_0 : Array (Option Value)} {a42 : Addr} {tMINUS_ONE_0_0 : Tok} {tMINUS_ONE_0_1 : Tok} {odMINUS_ONE_0 : Option Addr} {nnMINUS_ONE_0 : Nat} {slMINUS_ONE_0 : Array (Option Value)}
    (n7 : PySem.W.nsIn K mainGlobals "ratio" = some (some (.ref a7)))
    (l7 : K.lookup a7 = some ⟨oc7, od7, .func (PySem.W.fnOf "ratio" "ratio" (defArgs s_ratio) (defBody s_ratio) (defScope s_ratio) .none kV7 dc7 pm7 an7 cd7 ct7), sl7⟩)
    (c7 : PySem.W.codeIn K cd7 "ratio" = true) (k7 : PySem.W.keepIn K (.ref a7) = true)
    (n8 : PySem.W.nsIn K mainGlobals "add" = some (some (.ref a8)))
    (l8 : K.lookup a8 = some ⟨oc8, od8, .func (PySem.W.fnOf "add" "add" (defArgs s_add) (defBody s_add) (defScope s_add) .none kV8 dc8 pm8 an8 cd8 ct8), sl8⟩)
    (c8 : PySem.W.codeIn K cd8 "add" = true) (k8 : PySem.W.keepIn K (.ref a8) = true)
    (n9 : PySem.W.nsIn K mainGlobals "subtract" = some (some (.ref a9)))
    (l9 : K.lookup a9 = some ⟨oc9, od9, .func (PySem.W.fnOf "subtract" "subtract" (defArgs s_subtract) (defBody s_subtract) (defScope s_subtract) .none kV9 dc9 pm9 an9 cd9 ct9), sl9⟩)
    (c9 : PySem.W.codeIn K cd9 "subtract" = true) (k9 : PySem.W.keepIn K (.ref a9) = true)
    (n10 : PySem.W.nsIn K mainGlobals "multiply" = some (some (.ref a10)))
    (l10 : K.lookup a10 = some ⟨oc10, od10, .func (PySem.W.fnOf "multiply" "multiply" (defArgs s_multiply) (defBody s_multiply) (defScope s_multiply) .none kV10 dc10 pm10 an10 cd10 ct10), sl10⟩)
    (c10 : PySem.W.codeIn K cd10 "multiply" = true) (k10 : PySem.W.keepIn K (.ref a10) = true)
    (n11 : PySem.W.nsIn K mainGlobals "divide" = some (some (.ref a11)))
    (l11 : K.lookup a11 = some ⟨oc11, od11, .func (PySem.W.fnOf "divide" "divide" (defArgs s_divide) (defBody s_divide) (defScope s_divide) .none kV11 dc11 pm11 an11 cd11 ct11), sl11⟩)
    (c11 : PySem.W.codeIn K cd11 "divide" = true) (k11 : PySem.W.keepIn K (.ref a11) = true)
    (n12 : PySem.W.nsIn K mainGlobals "known_form" = some (some (.ref a12)))
    (l12 : K.lookup a12 = some ⟨oc12, od12, .func (PySem.W.fnOf "known_form" "known_form" (defArgs s_known_form) (defBody s_known_form) (defScope s_known_form) .none kV12 dc12 pm12 an12 cd12 ct12), sl12⟩)
    (c12 : PySem.W.codeIn K cd12 "known_form" = true) (k12 : PySem.W.keepIn K (.ref a12) = true)
    (n13 : PySem.W.nsIn K mainGlobals "unknown_form" = some (some (.ref a13)))
    (l13 : K.lookup a13 = some ⟨oc13, od13, .func (PySem.W.fnOf "unknown_form" "unknown_form" (defArgs s_unknown_form) (defBody s_unknown_form) (defScope s_unknown_form) .none kV13 dc13 pm13 an13 cd13 ct13), sl13⟩)
    (c13 : PySem.W.codeIn K cd13 "unknown_form" = true) (k13 : PySem.W.keepIn K (.ref a13) = true)
    (n14 : PySem.W.nsIn K mainGlobals "add_forms" = some (some (.ref a14)))
    (l14 : K.lookup a14 = some ⟨oc14, od14, .func (PySem.W.fnOf "add_forms" "add_forms" (defArgs s_add_forms) (defBody s_add_forms) (defScope s_add_forms) .none kV14 dc14 pm14 an14 cd14 ct14), sl14⟩)
    (c14 : PySem.W.codeIn K cd14 "add_forms" = true) (k14 : PySem.W.keepIn K (.ref a14) = true)
    (n15 : PySem.W.nsIn K mainGlobals "subtract_forms" = some (some (.ref a15)))
    (l15 : K.lookup a15 = some ⟨oc15, od15, .func (PySem.W.fnOf "subtract_forms" "subtract_forms" (defArgs s_subtract_forms) (defBody s_subtract_forms) (defScope s_subtract_forms) .none kV15 dc15 pm15 an15 cd15 ct15), sl15⟩)
    (c15 : PySem.W.codeIn K cd15 "subtract_forms" = true) (k15 : PySem.W.keepIn K (.ref a15) = true)
    (n16 : PySem.W.nsIn K mainGlobals "combine_forms" = some (some (.ref a16)))
    (l16 : K.lookup a16 = some ⟨oc16, od16, .func (PySem.W.fnOf "combine_forms" "combine_forms" (defArgs s_combine_forms) (defBody s_combine_forms) (defScope s_combine_forms) .none kV16 dc16 pm16 an16 cd16 ct16), sl16⟩)
    (c16 : PySem.W.codeIn K cd16 "combine_forms" = true) (k16 : PySem.W.keepIn K (.ref a16) = true)
    (n17 : PySem.W.nsIn K mainGlobals "scale_form" = some (some (.ref a17)))
    (l17 : K.lookup a17 = some ⟨oc17, od17, .func (PySem.W.fnOf "scale_form" "scale_form" (defArgs s_scale_form) (defBody s_scale_form) (defScope s_scale_form) .none kV17 dc17 pm17 an17 cd17 ct17), sl17⟩)
    (c17 : PySem.W.codeIn K cd17 "scale_form" = true) (k17 : PySem.W.keepIn K (.ref a17) = true)
    (n18 : PySem.W.nsIn K mainGlobals "replace_unknown" = some (some (.ref a18)))
    (l18 : K.lookup a18 = some ⟨oc18, od18, .func (PySem.W.fnOf "replace_unknown" "replace_unknown" (defArgs s_replace_unknown) (defBody s_replace_unknown) (defScope s_replace_unknown) .none kV18 dc18 pm18 an18 cd18 ct18), sl18⟩)
    (c18 : PySem.W.codeIn K cd18 "replace_unknown" = true) (k18 : PySem.W.keepIn K (.ref a18) = true)
    (n19 : PySem.W.nsIn K mainGlobals "coefficient" = some (some (.ref a19)))
    (l19 : K.lookup a19 = some ⟨oc19, od19, .func (PySem.W.fnOf "coefficient" "coefficient" (defArgs s_coefficient) (defBody s_coefficient) (defScope s_coefficient) .none kV19 dc19 pm19 an19 cd19 ct19), sl19⟩)
    (c19 : PySem.W.codeIn K cd19 "coefficient" = true) (k19 : PySem.W.keepIn K (.ref a19) = true)
    (n20 : PySem.W.findIn K (.ref a6) "__init__" = some (some (.ref a20))) (fn20 : PySem.W.isFn K (.ref a20) = true)
    (l20 : K.lookup a20 = some ⟨oc20, od20, .func (PySem.W.fnOf "__init__" "Equations.__init__" (defArgs s_Equations___init__) (defBody s_Equations___init__) (defScope s_Equations___init__) .none kV20 dc20 pm20 an20 cd20 ct20), sl20⟩)
    (c20 : PySem.W.codeIn K cd20 "Equations.__init__" = true) (k20 : PySem.W.keepIn K (.ref a20) = true)
    (n21 : PySem.W.findIn K (.ref a6) "new_unknown" = some (some (.ref a21))) (fn21 : PySem.W.isFn K (.ref a21) = true)
    (l21 : K.lookup a21 = some ⟨oc21, od21, .func (PySem.W.fnOf "new_unknown" "Equations.new_unknown" (defArgs s_Equations_new_unknown) (defBody s_Equations_new_unknown) (defScope s_Equations_new_unknown) .none kV21 dc21 pm21 an21 cd21 ct21), sl21⟩)
    (c21 : PySem.W.codeIn K cd21 "Equations.new_unknown" = true) (k21 : PySem.W.keepIn K (.ref a21) = true)
    (n22 : PySem.W.findIn K (.ref a6) "kind" = some (some (.ref a22))) (fn22 : PySem.W.isFn K (.ref a22) = true)
    (l22 : K.lookup a22 = some ⟨oc22, od22, .func (PySem.W.fnOf "kind" "Equations.kind" (defArgs s_Equations_kind) (defBody s_Equations_kind) (defScope s_Equations_kind) .none kV22 dc22 pm22 an22 cd22 ct22), sl22⟩)
    (c22 : PySem.W.codeIn K cd22 "Equations.kind" = true) (k22 : PySem.W.keepIn K (.ref a22) = true)
    (n23 : PySem.W.findIn K (.ref a6) "form" = some (some (.ref a23))) (fn23 : PySem.W.isFn K (.ref a23) = true)
    (l23 : K.lookup a23 = some ⟨oc23, od23, .func (PySem.W.fnOf "form" "Equations.form" (defArgs s_Equations_form) (defBody s_Equations_form) (defScope s_Equations_form) .none kV23 dc23 pm23 an23 cd23 ct23), sl23⟩)
    (c23 : PySem.W.codeIn K cd23 "Equations.form" = true) (k23 : PySem.W.keepIn K (.ref a23) = true)
    (n24 : PySem.W.findIn K (.ref a6) "reduce" = some (some (.ref a24))) (fn24 : PySem.W.isFn K (.ref a24) = true)
    (l24 : K.lookup a24 = some ⟨oc24, od24, .func (PySem.W.fnOf "reduce" "Equations.reduce" (defArgs s_Equations_reduce) (defBody s_Equations_reduce) (defScope s_Equations_reduce) .none kV24 dc24 pm24 an24 cd24 ct24), sl24⟩)
    (c24 : PySem.W.codeIn K cd24 "Equations.reduce" = true) (k24 : PySem.W.keepIn K (.ref a24) = true)
    (n25 : PySem.W.findIn K (.ref a6) "equate" = some (some (.ref a25))) (fn25 : PySem.W.isFn K (.ref a25) = true)
    (l25 : K.lookup a25 = some ⟨oc25, od25, .func (PySem.W.fnOf "equate" "Equations.equate" (defArgs s_Equations_equate) (defBody s_Equations_equate) (defScope s_Equations_equate) .none kV25 dc25 pm25 an25 cd25 ct25), sl25⟩)
    (c25 : PySem.W.codeIn K cd25 "Equations.equate" = true) (k25 : PySem.W.keepIn K (.ref a25) = true)
    (n26 : PySem.W.findIn K (.ref a6) "_forms_with" = some (some (.ref a26))) (fn26 : PySem.W.isFn K (.ref a26) = true)
    (l26 : K.lookup a26 = some ⟨oc26, od26, .func (PySem.W.fnOf "_forms_with" "Equations._forms_with" (defArgs s_Equations__forms_with) (defBody s_Equations__forms_with) (defScope s_Equations__forms_with) .none kV26 dc26 pm26 an26 cd26 ct26), sl26⟩)
    (c26 : PySem.W.codeIn K cd26 "Equations._forms_with" = true) (k26 : PySem.W.keepIn K (.ref a26) = true)
    (n27 : PySem.W.nsIn K mainGlobals "_law_cell" = some (some (.ref a27)))
    (l27 : K.lookup a27 = some ⟨oc27, od27, .func (PySem.W.fnOf "_law_cell" "_law_cell" (defArgs s__law_cell) (defBody s__law_cell) (defScope s__law_cell) .none kV27 dc27 pm27 an27 cd27 ct27), sl27⟩)
    (c27 : PySem.W.codeIn K cd27 "_law_cell" = true) (k27 : PySem.W.keepIn K (.ref a27) = true)
    (n28 : PySem.W.nsIn K mainGlobals "_law_stream" = some (some (.ref a28)))
    (l28 : K.lookup a28 = some ⟨oc28, od28, .func (PySem.W.fnOf "_law_stream" "_law_stream" (defArgs s__law_stream) (defBody s__law_stream) (defScope s__law_stream) .none kV28 dc28 pm28 an28 cd28 ct28), sl28⟩)
    (c28 : PySem.W.codeIn K cd28 "_law_stream" = true) (k28 : PySem.W.keepIn K (.ref a28) = true)
    (n29 : PySem.W.nsIn K mainGlobals "_law_next" = some (some (.ref a29)))
    (l29 : K.lookup a29 = some ⟨oc29, od29, .func (PySem.W.fnOf "_law_next" "_law_next" (defArgs s__law_next) (defBody s__law_next) (defScope s__law_next) .none kV29 dc29 pm29 an29 cd29 ct29), sl29⟩)
    (c29 : PySem.W.codeIn K cd29 "_law_next" = true) (k29 : PySem.W.keepIn K (.ref a29) = true)
    (n30 : PySem.W.nsIn K mainGlobals "_law_made" = some (some (.ref a30)))
    (l30 : K.lookup a30 = some ⟨oc30, od30, .func (PySem.W.fnOf "_law_made" "_law_made" (defArgs s__law_made) (defBody s__law_made) (defScope s__law_made) .none kV30 dc30 pm30 an30 cd30 ct30), sl30⟩)
    (c30 : PySem.W.codeIn K cd30 "_law_made" = true) (k30 : PySem.W.keepIn K (.ref a30) = true)
    (n31 : PySem.W.nsIn K mainGlobals "_law_sides" = some (some (.ref a31)))
    (l31 : K.lookup a31 = some ⟨oc31, od31, .func (PySem.W.fnOf "_law_sides" "_law_sides" (defArgs s__law_sides) (defBody s__law_sides) (defScope s__law_sides) .none kV31 dc31 pm31 an31 cd31 ct31), sl31⟩)
    (c31 : PySem.W.codeIn K cd31 "_law_sides" = true) (k31 : PySem.W.keepIn K (.ref a31) = true)
    (n32 : PySem.W.nsIn K mainGlobals "_law_begun" = some (some (.ref a32)))
    (l32 : K.lookup a32 = some ⟨oc32, od32, .func (PySem.W.fnOf "_law_begun" "_law_begun" (defArgs s__law_begun) (defBody s__law_begun) (defScope s__law_begun) .none kV32 dc32 pm32 an32 cd32 ct32), sl32⟩)
    (c32 : PySem.W.codeIn K cd32 "_law_begun" = true) (k32 : PySem.W.keepIn K (.ref a32) = true)
    (n33 : PySem.W.nsIn K mainGlobals "_law_order" = some (some (.ref a33)))
    (l33 : K.lookup a33 = some ⟨oc33, od33, .func (PySem.W.fnOf "_law_order" "_law_order" (defArgs s__law_order) (defBody s__law_order) (defScope s__law_order) .none kV33 dc33 pm33 an33 cd33 ct33), sl33⟩)
    (c33 : PySem.W.codeIn K cd33 "_law_order" = true) (k33 : PySem.W.keepIn K (.ref a33) = true)
    (n34 : PySem.W.nsIn K mainGlobals "_law_states" = some (some (.ref a34)))
    (l34 : K.lookup a34 = some ⟨oc34, od34, .func (PySem.W.fnOf "_law_states" "_law_states" (defArgs s__law_states) (defBody s__law_states) (defScope s__law_states) .none kV34 dc34 pm34 an34 cd34 ct34), sl34⟩)
    (c34 : PySem.W.codeIn K cd34 "_law_states" = true) (k34 : PySem.W.keepIn K (.ref a34) = true)
    (n35 : PySem.W.nsIn K mainGlobals "_law_run" = some (some (.ref a35)))
    (l35 : K.lookup a35 = some ⟨oc35, od35, .func (PySem.W.fnOf "_law_run" "_law_run" (defArgs s__law_run) (defBody s__law_run) (defScope s__law_run) .none kV35 dc35 pm35 an35 cd35 ct35), sl35⟩)
    (c35 : PySem.W.codeIn K cd35 "_law_run" = true) (k35 : PySem.W.keepIn K (.ref a35) = true)
    (n36 : PySem.W.nsIn K mainGlobals "_law_contradicts" = some (some (.ref a36)))
    (l36 : K.lookup a36 = some ⟨oc36, od36, .func (PySem.W.fnOf "_law_contradicts" "_law_contradicts" (defArgs s__law_contradicts) (defBody s__law_contradicts) (defScope s__law_contradicts) .none kV36 dc36 pm36 an36 cd36 ct36), sl36⟩)
    (c36 : PySem.W.codeIn K cd36 "_law_contradicts" = true) (k36 : PySem.W.keepIn K (.ref a36) = true)
    (n37 : PySem.W.nsIn K mainGlobals "_law_too_great" = some (some (.ref a37)))
    (l37 : K.lookup a37 = some ⟨oc37, od37, .func (PySem.W.fnOf "_law_too_great" "_law_too_great" (defArgs s__law_too_great) (defBody s__law_too_great) (defScope s__law_too_great) .none kV37 dc37 pm37 an37 cd37 ct37), sl37⟩)
    (c37 : PySem.W.codeIn K cd37 "_law_too_great" = true) (k37 : PySem.W.keepIn K (.ref a37) = true)
    (n38 : PySem.W.nsIn K mainGlobals "_law_holds_still" = some (some (.ref a38)))
    (l38 : K.lookup a38 = some ⟨oc38, od38, .func (PySem.W.fnOf "_law_holds_still" "_law_holds_still" (defArgs s__law_holds_still) (defBody s__law_holds_still) (defScope s__law_holds_still) .none kV38 dc38 pm38 an38 cd38 ct38), sl38⟩)
    (c38 : PySem.W.codeIn K cd38 "_law_holds_still" = true) (k38 : PySem.W.keepIn K (.ref a38) = true)
    (n39 : PySem.W.nsIn K mainGlobals "law" = some (some (.ref a39)))
    (l39 : K.lookup a39 = some ⟨oc39, od39, .func (PySem.W.fnOf "law" "law" (defArgs s_law) (defBody s_law) (defScope s_law) .none kV39 dc39 pm39 an39 cd39 ct39), sl39⟩)
    (c39 : PySem.W.codeIn K cd39 "law" = true) (k39 : PySem.W.keepIn K (.ref a39) = true)
    (ng6 : PySem.W.nsIn K mainGlobals "Equations" = some (some (.ref a6)))
    (pg6 : PySem.W.plainGet K a6 Str.empty = true) (hd6 : PySem.W.hasDictIn K a6 = true) (po6 : PySem.W.plainOver K a6 = true) (sa6 : PySem.W.findIn K (.ref a6) "__setattr__" = some (some (.builtin "object.__setattr__"))) (mk6 : PySem.W.makesIn K a6 = true) (kc6 : PySem.W.keepIn K (.ref a6) = true)
    (na6__forms : PySem.W.findIn K (.ref a6) "_forms" = some none)
    (xg0 : PySem.W.nsIn K mainGlobals "FontError" = some (some (.ref a0))) (xq0 : PySem.W.excIn K a0 [.type "ValueError", .type "Exception", .type "BaseException", .type "object"] "ValueError.__new__" = true) (xk0 : PySem.W.keepIn K (.ref a0) = true) (xt0 : PySem.W.typeIn K (.ref a0) = some (.type "type"))
    (xa0 : PySem.W.findIn K (.ref a0) "__getattribute__" = some (some (.builtin "BaseException.__getattribute__"))) (xb0 : PySem.W.findIn K (.ref a0) "__getattr__" = some none) (xc0 : PySem.W.subIn K (.ref a0) (.type "BaseException") = some true) (xd0 : PySem.W.hasDictIn K a0 = true)
    (xe0 : PySem.W.findIn K (.ref a0) "__class__" = some (some (.builtin "object.__class__"))) (xf0 : PySem.W.mroIn K a0 (.type "object") = some true) (xv0 : PySem.W.subIn K (.ref a0) (.type "ValueError") = some true)
    (xg1 : PySem.W.nsIn K mainGlobals "TooGreat" = some (some (.ref a1))) (xq1 : PySem.W.excIn K a1 [.type "ValueError", .type "Exception", .type "BaseException", .type "object"] "ValueError.__new__" = true) (xk1 : PySem.W.keepIn K (.ref a1) = true) (xt1 : PySem.W.typeIn K (.ref a1) = some (.type "type"))
    (xa1 : PySem.W.findIn K (.ref a1) "__getattribute__" = some (some (.builtin "BaseException.__getattribute__"))) (xb1 : PySem.W.findIn K (.ref a1) "__getattr__" = some none) (xc1 : PySem.W.subIn K (.ref a1) (.type "BaseException") = some true) (xd1 : PySem.W.hasDictIn K a1 = true)
    (xe1 : PySem.W.findIn K (.ref a1) "__class__" = some (some (.builtin "object.__class__"))) (xf1 : PySem.W.mroIn K a1 (.type "object") = some true) (xv1 : PySem.W.subIn K (.ref a1) (.type "ValueError") = some true)
    (xg2 : PySem.W.nsIn K mainGlobals "DivisionByZero" = some (some (.ref a2))) (xq2 : PySem.W.excIn K a2 [.type "ValueError", .type "Exception", .type "BaseException", .type "object"] "ValueError.__new__" = true) (xk2 : PySem.W.keepIn K (.ref a2) = true) (xt2 : PySem.W.typeIn K (.ref a2) = some (.type "type"))
    (xa2 : PySem.W.findIn K (.ref a2) "__getattribute__" = some (some (.builtin "BaseException.__getattribute__"))) (xb2 : PySem.W.findIn K (.ref a2) "__getattr__" = some none) (xc2 : PySem.W.subIn K (.ref a2) (.type "BaseException") = some true) (xd2 : PySem.W.hasDictIn K a2 = true)
    (xe2 : PySem.W.findIn K (.ref a2) "__class__" = some (some (.builtin "object.__class__"))) (xf2 : PySem.W.mroIn K a2 (.type "object") = some true) (xv2 : PySem.W.subIn K (.ref a2) (.type "ValueError") = some true)
    (xg3 : PySem.W.nsIn K mainGlobals "Contradiction" = some (some (.ref a3))) (xq3 : PySem.W.excIn K a3 [.type "ValueError", .type "Exception", .type "BaseException", .type "object"] "ValueError.__new__" = true) (xk3 : PySem.W.keepIn K (.ref a3) = true) (xt3 : PySem.W.typeIn K (.ref a3) = some (.type "type"))
    (xa3 : PySem.W.findIn K (.ref a3) "__getattribute__" = some (some (.builtin "BaseException.__getattribute__"))) (xb3 : PySem.W.findIn K (.ref a3) "__getattr__" = some none) (xc3 : PySem.W.subIn K (.ref a3) (.type "BaseException") = some true) (xd3 : PySem.W.hasDictIn K a3 = true)
    (xe3 : PySem.W.findIn K (.ref a3) "__class__" = some (some (.builtin "object.__class__"))) (xf3 : PySem.W.mroIn K a3 (.type "object") = some true) (xv3 : PySem.W.subIn K (.ref a3) (.type "ValueError") = some true)
    (xg4 : PySem.W.nsIn K mainGlobals "OutOfRange" = some (some (.ref a4))) (xq4 : PySem.W.excIn K a4 [.type "ValueError", .type "Exception", .type "BaseException", .type "object"] "ValueError.__new__" = true) (xk4 : PySem.W.keepIn K (.ref a4) = true) (xt4 : PySem.W.typeIn K (.ref a4) = some (.type "type"))
    (xa4 : PySem.W.findIn K (.ref a4) "__getattribute__" = some (some (.builtin "BaseException.__getattribute__"))) (xb4 : PySem.W.findIn K (.ref a4) "__getattr__" = some none) (xc4 : PySem.W.subIn K (.ref a4) (.type "BaseException") = some true) (xd4 : PySem.W.hasDictIn K a4 = true)
    (xe4 : PySem.W.findIn K (.ref a4) "__class__" = some (some (.builtin "object.__class__"))) (xf4 : PySem.W.mroIn K a4 (.type "object") = some true) (xv4 : PySem.W.subIn K (.ref a4) (.type "ValueError") = some true)
    (xg5 : PySem.W.nsIn K mainGlobals "TooMany" = some (some (.ref a5))) (xq5 : PySem.W.excIn K a5 [.type "ValueError", .type "Exception", .type "BaseException", .type "object"] "ValueError.__new__" = true) (xk5 : PySem.W.keepIn K (.ref a5) = true) (xt5 : PySem.W.typeIn K (.ref a5) = some (.type "type"))
    (xa5 : PySem.W.findIn K (.ref a5) "__getattribute__" = some (some (.builtin "BaseException.__getattribute__"))) (xb5 : PySem.W.findIn K (.ref a5) "__getattr__" = some none) (xc5 : PySem.W.subIn K (.ref a5) (.type "BaseException") = some true) (xd5 : PySem.W.hasDictIn K a5 = true)
    (xe5 : PySem.W.findIn K (.ref a5) "__class__" = some (some (.builtin "object.__class__"))) (xf5 : PySem.W.mroIn K a5 (.type "object") = some true) (xv5 : PySem.W.subIn K (.ref a5) (.type "ValueError") = some true)
    (xm : PySem.W.specialIn K (.builtin "object.__class__") "__get__" = some (some (.builtin "getset_descriptor.__get__"))) (xn : PySem.W.takesIn K (.builtin "object.__class__") = some true)
    (e0_0 : PySem.W.subIn K (.ref a0) (.ref a0) = some true)
    (e0_1 : PySem.W.subIn K (.ref a0) (.ref a1) = some false)
    (e0_2 : PySem.W.subIn K (.ref a0) (.ref a2) = some false)
    (e0_3 : PySem.W.subIn K (.ref a0) (.ref a3) = some false)
    (e0_4 : PySem.W.subIn K (.ref a0) (.ref a4) = some false)
    (e0_5 : PySem.W.subIn K (.ref a0) (.ref a5) = some false)
    (e1_0 : PySem.W.subIn K (.ref a1) (.ref a0) = some true)
    (e1_1 : PySem.W.subIn K (.ref a1) (.ref a1) = some true)
    (e1_2 : PySem.W.subIn K (.ref a1) (.ref a2) = some false)
    (e1_3 : PySem.W.subIn K (.ref a1) (.ref a3) = some false)
    (e1_4 : PySem.W.subIn K (.ref a1) (.ref a4) = some false)
    (e1_5 : PySem.W.subIn K (.ref a1) (.ref a5) = some false)
    (e2_0 : PySem.W.subIn K (.ref a2) (.ref a0) = some true)
    (e2_1 : PySem.W.subIn K (.ref a2) (.ref a1) = some false)
    (e2_2 : PySem.W.subIn K (.ref a2) (.ref a2) = some true)
    (e2_3 : PySem.W.subIn K (.ref a2) (.ref a3) = some false)
    (e2_4 : PySem.W.subIn K (.ref a2) (.ref a4) = some false)
    (e2_5 : PySem.W.subIn K (.ref a2) (.ref a5) = some false)
    (e3_0 : PySem.W.subIn K (.ref a3) (.ref a0) = some true)
    (e3_1 : PySem.W.subIn K (.ref a3) (.ref a1) = some false)
    (e3_2 : PySem.W.subIn K (.ref a3) (.ref a2) = some false)
    (e3_3 : PySem.W.subIn K (.ref a3) (.ref a3) = some true)
    (e3_4 : PySem.W.subIn K (.ref a3) (.ref a4) = some false)
    (e3_5 : PySem.W.subIn K (.ref a3) (.ref a5) = some false)
    (e4_0 : PySem.W.subIn K (.ref a4) (.ref a0) = some true)
    (e4_1 : PySem.W.subIn K (.ref a4) (.ref a1) = some false)
    (e4_2 : PySem.W.subIn K (.ref a4) (.ref a2) = some false)
    (e4_3 : PySem.W.subIn K (.ref a4) (.ref a3) = some false)
    (e4_4 : PySem.W.subIn K (.ref a4) (.ref a4) = some true)
    (e4_5 : PySem.W.subIn K (.ref a4) (.ref a5) = some false)
    (e5_0 : PySem.W.subIn K (.ref a5) (.ref a0) = some true)
    (e5_1 : PySem.W.subIn K (.ref a5) (.ref a1) = some false)
    (e5_2 : PySem.W.subIn K (.ref a5) (.ref a2) = some false)
    (e5_3 : PySem.W.subIn K (.ref a5) (.ref a3) = some false)
    (e5_4 : PySem.W.subIn K (.ref a5) (.ref a4) = some false)
    (e5_5 : PySem.W.subIn K (.ref a5) (.ref a5) = some true)
    (z_dict : PySem.W.nsIn K mainGlobals "dict" = some none)
    (z_enumerate : PySem.W.nsIn K mainGlobals "enumerate" = some none)
    (z_int : PySem.W.nsIn K mainGlobals "int" = some none)
    (z_len : PySem.W.nsIn K mainGlobals "len" = some none)
    (z_list : PySem.W.nsIn K mainGlobals "list" = some none)
    (z_max : PySem.W.nsIn K mainGlobals "max" = some none)
    (z_min : PySem.W.nsIn K mainGlobals "min" = some none)
    (z_range : PySem.W.nsIn K mainGlobals "range" = some none)
    (z_sorted : PySem.W.nsIn K mainGlobals "sorted" = some none)
    (z_sum : PySem.W.nsIn K mainGlobals "sum" = some none)
    (z_tuple : PySem.W.nsIn K mainGlobals "tuple" = some none)
    (l_gcd : PySem.W.nsIn K mainGlobals "gcd" = some (some (.builtin "math.gcd")))
    (c_LIMIT : PySem.W.nsIn K mainGlobals "LIMIT" = some (some (.int (1000000000000000000) t_LIMIT)))
    (c_MOST_UNKNOWNS : PySem.W.nsIn K mainGlobals "MOST_UNKNOWNS" = some (some (.int (80) t_MOST_UNKNOWNS)))
    (ntZERO : PySem.W.nsIn K mainGlobals "ZERO" = some (some (.ref a40)))
    (ktZERO_0 : K.lookup a40 = some ⟨.type "tuple", odZERO_0, .seq (List.toArray [.int (0) tZERO_0_0, .int (1) tZERO_0_1]) nnZERO_0, slZERO_0⟩)
    (ntONE : PySem.W.nsIn K mainGlobals "ONE" = some (some (.ref a41)))
    (ktONE_0 : K.lookup a41 = some ⟨.type "tuple", odONE_0, .seq (List.toArray [.int (1) tONE_0_0, .int (1) tONE_0_1]) nnONE_0, slONE_0⟩)
    (ntMINUS_ONE : PySem.W.nsIn K mainGlobals "MINUS_ONE" = some (some (.ref a42)))
    (ktMINUS_ONE_0 : K.lookup a42 = some ⟨.type "tuple", odMINUS_ONE_0, .seq (List.toArray [.int (-1) tMINUS_ONE_0_0, .int (1) tMINUS_ONE_0_1]) nnMINUS_ONE_0, slMINUS_ONE_0⟩)
    : ∃ fd : FuncData, (∀ (s : Shared) (v : Value), BindsTo s fd ⟨[v], []⟩ [("script", v)]) ∧ ∀ base : Heap, K.In base → base.Ns mainGlobals mg → FnOk l.prog w K mg base CX0 9 fa fd ["script"] (sp_law K) := by
  have e := hfa.symm.trans (PySem.W.mg_of X G n39)
  cases e
  have F7 := fun_mk (st := s_ratio) l7 c7 k7
  have b7 := F7.binds (ps := ["n", "d"]) fun _ _ _ _ _ _ us hl => match us, hl with | [_, _], _ => rfl
  have F8 := fun_mk (st := s_add) l8 c8 k8
  have b8 := F8.binds (ps := ["a", "b"]) fun _ _ _ _ _ _ us hl => match us, hl with | [_, _], _ => rfl
  have F9 := fun_mk (st := s_subtract) l9 c9 k9
  have b9 := F9.binds (ps := ["a", "b"]) fun _ _ _ _ _ _ us hl => match us, hl with | [_, _], _ => rfl
  have F10 := fun_mk (st := s_multiply) l10 c10 k10
  have b10 := F10.binds (ps := ["a", "b"]) fun _ _ _ _ _ _ us hl => match us, hl with | [_, _], _ => rfl
  have F11 := fun_mk (st := s_divide) l11 c11 k11
  have b11 := F11.binds (ps := ["a", "b"]) fun _ _ _ _ _ _ us hl => match us, hl with | [_, _], _ => rfl
  have F12 := fun_mk (st := s_known_form) l12 c12 k12
  have b12 := F12.binds (ps := ["number"]) fun _ _ _ _ _ _ us hl => match us, hl with | [_], _ => rfl
  have F13 := fun_mk (st := s_unknown_form) l13 c13 k13
  have b13 := F13.binds (ps := ["unknown"]) fun _ _ _ _ _ _ us hl => match us, hl with | [_], _ => rfl
  have F14 := fun_mk (st := s_add_forms) l14 c14 k14
  have b14 := F14.binds (ps := ["a", "b"]) fun _ _ _ _ _ _ us hl => match us, hl with | [_, _], _ => rfl
  have F15 := fun_mk (st := s_subtract_forms) l15 c15 k15
  have b15 := F15.binds (ps := ["a", "b"]) fun _ _ _ _ _ _ us hl => match us, hl with | [_, _], _ => rfl
  have F16 := fun_mk (st := s_combine_forms) l16 c16 k16
  have b16 := F16.binds (ps := ["a", "b", "operation"]) fun _ _ _ _ _ _ us hl => match us, hl with | [_, _, _], _ => rfl
  have F17 := fun_mk (st := s_scale_form) l17 c17 k17
  have b17 := F17.binds (ps := ["form", "number"]) fun _ _ _ _ _ _ us hl => match us, hl with | [_, _], _ => rfl
  have F18 := fun_mk (st := s_replace_unknown) l18 c18 k18
  have b18 := F18.binds (ps := ["form", "unknown", "other"]) fun _ _ _ _ _ _ us hl => match us, hl with | [_, _, _], _ => rfl
  have F19 := fun_mk (st := s_coefficient) l19 c19 k19
  have b19 := F19.binds (ps := ["form", "unknown"]) fun _ _ _ _ _ _ us hl => match us, hl with | [_, _], _ => rfl
  have F20 := fun_mk (st := s_Equations___init__) l20 c20 k20
  have b20 := F20.binds (ps := ["self"]) fun _ _ _ _ _ _ us hl => match us, hl with | [_], _ => rfl
  have F21 := fun_mk (st := s_Equations_new_unknown) l21 c21 k21
  have b21 := F21.binds (ps := ["self"]) fun _ _ _ _ _ _ us hl => match us, hl with | [_], _ => rfl
  have F22 := fun_mk (st := s_Equations_kind) l22 c22 k22
  have b22 := F22.binds (ps := ["self", "unknown"]) fun _ _ _ _ _ _ us hl => match us, hl with | [_, _], _ => rfl
  have F23 := fun_mk (st := s_Equations_form) l23 c23 k23
  have b23 := F23.binds (ps := ["self", "unknown"]) fun _ _ _ _ _ _ us hl => match us, hl with | [_, _], _ => rfl
  have F24 := fun_mk (st := s_Equations_reduce) l24 c24 k24
  have b24 := F24.binds (ps := ["self", "form"]) fun _ _ _ _ _ _ us hl => match us, hl with | [_, _], _ => rfl
  have F25 := fun_mk (st := s_Equations_equate) l25 c25 k25
  have b25 := F25.binds (ps := ["self", "left", "right"]) fun _ _ _ _ _ _ us hl => match us, hl with | [_, _, _], _ => rfl
  have F26 := fun_mk (st := s_Equations__forms_with) l26 c26 k26
  have b26 := F26.binds (ps := ["self", "unknown", "rest"]) fun _ _ _ _ _ _ us hl => match us, hl with | [_, _, _], _ => rfl
  have F27 := fun_mk (st := s__law_cell) l27 c27 k27
  have b27 := F27.binds (ps := ["script", "k"]) fun _ _ _ _ _ _ us hl => match us, hl with | [_, _], _ => rfl
  have F28 := fun_mk (st := s__law_stream) l28 c28 k28
  have b28 := F28.binds (ps := ["cell"]) fun _ _ _ _ _ _ us hl => match us, hl with | [_], _ => rfl
  have F29 := fun_mk (st := s__law_next) l29 c29 k29
  have b29 := F29.binds (ps := ["stream", "size"]) fun _ _ _ _ _ _ us hl => match us, hl with | [_, _], _ => rfl
  have F30 := fun_mk (st := s__law_made) l30 c30 k30
  have b30 := F30.binds (ps := ["factors", "constant"]) fun _ _ _ _ _ _ us hl => match us, hl with | [_, _], _ => rfl
  have F31 := fun_mk (st := s__law_sides) l31 c31 k31
  have b31 := F31.binds (ps := ["stream", "factors", "constant"]) fun _ _ _ _ _ _ us hl => match us, hl with | [_, _, _], _ => rfl
  have F32 := fun_mk (st := s__law_begun) l32 c32 k32
  have b32 := F32.binds (ps := ["count"]) fun _ _ _ _ _ _ us hl => match us, hl with | [_], _ => rfl
  have F33 := fun_mk (st := s__law_order) l33 c33 k33
  have b33 := F33.binds (ps := ["stream", "rows"]) fun _ _ _ _ _ _ us hl => match us, hl with | [_, _], _ => rfl
  have F34 := fun_mk (st := s__law_states) l34 c34 k34
  have b34 := F34.binds (ps := ["equations", "count"]) fun _ _ _ _ _ _ us hl => match us, hl with | [_, _], _ => rfl
  have F35 := fun_mk (st := s__law_run) l35 c35 k35
  have b35 := F35.binds (ps := ["stream", "rows", "solution"]) fun _ _ _ _ _ _ us hl => match us, hl with | [_, _, _], _ => rfl
  have F36 := fun_mk (st := s__law_contradicts) l36 c36 k36
  have b36 := F36.binds (ps := ["equations", "factors", "solution"]) fun _ _ _ _ _ _ us hl => match us, hl with | [_, _, _], _ => rfl
  have F37 := fun_mk (st := s__law_too_great) l37 c37 k37
  have b37 := F37.binds (ps := ["stream"]) fun _ _ _ _ _ _ us hl => match us, hl with | [_], _ => rfl
  have F38 := fun_mk (st := s__law_holds_still) l38 c38 k38
  have b38 := F38.binds (ps := ["equations", "factors", "solution"]) fun _ _ _ _ _ _ us hl => match us, hl with | [_, _, _], _ => rfl
  have F39 := fun_mk (st := s_law) l39 c39 k39
  have b39 := F39.binds (ps := ["script"]) fun _ _ _ _ _ _ us hl => match us, hl with | [_], _ => rfl
  let A : Nat → Addr := fun | 0 => a0 | 1 => a1 | 2 => a2 | 3 => a3 | 4 => a4 | 5 => a5 | 6 => a6 | 7 => a7 | 8 => a8 | 9 => a9 | 10 => a10 | 11 => a11 | 12 => a12 | 13 => a13 | 14 => a14 | 15 => a15 | 16 => a16 | 17 => a17 | 18 => a18 | 19 => a19 | 20 => a20 | 21 => a21 | 22 => a22 | 23 => a23 | 24 => a24 | 25 => a25 | 26 => a26 | 27 => a27 | 28 => a28 | 29 => a29 | 30 => a30 | 31 => a31 | 32 => a32 | 33 => a33 | 34 => a34 | 35 => a35 | 36 => a36 | 37 => a37 | 38 => a38 | 39 => fa | 40 => a40 | 41 => a41 | 42 => a42 | _ => 0
  let D : Nat → FuncData := fun | 7 => PySem.W.fnOf "ratio" "ratio" (defArgs s_ratio) (defBody s_ratio) (defScope s_ratio) .none kV7 dc7 pm7 an7 cd7 ct7 | 8 => PySem.W.fnOf "add" "add" (defArgs s_add) (defBody s_add) (defScope s_add) .none kV8 dc8 pm8 an8 cd8 ct8 | 9 => PySem.W.fnOf "subtract" "subtract" (defArgs s_subtract) (defBody s_subtract) (defScope s_subtract) .none kV9 dc9 pm9 an9 cd9 ct9 | 10 => PySem.W.fnOf "multiply" "multiply" (defArgs s_multiply) (defBody s_multiply) (defScope s_multiply) .none kV10 dc10 pm10 an10 cd10 ct10 | 11 => PySem.W.fnOf "divide" "divide" (defArgs s_divide) (defBody s_divide) (defScope s_divide) .none kV11 dc11 pm11 an11 cd11 ct11 | 12 => PySem.W.fnOf "known_form" "known_form" (defArgs s_known_form) (defBody s_known_form) (defScope s_known_form) .none kV12 dc12 pm12 an12 cd12 ct12 | 13 => PySem.W.fnOf "unknown_form" "unknown_form" (defArgs s_unknown_form) (defBody s_unknown_form) (defScope s_unknown_form) .none kV13 dc13 pm13 an13 cd13 ct13 | 14 => PySem.W.fnOf "add_forms" "add_forms" (defArgs s_add_forms) (defBody s_add_forms) (defScope s_add_forms) .none kV14 dc14 pm14 an14 cd14 ct14 | 15 => PySem.W.fnOf "subtract_forms" "subtract_forms" (defArgs s_subtract_forms) (defBody s_subtract_forms) (defScope s_subtract_forms) .none kV15 dc15 pm15 an15 cd15 ct15 | 16 => PySem.W.fnOf "combine_forms" "combine_forms" (defArgs s_combine_forms) (defBody s_combine_forms) (defScope s_combine_forms) .none kV16 dc16 pm16 an16 cd16 ct16 | 17 => PySem.W.fnOf "scale_form" "scale_form" (defArgs s_scale_form) (defBody s_scale_form) (defScope s_scale_form) .none kV17 dc17 pm17 an17 cd17 ct17 | 18 => PySem.W.fnOf "replace_unknown" "replace_unknown" (defArgs s_replace_unknown) (defBody s_replace_unknown) (defScope s_replace_unknown) .none kV18 dc18 pm18 an18 cd18 ct18 | 19 => PySem.W.fnOf "coefficient" "coefficient" (defArgs s_coefficient) (defBody s_coefficient) (defScope s_coefficient) .none kV19 dc19 pm19 an19 cd19 ct19 | 20 => PySem.W.fnOf "__init__" "Equations.__init__" (defArgs s_Equations___init__) (defBody s_Equations___init__) (defScope s_Equations___init__) .none kV20 dc20 pm20 an20 cd20 ct20 | 21 => PySem.W.fnOf "new_unknown" "Equations.new_unknown" (defArgs s_Equations_new_unknown) (defBody s_Equations_new_unknown) (defScope s_Equations_new_unknown) .none kV21 dc21 pm21 an21 cd21 ct21 | 22 => PySem.W.fnOf "kind" "Equations.kind" (defArgs s_Equations_kind) (defBody s_Equations_kind) (defScope s_Equations_kind) .none kV22 dc22 pm22 an22 cd22 ct22 | 23 => PySem.W.fnOf "form" "Equations.form" (defArgs s_Equations_form) (defBody s_Equations_form) (defScope s_Equations_form) .none kV23 dc23 pm23 an23 cd23 ct23 | 24 => PySem.W.fnOf "reduce" "Equations.reduce" (defArgs s_Equations_reduce) (defBody s_Equations_reduce) (defScope s_Equations_reduce) .none kV24 dc24 pm24 an24 cd24 ct24 | 25 => PySem.W.fnOf "equate" "Equations.equate" (defArgs s_Equations_equate) (defBody s_Equations_equate) (defScope s_Equations_equate) .none kV25 dc25 pm25 an25 cd25 ct25 | 26 => PySem.W.fnOf "_forms_with" "Equations._forms_with" (defArgs s_Equations__forms_with) (defBody s_Equations__forms_with) (defScope s_Equations__forms_with) .none kV26 dc26 pm26 an26 cd26 ct26 | 27 => PySem.W.fnOf "_law_cell" "_law_cell" (defArgs s__law_cell) (defBody s__law_cell) (defScope s__law_cell) .none kV27 dc27 pm27 an27 cd27 ct27 | 28 => PySem.W.fnOf "_law_stream" "_law_stream" (defArgs s__law_stream) (defBody s__law_stream) (defScope s__law_stream) .none kV28 dc28 pm28 an28 cd28 ct28 | 29 => PySem.W.fnOf "_law_next" "_law_next" (defArgs s__law_next) (defBody s__law_next) (defScope s__law_next) .none kV29 dc29 pm29 an29 cd29 ct29 | 30 => PySem.W.fnOf "_law_made" "_law_made" (defArgs s__law_made) (defBody s__law_made) (defScope s__law_made) .none kV30 dc30 pm30 an30 cd30 ct30 | 31 => PySem.W.fnOf "_law_sides" "_law_sides" (defArgs s__law_sides) (defBody s__law_sides) (defScope s__law_sides) .none kV31 dc31 pm31 an31 cd31 ct31 | 32 => PySem.W.fnOf "_law_begun" "_law_begun" (defArgs s__law_begun) (defBody s__law_begun) (defScope s__law_begun) .none kV32 dc32 pm32 an32 cd32 ct32 | 33 => PySem.W.fnOf "_law_order" "_law_order" (defArgs s__law_order) (defBody s__law_order) (defScope s__law_order) .none kV33 dc33 pm33 an33 cd33 ct33 | 34 => PySem.W.fnOf "_law_states" "_law_states" (defArgs s__law_states) (defBody s__law_states) (defScope s__law_states) .none kV34 dc34 pm34 an34 cd34 ct34 | 35 => PySem.W.fnOf "_law_run" "_law_run" (defArgs s__law_run) (defBody s__law_run) (defScope s__law_run) .none kV35 dc35 pm35 an35 cd35 ct35 | 36 => PySem.W.fnOf "_law_contradicts" "_law_contradicts" (defArgs s__law_contradicts) (defBody s__law_contradicts) (defScope s__law_contradicts) .none kV36 dc36 pm36 an36 cd36 ct36 | 37 => PySem.W.fnOf "_law_too_great" "_law_too_great" (defArgs s__law_too_great) (defBody s__law_too_great) (defScope s__law_too_great) .none kV37 dc37 pm37 an37 cd37 ct37 | 38 => PySem.W.fnOf "_law_holds_still" "_law_holds_still" (defArgs s__law_holds_still) (defBody s__law_holds_still) (defScope s__law_holds_still) .none kV38 dc38 pm38 an38 cd38 ct38 | _ => PySem.W.fnOf "law" "law" (defArgs s_law) (defBody s_law) (defScope s_law) .none kV39 dc39 pm39 an39 cd39 ct39
  have T : Txt K mg A D :=
    {F_ratio := F7,
     m_ratio := PySem.W.mg_of X G n7,
     b_ratio := b7,
     F_add := F8,
     m_add := PySem.W.mg_of X G n8,
     b_add := b8,
     F_subtract := F9,
     m_subtract := PySem.W.mg_of X G n9,
     b_subtract := b9,
     F_multiply := F10,
     m_multiply := PySem.W.mg_of X G n10,
     b_multiply := b10,
     F_divide := F11,
     m_divide := PySem.W.mg_of X G n11,
     b_divide := b11,
     F_known_form := F12,
     m_known_form := PySem.W.mg_of X G n12,
     b_known_form := b12,
     F_unknown_form := F13,
     m_unknown_form := PySem.W.mg_of X G n13,
     b_unknown_form := b13,
     F_add_forms := F14,
     m_add_forms := PySem.W.mg_of X G n14,
     b_add_forms := b14,
     F_subtract_forms := F15,
     m_subtract_forms := PySem.W.mg_of X G n15,
     b_subtract_forms := b15,
     F_combine_forms := F16,
     m_combine_forms := PySem.W.mg_of X G n16,
     b_combine_forms := b16,
     F_scale_form := F17,
     m_scale_form := PySem.W.mg_of X G n17,
     b_scale_form := b17,
     F_replace_unknown := F18,
     m_replace_unknown := PySem.W.mg_of X G n18,
     b_replace_unknown := b18,
     F_coefficient := F19,
     m_coefficient := PySem.W.mg_of X G n19,
     b_coefficient := b19,
     F_Equations___init__ := F20,
     b_Equations___init__ := b20,
     F_Equations_new_unknown := F21,
     m_Equations_new_unknown := ⟨n21, fn21, k21⟩,
     b_Equations_new_unknown := b21,
     F_Equations_kind := F22,
     m_Equations_kind := ⟨n22, fn22, k22⟩,
     b_Equations_kind := b22,
     F_Equations_form := F23,
     m_Equations_form := ⟨n23, fn23, k23⟩,
     b_Equations_form := b23,
     F_Equations_reduce := F24,
     m_Equations_reduce := ⟨n24, fn24, k24⟩,
     b_Equations_reduce := b24,
     F_Equations_equate := F25,
     m_Equations_equate := ⟨n25, fn25, k25⟩,
     b_Equations_equate := b25,
     F_Equations__forms_with := F26,
     m_Equations__forms_with := ⟨n26, fn26, k26⟩,
     b_Equations__forms_with := b26,
     F__law_cell := F27,
     m__law_cell := PySem.W.mg_of X G n27,
     b__law_cell := b27,
     F__law_stream := F28,
     m__law_stream := PySem.W.mg_of X G n28,
     b__law_stream := b28,
     F__law_next := F29,
     m__law_next := PySem.W.mg_of X G n29,
     b__law_next := b29,
     F__law_made := F30,
     m__law_made := PySem.W.mg_of X G n30,
     b__law_made := b30,
     F__law_sides := F31,
     m__law_sides := PySem.W.mg_of X G n31,
     b__law_sides := b31,
     F__law_begun := F32,
     m__law_begun := PySem.W.mg_of X G n32,
     b__law_begun := b32,
     F__law_order := F33,
     m__law_order := PySem.W.mg_of X G n33,
     b__law_order := b33,
     F__law_states := F34,
     m__law_states := PySem.W.mg_of X G n34,
     b__law_states := b34,
     F__law_run := F35,
     m__law_run := PySem.W.mg_of X G n35,
     b__law_run := b35,
     F__law_contradicts := F36,
     m__law_contradicts := PySem.W.mg_of X G n36,
     b__law_contradicts := b36,
     F__law_too_great := F37,
     m__law_too_great := PySem.W.mg_of X G n37,
     b__law_too_great := b37,
     F__law_holds_still := F38,
     m__law_holds_still := PySem.W.mg_of X G n38,
     b__law_holds_still := b38,
     F_law := F39,
     m_law := PySem.W.mg_of X G n39,
     b_law := b39,
     q_Equations := ⟨pg6, hd6, po6, sa6⟩,
     g_Equations := PySem.W.mg_of X G ng6,
     M_Equations := ⟨mk6, n20, fn20, kc6⟩,
     nf_Equations__forms := na6__forms,
     x_FontError := ⟨PySem.W.mg_of X G xg0, xq0, xk0, xt0, ⟨xa0, xb0, xc0, xd0, xe0, xm, xn, xf0⟩, xv0⟩,
     x_TooGreat := ⟨PySem.W.mg_of X G xg1, xq1, xk1, xt1, ⟨xa1, xb1, xc1, xd1, xe1, xm, xn, xf1⟩, xv1⟩,
     x_DivisionByZero := ⟨PySem.W.mg_of X G xg2, xq2, xk2, xt2, ⟨xa2, xb2, xc2, xd2, xe2, xm, xn, xf2⟩, xv2⟩,
     x_Contradiction := ⟨PySem.W.mg_of X G xg3, xq3, xk3, xt3, ⟨xa3, xb3, xc3, xd3, xe3, xm, xn, xf3⟩, xv3⟩,
     x_OutOfRange := ⟨PySem.W.mg_of X G xg4, xq4, xk4, xt4, ⟨xa4, xb4, xc4, xd4, xe4, xm, xn, xf4⟩, xv4⟩,
     x_TooMany := ⟨PySem.W.mg_of X G xg5, xq5, xk5, xt5, ⟨xa5, xb5, xc5, xd5, xe5, xm, xn, xf5⟩, xv5⟩,
     e_FontError_FontError := e0_0,
     e_FontError_TooGreat := e0_1,
     e_FontError_DivisionByZero := e0_2,
     e_FontError_Contradiction := e0_3,
     e_FontError_OutOfRange := e0_4,
     e_FontError_TooMany := e0_5,
     e_TooGreat_FontError := e1_0,
     e_TooGreat_TooGreat := e1_1,
     e_TooGreat_DivisionByZero := e1_2,
     e_TooGreat_Contradiction := e1_3,
     e_TooGreat_OutOfRange := e1_4,
     e_TooGreat_TooMany := e1_5,
     e_DivisionByZero_FontError := e2_0,
     e_DivisionByZero_TooGreat := e2_1,
     e_DivisionByZero_DivisionByZero := e2_2,
     e_DivisionByZero_Contradiction := e2_3,
     e_DivisionByZero_OutOfRange := e2_4,
     e_DivisionByZero_TooMany := e2_5,
     e_Contradiction_FontError := e3_0,
     e_Contradiction_TooGreat := e3_1,
     e_Contradiction_DivisionByZero := e3_2,
     e_Contradiction_Contradiction := e3_3,
     e_Contradiction_OutOfRange := e3_4,
     e_Contradiction_TooMany := e3_5,
     e_OutOfRange_FontError := e4_0,
     e_OutOfRange_TooGreat := e4_1,
     e_OutOfRange_DivisionByZero := e4_2,
     e_OutOfRange_Contradiction := e4_3,
     e_OutOfRange_OutOfRange := e4_4,
     e_OutOfRange_TooMany := e4_5,
     e_TooMany_FontError := e5_0,
     e_TooMany_TooGreat := e5_1,
     e_TooMany_DivisionByZero := e5_2,
     e_TooMany_Contradiction := e5_3,
     e_TooMany_OutOfRange := e5_4,
     e_TooMany_TooMany := e5_5,
     z_dict := PySem.W.mg_none_of X G z_dict,
     z_enumerate := PySem.W.mg_none_of X G z_enumerate,
     z_int := PySem.W.mg_none_of X G z_int,
     z_len := PySem.W.mg_none_of X G z_len,
     z_list := PySem.W.mg_none_of X G z_list,
     z_max := PySem.W.mg_none_of X G z_max,
     z_min := PySem.W.mg_none_of X G z_min,
     z_range := PySem.W.mg_none_of X G z_range,
     z_sorted := PySem.W.mg_none_of X G z_sorted,
     z_sum := PySem.W.mg_none_of X G z_sum,
     z_tuple := PySem.W.mg_none_of X G z_tuple,
     l_gcd := PySem.W.mg_of X G l_gcd,
     c_ZERO := PySem.W.mg_of X G ntZERO,
     d_ZERO := fun H => (Z.dpk (vs := [.int (0), .int (1)]) ktZERO_0 (Nat.le_of_ble_eq_true rfl) (.cons ⟨_, rfl⟩ (.cons ⟨_, rfl⟩ .nil)) (.cons (.int _) (.cons (.int _) .nil))),
     c_ONE := PySem.W.mg_of X G ntONE,
     d_ONE := fun H => (Z.dpk (vs := [.int (1), .int (1)]) ktONE_0 (Nat.le_of_ble_eq_true rfl) (.cons ⟨_, rfl⟩ (.cons ⟨_, rfl⟩ .nil)) (.cons (.int _) (.cons (.int _) .nil))),
     c_MINUS_ONE := PySem.W.mg_of X G ntMINUS_ONE,
     d_MINUS_ONE := fun H => (Z.dpk (vs := [.int (-1), .int (1)]) ktMINUS_ONE_0 (Nat.le_of_ble_eq_true rfl) (.cons ⟨_, rfl⟩ (.cons ⟨_, rfl⟩ .nil)) (.cons (.int _) (.cons (.int _) .nil))),
     c_LIMIT := ⟨_, PySem.W.mg_of X G c_LIMIT, _, rfl⟩,
     c_MOST_UNKNOWNS := ⟨_, PySem.W.mg_of X G c_MOST_UNKNOWNS, _, rfl⟩}
  exact ⟨_, fun s v => .of_eq rfl, fun base _ _ => ok_law T⟩
end G
open PySem PySem.W PyProof.Rows
set_option maxRecDepth 100000 in
set_option maxHeartbeats 0 in
theorem PySem.Challenge.cw_fontwinding_k09_whole_order_of_equations_holds : PySem.Challenge.rw_fontwinding_k09_whole_order_of_equations.Holds := by
  w_on; o_law; k_head; (case hw => w_witness2)
  k_fill
  refine L2.walk_of (l := PySem.Challenge.rw_fontwinding_k09_whole_order_of_equations) (n := 63) (k := 9) (x := "script") (CX := fun _ => L2.CX0) (sp := fun w => G.sp_law _) rfl (by decide) rfl ⟨rfl, by decide, by decide⟩ (fun w h Y => PySem.W.kIn_of Y) ?F (fun _ _ a ns hl _ hS => ⟨a, ns, rfl, hS, hl, fun _ => rfl⟩) (fun _ _ _ _ _ h => h)
  case F =>
    intro w mg fa h KX G0 hmg
    refine' G.all_mk KX G0 hmg ?n7 ?l7 ?c7 ?k7 ?n8 ?l8 ?c8 ?k8 ?n9 ?l9 ?c9 ?k9 ?n10 ?l10 ?c10 ?k10 ?n11 ?l11 ?c11 ?k11 ?n12 ?l12 ?c12 ?k12 ?n13 ?l13 ?c13 ?k13 ?n14 ?l14 ?c14 ?k14 ?n15 ?l15 ?c15 ?k15 ?n16 ?l16 ?c16 ?k16 ?n17 ?l17 ?c17 ?k17 ?n18 ?l18 ?c18 ?k18 ?n19 ?l19 ?c19 ?k19 ?n20 ?fn20 ?l20 ?c20 ?k20 ?n21 ?fn21 ?l21 ?c21 ?k21 ?n22 ?fn22 ?l22 ?c22 ?k22 ?n23 ?fn23 ?l23 ?c23 ?k23 ?n24 ?fn24 ?l24 ?c24 ?k24 ?n25 ?fn25 ?l25 ?c25 ?k25 ?n26 ?fn26 ?l26 ?c26 ?k26 ?n27 ?l27 ?c27 ?k27 ?n28 ?l28 ?c28 ?k28 ?n29 ?l29 ?c29 ?k29 ?n30 ?l30 ?c30 ?k30 ?n31 ?l31 ?c31 ?k31 ?n32 ?l32 ?c32 ?k32 ?n33 ?l33 ?c33 ?k33 ?n34 ?l34 ?c34 ?k34 ?n35 ?l35 ?c35 ?k35 ?n36 ?l36 ?c36 ?k36 ?n37 ?l37 ?c37 ?k37 ?n38 ?l38 ?c38 ?k38 ?n39 ?l39 ?c39 ?k39 ?ng6 ?pg6 ?hd6 ?po6 ?sa6 ?mk6 ?kc6 ?na6__forms ?xg0 ?xq0 ?xk0 ?xt0 ?xa0 ?xb0 ?xc0 ?xd0 ?xe0 ?xf0 ?xv0 ?xg1 ?xq1 ?xk1 ?xt1 ?xa1 ?xb1 ?xc1 ?xd1 ?xe1 ?xf1 ?xv1 ?xg2 ?xq2 ?xk2 ?xt2 ?xa2 ?xb2 ?xc2 ?xd2 ?xe2 ?xf2 ?xv2 ?xg3 ?xq3 ?xk3 ?xt3 ?xa3 ?xb3 ?xc3 ?xd3 ?xe3 ?xf3 ?xv3 ?xg4 ?xq4 ?xk4 ?xt4 ?xa4 ?xb4 ?xc4 ?xd4 ?xe4 ?xf4 ?xv4 ?xg5 ?xq5 ?xk5 ?xt5 ?xa5 ?xb5 ?xc5 ?xd5 ?xe5 ?xf5 ?xv5 ?xm ?xn ?e0_0 ?e0_1 ?e0_2 ?e0_3 ?e0_4 ?e0_5 ?e1_0 ?e1_1 ?e1_2 ?e1_3 ?e1_4 ?e1_5 ?e2_0 ?e2_1 ?e2_2 ?e2_3 ?e2_4 ?e2_5 ?e3_0 ?e3_1 ?e3_2 ?e3_3 ?e3_4 ?e3_5 ?e4_0 ?e4_1 ?e4_2 ?e4_3 ?e4_4 ?e4_5 ?e5_0 ?e5_1 ?e5_2 ?e5_3 ?e5_4 ?e5_5 ?z_dict ?z_enumerate ?z_int ?z_len ?z_list ?z_max ?z_min ?z_range ?z_sorted ?z_sum ?z_tuple ?l_gcd ?c_LIMIT ?c_MOST_UNKNOWNS ?ntZERO ?ktZERO_0 ?ntONE ?ktONE_0 ?ntMINUS_ONE ?ktMINUS_ONE_0
    (case ng6 => k_is)
    (case n7 => k_is)
    (case l7 => k_is)
    (case c7 => k_is)
    (case k7 => k_is)
    (case n8 => k_is)
    (case l8 => k_is)
    (case c8 => k_is)
    (case k8 => k_is)
    (case n9 => k_is)
    (case l9 => k_is)
    (case c9 => k_is)
    (case k9 => k_is)
    (case n10 => k_is)
    (case l10 => k_is)
    (case c10 => k_is)
    (case k10 => k_is)
    (case n11 => k_is)
    (case l11 => k_is)
    (case c11 => k_is)
    (case k11 => k_is)
    (case n12 => k_is)
    (case l12 => k_is)
    (case c12 => k_is)
    (case k12 => k_is)
    (case n13 => k_is)
    (case l13 => k_is)
    (case c13 => k_is)
    (case k13 => k_is)
    (case n14 => k_is)
    (case l14 => k_is)
    (case c14 => k_is)
    (case k14 => k_is)
    (case n15 => k_is)
    (case l15 => k_is)
    (case c15 => k_is)
    (case k15 => k_is)
    (case n16 => k_is)
    (case l16 => k_is)
    (case c16 => k_is)
    (case k16 => k_is)
    (case n17 => k_is)
    (case l17 => k_is)
    (case c17 => k_is)
    (case k17 => k_is)
    (case n18 => k_is)
    (case l18 => k_is)
    (case c18 => k_is)
    (case k18 => k_is)
    (case n19 => k_is)
    (case l19 => k_is)
    (case c19 => k_is)
    (case k19 => k_is)
    (case n20 => k_is)
    (case fn20 => k_is)
    (case l20 => k_is)
    (case c20 => k_is)
    (case k20 => k_is)
    (case n21 => k_is)
    (case fn21 => k_is)
    (case l21 => k_is)
    (case c21 => k_is)
    (case k21 => k_is)
    (case n22 => k_is)
    (case fn22 => k_is)
    (case l22 => k_is)
    (case c22 => k_is)
    (case k22 => k_is)
    (case n23 => k_is)
    (case fn23 => k_is)
    (case l23 => k_is)
    (case c23 => k_is)
    (case k23 => k_is)
    (case n24 => k_is)
    (case fn24 => k_is)
    (case l24 => k_is)
    (case c24 => k_is)
    (case k24 => k_is)
    (case n25 => k_is)
    (case fn25 => k_is)
    (case l25 => k_is)
    (case c25 => k_is)
    (case k25 => k_is)
    (case n26 => k_is)
    (case fn26 => k_is)
    (case l26 => k_is)
    (case c26 => k_is)
    (case k26 => k_is)
    (case n27 => k_is)
    (case l27 => k_is)
    (case c27 => k_is)
    (case k27 => k_is)
    (case n28 => k_is)
    (case l28 => k_is)
    (case c28 => k_is)
    (case k28 => k_is)
    (case n29 => k_is)
    (case l29 => k_is)
    (case c29 => k_is)
    (case k29 => k_is)
    (case n30 => k_is)
    (case l30 => k_is)
    (case c30 => k_is)
    (case k30 => k_is)
    (case n31 => k_is)
    (case l31 => k_is)
    (case c31 => k_is)
    (case k31 => k_is)
    (case n32 => k_is)
    (case l32 => k_is)
    (case c32 => k_is)
    (case k32 => k_is)
    (case n33 => k_is)
    (case l33 => k_is)
    (case c33 => k_is)
    (case k33 => k_is)
    (case n34 => k_is)
    (case l34 => k_is)
    (case c34 => k_is)
    (case k34 => k_is)
    (case n35 => k_is)
    (case l35 => k_is)
    (case c35 => k_is)
    (case k35 => k_is)
    (case n36 => k_is)
    (case l36 => k_is)
    (case c36 => k_is)
    (case k36 => k_is)
    (case n37 => k_is)
    (case l37 => k_is)
    (case c37 => k_is)
    (case k37 => k_is)
    (case n38 => k_is)
    (case l38 => k_is)
    (case c38 => k_is)
    (case k38 => k_is)
    (case n39 => k_is)
    (case l39 => k_is)
    (case c39 => k_is)
    (case k39 => k_is)
    (case pg6 => k_is)
    (case hd6 => k_is)
    (case po6 => k_is)
    (case sa6 => k_is)
    (case mk6 => k_is)
    (case kc6 => k_is)
    (case na6__forms => k_is)
    (case xg0 => k_is)
    (case xq0 => k_exc)
    (case xk0 => k_is)
    (case xt0 => k_is)
    (case xa0 => k_is)
    (case xb0 => k_is)
    (case xc0 => k_is)
    (case xd0 => k_is)
    (case xe0 => k_is)
    (case xf0 => k_is)
    (case xv0 => k_is)
    (case xg1 => k_is)
    (case xq1 => k_exc)
    (case xk1 => k_is)
    (case xt1 => k_is)
    (case xa1 => k_is)
    (case xb1 => k_is)
    (case xc1 => k_is)
    (case xd1 => k_is)
    (case xe1 => k_is)
    (case xf1 => k_is)
    (case xv1 => k_is)
    (case xg2 => k_is)
    (case xq2 => k_exc)
    (case xk2 => k_is)
    (case xt2 => k_is)
    (case xa2 => k_is)
    (case xb2 => k_is)
    (case xc2 => k_is)
    (case xd2 => k_is)
    (case xe2 => k_is)
    (case xf2 => k_is)
    (case xv2 => k_is)
    (case xg3 => k_is)
    (case xq3 => k_exc)
    (case xk3 => k_is)
    (case xt3 => k_is)
    (case xa3 => k_is)
    (case xb3 => k_is)
    (case xc3 => k_is)
    (case xd3 => k_is)
    (case xe3 => k_is)
    (case xf3 => k_is)
    (case xv3 => k_is)
    (case xg4 => k_is)
    (case xq4 => k_exc)
    (case xk4 => k_is)
    (case xt4 => k_is)
    (case xa4 => k_is)
    (case xb4 => k_is)
    (case xc4 => k_is)
    (case xd4 => k_is)
    (case xe4 => k_is)
    (case xf4 => k_is)
    (case xv4 => k_is)
    (case xg5 => k_is)
    (case xq5 => k_exc)
    (case xk5 => k_is)
    (case xt5 => k_is)
    (case xa5 => k_is)
    (case xb5 => k_is)
    (case xc5 => k_is)
    (case xd5 => k_is)
    (case xe5 => k_is)
    (case xf5 => k_is)
    (case xv5 => k_is)
    (case xm => k_is)
    (case xn => k_is)
    (case e0_0 => k_is)
    (case e0_1 => k_is)
    (case e0_2 => k_is)
    (case e0_3 => k_is)
    (case e0_4 => k_is)
    (case e0_5 => k_is)
    (case e1_0 => k_is)
    (case e1_1 => k_is)
    (case e1_2 => k_is)
    (case e1_3 => k_is)
    (case e1_4 => k_is)
    (case e1_5 => k_is)
    (case e2_0 => k_is)
    (case e2_1 => k_is)
    (case e2_2 => k_is)
    (case e2_3 => k_is)
    (case e2_4 => k_is)
    (case e2_5 => k_is)
    (case e3_0 => k_is)
    (case e3_1 => k_is)
    (case e3_2 => k_is)
    (case e3_3 => k_is)
    (case e3_4 => k_is)
    (case e3_5 => k_is)
    (case e4_0 => k_is)
    (case e4_1 => k_is)
    (case e4_2 => k_is)
    (case e4_3 => k_is)
    (case e4_4 => k_is)
    (case e4_5 => k_is)
    (case e5_0 => k_is)
    (case e5_1 => k_is)
    (case e5_2 => k_is)
    (case e5_3 => k_is)
    (case e5_4 => k_is)
    (case e5_5 => k_is)
    (case z_dict => k_is)
    (case z_enumerate => k_is)
    (case z_int => k_is)
    (case z_len => k_is)
    (case z_list => k_is)
    (case z_max => k_is)
    (case z_min => k_is)
    (case z_range => k_is)
    (case z_sorted => k_is)
    (case z_sum => k_is)
    (case z_tuple => k_is)
    (case l_gcd => k_is)
    (case c_LIMIT => k_is)
    (case c_MOST_UNKNOWNS => k_is)
    (case ntZERO => k_is)
    (case ktZERO_0 => k_is)
    (case ntONE => k_is)
    (case ktONE_0 => k_is)
    (case ntMINUS_ONE => k_is)
    (case ktMINUS_ONE_0 => k_is)
