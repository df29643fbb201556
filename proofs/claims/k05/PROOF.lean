import PyProof.Rows.All
import Wide.All
import OpenK.AllK
import Wide.FinOn
import HandS.ForMost
import HandS.ForExc
import HandS.Wide
import HandS.Gcd
import HandS.IsInst
import HandS.ExcIs
import HandS.TryMany
import HandS.Evl
import HandS.Style
import HandS.SetBool
import HandS.Strs
import HandS.SortInts
import KE.KDictCopyH
import PyProof.EvalArms
import PyProof.DictUpdate
import HandS.Dict
import HandS.More
import HandS.CallLocal
import HandS.Conv
import KE.KDictPairs
import KE.KDictZip
import PySem.Challenge.RW_fontwinding_k05_replaced_unknown
set_option Elab.async false
set_option linter.all false
set_option maxRecDepth 100000
set_option maxHeartbeats 4000000
namespace Z
open PySem PySem.Spec PyProof.Rows L2

/-! ### operators -/
section
variable {X : Cx}
def CFd (_ j : Int) : Prop := j ≠ 0 ∧ j.natAbs.log2 < 9000
theorem op_fdivZ : OpR X (binaryOp .FloorDiv) (rI CFd fun i j => .int (i.fdiv j)) := opI fun i j _ _ _ _ _ hc q => floordiv_int hc.1 q (.inl (PyProof.noPylong_of_log2 hc.2))
theorem pe_globE {x : Str} {pos : Pos} {v : V} (h : ∃ u, X.mg x = some u ∧ RelV v u) (hg : Gl X x := by rfl) (hdb : (x == ("__debug__" : Str)) = false := by decide) : PE X (.Name x pos) (tC v) := by
  obtain ⟨u, h1, h2⟩ := h
  exact pe_glob hg h1 h2 hdb
theorem pe_globR {x : Str} {pos : Pos} {a : Addr} (h : X.mg x = some (.ref a)) (hg : Gl X x := by rfl) (hdb : (x == ("__debug__" : Str)) = false := by decide) : PE X (.Name x pos) (tC (.ref a)) := pe_glob hg h rfl hdb
end
/-- an own error class over ValueError -/
structure ExcX (K : PySem.W.Frag) (mg : Str → Option Value) (x : Str) (C : Addr) : Prop where
  g : mg x = some (.ref C)
  q : PySem.W.excIn K C [.type "ValueError", .type "Exception", .type "BaseException", .type "object"] "ValueError.__new__" = true
  k : PySem.W.keepIn K (.ref C) = true
  t : PySem.W.typeIn K (.ref C) = some (.type "type")
  c : ExcC K C
  v : PySem.W.subIn K (.ref C) (.type "ValueError") = some true
section
variable {X : Cx} {C D : Addr} {K : PySem.W.Frag} {mg : Str → Option Value} {x y : Str} {b : Bool}
theorem pmk {m : Str} {j : Nat} {p p2 pos : Pos} (E : ExcX X.K X.mg x C) (hg : Gl X x) (hdb : (x == ("__debug__" : Str)) = false := by decide) :
    PMk X (.Call (.Name x p) [.Constant (.str m) j p2] [] pos) (fun _ H Q => Q (.ref C) none H) := pmk_own PySem.F.excBase_ValueError E.q E.g E.k (raises_own E.c.hs E.t) hg hdb
theorem exm (E : ExcX K mg x C) (h : PySem.W.subIn K (.ref D) (.ref C) = some b) : PySem.W.exmOne K (.ref D) (.ref C) = some b := PySem.W.exm_ref E.c.hs E.c.hd E.t h
theorem kit_own (E : ExcX K mg x C) (h : PySem.W.subIn K (.ref D) (.ref C) = some b) (hs : PySem.W.subIn K (.ref C) (.ref C) = some true) : PySem.W.kitOne K (.ref D) (.ref C) = some b := by
  unfold PySem.W.kitOne
  by_cases e : D = C
  · subst e
    rw [hs] at h
    cases h
    rw [if_pos (by simp)]
  · rw [if_neg (by simpa using e)]
    unfold PySem.W.kitCls
    obtain ⟨cd, hc, _⟩ := PySem.W.any_some E.c.hd
    have e2 : ((PySem.W.clsIn K C).isSome && PySem.W.typeIn K (.ref C) == some (.type "type")) = true := by rw [hc, E.t] <;> rfl
    show (if _ then _ else _) = _
    rw [if_pos e2, h]
theorem kit_ve (E : ExcX K mg x D) : PySem.W.kitOne K (.ref D) (.type "ValueError") = some true := by
  unfold PySem.W.kitOne
  rw [if_neg (by simp)]
  unfold PySem.W.kitCls
  show (if _ then _ else _) = _
  rw [if_pos (by decide +kernel), E.v]
/-- isinstance of the error that a suite holds -/
def rIsEx (K : PySem.W.Frag) (cls : Value) (d : Option Addr) (a : Addr) : List V → Hp → VK → Prop := fun xs H Q => ∃ D, cls = .ref D ∧ d = none ∧ ExcC K D ∧ rIsE K D a xs H Q
theorem call_isE {a : Addr} {oe : Obj} {cls : Value} {d : Option Addr} {pn : List (Addr × Obj)} (hz : Zc cls d oe) (hf : ∃ vs, oe.data = .fields vs) : CallR (X.suite a ((a, oe) :: pn)) (.builtin "isinstance") (rIsEx X.K cls d a) := by
  intro pins s σ H xs us Q I r h
  obtain ⟨D, e1, e2, c, h⟩ := h
  subst e1
  subst e2
  exact L2.call_isE c hz hf pins s σ H xs us Q I r h
end

/-! ### heaps -/
theorem same_upd {H : Hp} {p : Addr} {o : HO} (h : H p = none) : Same H (upd H p o) := fun b x e => by
  rw [upd_ne (ne_of_none e h)]
  exact e
theorem Same.seqT {K : PySem.W.Frag} {H H' : Hp} {a : Addr} {xs : List V} (e : Same H H') (h : SqT K H a xs) : SqT K H' a xs := by
  rcases h with (h | ⟨o, h⟩) | h
  · exact .inl (.inl (e _ _ h))
  · exact .inl (.inr ⟨o, e _ _ h⟩)
  · exact .inr h
theorem seqT {K : PySem.W.Frag} {H H' : Hp} {a : Addr} {xs : List V} (e : Same H H') (h : SqT K H a xs) : SqT K H' a xs := Same.seqT e h
theorem sz {n : Nat} (h : n ≤ 1000) : n ≤ sizeLine := Nat.le_trans h (by decide)

/-! ### readings, step by step -/
def NewT (Q : VK) : List V → Hp → Prop := fun xs H1 => xs.length ≤ sizeLine ∧ ∀ p, H1 p = none → Q (.ref p) (upd H1 p (.tup xs))
def NewL (Q : VK) : List V → Hp → Prop := fun xs H1 => xs.length ≤ sizeLine ∧ ∀ p, H1 p = none → Q (.ref p) (upd H1 p (.lst xs))
section
variable {σ : L2.St} {H : Hp} {n : L2.St → Hp → Prop} {r : VK} {b c : L2.St → Hp → Prop} {t u : TS} {te ta tb : TE} {tt tu : TT} {Q : VK} {QB : Bool → Hp → Prop} {v w x y : V} {i j : Int} {K : PySem.W.Frag}
theorem z_seq (h : t ⟨u ⟨n, r, b, c⟩, r, b, c⟩ σ H) : tSeq t u ⟨n, r, b, c⟩ σ H := h
theorem z_asg {k : Nat} (h : te σ H fun x H1 => n (σ.set k (some x)) H1) : tAsg te (gName k) ⟨n, r, b, c⟩ σ H := h
theorem z_asgS {to ti : TE} {st : TSet} (h : te σ H fun v H0 => to σ H0 fun o H1 => ti σ H1 fun k H2 => st o k v H2 fun H3 => n σ H3) : tAsg te (gSub to ti st) ⟨n, r, b, c⟩ σ H := h
theorem z_drop (h : te σ H fun _ H1 => n σ H1) : tDrop te ⟨n, r, b, c⟩ σ H := h
theorem z_ret (h : te σ H r) : tRet te ⟨n, r, b, c⟩ σ H := h
theorem z_retN (h : r .non H) : tRetN ⟨n, r, b, c⟩ σ H := h
theorem z_next (h : n σ H) : tNext ⟨n, r, b, c⟩ σ H := h
theorem z_brk (h : b σ H) : tBreak ⟨n, r, b, c⟩ σ H := h
theorem z_cont (h : c σ H) : tCont ⟨n, r, b, c⟩ σ H := h
theorem z_ifs (h : tt σ H fun k H1 => if k = true then t ⟨n, r, b, c⟩ σ H1 else u ⟨n, r, b, c⟩ σ H1) : tIfS tt t u ⟨n, r, b, c⟩ σ H := h
theorem z_par {p q : Nat} {tl : TA} (h : tl σ H fun vs H1 => ∃ v w, vs = [v, w] ∧ n ((σ.set p (some v)).set q (some w)) H1) : tPar p q tl ⟨n, r, b, c⟩ σ H := h
theorem z_two {R : V → V → Prop} (h : R v w) : ∃ v' w', [v, w] = [v', w'] ∧ R v' w' := ⟨v, w, rfl, h⟩
theorem z_aug {k : Nat} {ti : TIp} (h : σ[k]? = some (some x)) (q : te σ H fun y H1 => ti x y H1 fun z H2 => n (σ.set k (some z)) H2) : tAug k te ti ⟨n, r, b, c⟩ σ H := ⟨x, h, q⟩
theorem z_ipI {f : Int → Int → Int} (q : Q (.int (f i j)) H) : ipI f (.int i) (.int j) H Q := ⟨i, j, rfl, rfl, q⟩
theorem z_var {k : Nat} (h : σ[k]? = some (some v)) (q : Q v H) : tVar k σ H Q := ⟨v, h, q⟩
theorem z_c (q : Q v H) : tC v σ H Q := q
theorem z_op {g : R2} (h : ta σ H fun x H1 => tb σ H1 fun y H2 => g x y H2 Q) : tOp g ta tb σ H Q := h
theorem z_un {g : V → Hp → VK → Prop} (h : ta σ H fun x H1 => g x H1 Q) : tUn g ta σ H Q := h
theorem z_I0 {g : Int → Int → V} (q : Q (g i j) H) : rI0 g (.int i) (.int j) H Q := ⟨i, j, rfl, rfl, q⟩
theorem z_I {C : Int → Int → Prop} {g : Int → Int → V} (hc : C i j) (q : Q (g i j) H) : rI C g (.int i) (.int j) H Q := ⟨i, j, rfl, rfl, hc, q⟩
theorem z_U {g : Int → V} (q : Q (g i) H) : rU g (.int i) H Q := ⟨i, rfl, q⟩
theorem z_eqI (q : Q (.bl (decide (i = j))) H) : rEq (.int i) (.int j) H Q := ⟨rfl, by rw [show decide (V.int i = V.int j) = decide (i = j) by simp]; exact q⟩
theorem z_neI (q : Q (.bl (decide (¬ i = j))) H) : rNe (.int i) (.int j) H Q := ⟨rfl, by rw [show (!decide (V.int i = V.int j)) = decide (¬ i = j) by simp]; exact q⟩
theorem z_eq (h : scal x y = true) (q : Q (.bl (decide (x = y))) H) : rEq x y H Q := ⟨h, q⟩
theorem z_test (h : te σ H fun x H1 => ∃ k, x = .bl k ∧ QB k H1) : tTest te σ H QB := h
theorem z_tB (h : te σ H fun x H1 => ∃ k, x = .bl k ∧ QB k H1) : tB te σ H QB := h
theorem z_bl {k : Bool} {R : Bool → Prop} (q : R k) : ∃ k', V.bl k = V.bl k' ∧ R k' := ⟨k, rfl, q⟩
theorem z_notT (h : tt σ H fun k H1 => QB (!k) H1) : tNot tt σ H QB := h
theorem z_andT (h : tt σ H fun k H1 => if k = true then tu σ H1 QB else QB false H1) : tAnd tt tu σ H QB := h
theorem z_orT (h : tt σ H fun k H1 => if k = true then QB true H1 else tu σ H1 QB) : tOr tt tu σ H QB := h
theorem z_andV (h : ta σ H fun x H1 => ∃ k, x = .bl k ∧ if k = true then tb σ H1 Q else Q (.bl false) H1) : tAndV ta tb σ H Q := h
theorem z_orV (h : ta σ H fun x H1 => ∃ k, x = .bl k ∧ if k = true then Q (.bl true) H1 else tb σ H1 Q) : tOrV ta tb σ H Q := h
theorem z_notV (h : ta σ H fun x H1 => ∃ k, x = .bl k ∧ Q (.bl (!k)) H1) : tNotV ta σ H Q := h
theorem z_ifE (h : tt σ H fun k H1 => if k = true then ta σ H1 Q else tb σ H1 Q) : tIf tt ta tb σ H Q := h
theorem z_chain {g g' : R2} {tc : TE} (h : ta σ H fun x H1 => tb σ H1 fun y H2 => g x y H2 fun z H3 => ∃ k, z = .bl k ∧ (if k = true then tc σ H3 fun w' H4 => g' y w' H4 Q else Q (.bl false) H3)) : tChain g g' ta tb tc σ H Q := h
theorem z_nil {R : List V → Hp → Prop} (q : R [] H) : tNil σ H R := q
theorem z_cons {tr : TA} {R : List V → Hp → Prop} (h : ta σ H fun x H1 => tr σ H1 fun xs H2 => R (x :: xs) H2) : tCons ta tr σ H R := h
theorem z_tup {tl : TA} (h : tl σ H (NewT Q)) : tTup tl σ H Q := h
theorem z_lst {tl : TA} (h : tl σ H (NewL Q)) : tLst tl σ H Q := h
theorem z_newT {xs : List V} (hl : xs.length ≤ 1000) (q : ∀ p H', H p = none → Same H H' → H' p = some (.tup xs) → Q (.ref p) H') : NewT Q xs H := ⟨sz hl, fun p hp => q p _ hp (same_upd hp) upd_same⟩
theorem z_newL {xs : List V} (hl : xs.length ≤ 1000) (q : ∀ p H', H p = none → Same H H' → H' p = some (.lst xs) → Q (.ref p) H') : NewL Q xs H := ⟨sz hl, fun p hp => q p _ hp (same_upd hp) upd_same⟩
theorem z_cb {g : List V → Hp → VK → Prop} {tl : TA} (h : tl σ H fun vs H1 => g vs H1 Q) : tCB g tl σ H Q := h
theorem z_call {sp : Sp} {E : XK} {tl : TA} (h : tl σ H fun vs H1 => sp vs H1 Q E) : tCall sp [] E tl σ H Q := by
  unfold tCall
  simpa only [List.append_nil] using h
theorem z_callS {sp : Sp} {E : L2.St → XK} {tl : TA} (h : tl σ H fun vs H1 => sp vs H1 Q (E σ)) : tCallS sp E tl σ H Q := h
theorem z_ixL {p : Addr} {xs : List V} (h : SqL K H p xs) (ha : atI xs i = some v) (q : Q v H) : rIxL K (.ref p) (.int i) H Q := ⟨p, xs, i, v, rfl, rfl, h, ha, q⟩
theorem z_ixT {p : Addr} {xs : List V} (h : SqT K H p xs) (ha : atI xs i = some v) (q : Q v H) : rIxT K (.ref p) (.int i) H Q := ⟨p, xs, i, v, rfl, rfl, h, ha, q⟩
theorem z_setL {p : Addr} {xs : List V} {k : Nat} {R : Hp → Prop} (h : H p = some (.lst xs)) (hk : ixN xs.length i = some k) (q : R (upd H p (.lst (xs.set k v)))) : rSetL (.ref p) (.int i) v H R := ⟨p, xs, i, k, rfl, rfl, h, hk, q⟩
theorem z_if {p : Prop} [Decidable p] {A B : Prop} (h1 : p → A) (h2 : ¬ p → B) : if decide p = true then A else B := by
  by_cases h : p
  · rw [if_pos (decide_eq_true h)]
    exact h1 h
  · rw [if_neg (by simpa using h)]
    exact h2 h
theorem z_ifB {k : Bool} {A B : Prop} (h1 : k = true → A) (h2 : k = false → B) : if k = true then A else B := by
  cases k with
  | true => exact h1 rfl
  | false => exact h2 rfl
/-- and, or, not of a test whose answer is known, the heap as it was -/
theorem z_andK {k k' : Bool} (h : k = true → ∀ R : Bool → Hp → Prop, R k' H → tu σ H R) (q : QB (k && k') H) : if k = true then tu σ H QB else QB false H := by
  cases k with
  | true => exact h rfl QB q
  | false => exact q
theorem z_orK {k k' : Bool} (h : k = false → ∀ R : Bool → Hp → Prop, R k' H → tu σ H R) (q : QB (k || k') H) : if k = true then QB true H else tu σ H QB := by
  cases k with
  | true => exact q
  | false => exact h rfl QB q
theorem z_andKV {k k' : Bool} (h : k = true → ∀ R : VK, R (.bl k') H → tb σ H R) (q : Q (.bl (k && k')) H) : if k = true then tb σ H Q else Q (.bl false) H := by
  cases k with
  | true => exact h rfl Q q
  | false => exact q
theorem z_orKV {k k' : Bool} (h : k = false → ∀ R : VK, R (.bl k') H → tb σ H R) (q : Q (.bl (k || k')) H) : if k = true then Q (.bl true) H else tb σ H Q := by
  cases k with
  | true => exact q
  | false => exact h rfl Q q
/-- the second comparison of a chain -/
theorem z_chK {k k' : Bool} {tc : TE} {g' : R2} (h : k = true → ∀ R : VK, R (.bl k') H → tc σ H fun w' H4 => g' y w' H4 R) (q : Q (.bl (k && k')) H) :
    if k = true then tc σ H fun w' H4 => g' y w' H4 Q else Q (.bl false) H := by
  cases k with
  | true => exact h rfl Q q
  | false => exact q
theorem z_ty {x : V} {t : String} {T : String} {k : Bool} {H : Hp} {Q : VK} (h : TyX K H x (.type t)) (e : kitB t T = some k) (q : Q (.bl k) H) : rIsi K [x, .ty T] H Q := ⟨x, .ty T, .type t, .type T, k, rfl, .ty T, h, kit_ty e, q⟩
end
end Z
namespace Z
open PySem PySem.Spec PyProof.Rows L2
theorem pe_powc {X : Cx} {a b v : Int} {j1 j2 : Nat} {p1 p2 pos : Pos} (h0 : CPow a b) (hv : a ^ b.toNat = v) : PE X (.BinOp (.Constant (.int a) j1 p1) .Pow (.Constant (.int b) j2 p2) pos) (tC (.int v)) := by
  subst hv
  exact ⟨fun pins s σ H Q I h => (pe_op op_pow pe_int pe_int).run pins s σ H Q I ⟨a, b, rfl, rfl, h0, h⟩⟩
def rInt1 : List V → Hp → VK → Prop := fun xs H Q => (∃ i, xs = [.int i] ∧ Q (.int i) H) ∨ ∃ k, xs = [.bl k] ∧ Q (.int (if k then 1 else 0)) H
def rAbs : List V → Hp → VK → Prop := fun xs H Q => ∃ i, xs = [.int i] ∧ Q (.int (if i < 0 then -i else i)) H
def rLen (K : PySem.W.Frag) : List V → Hp → VK → Prop := fun xs H Q => ∃ p ys, xs = [.ref p] ∧ (SqL K H p ys ∨ SqT K H p ys) ∧ Q (.int ys.length) H
theorem c_int {X : Cx} : CallR X (.type "int") rInt1 := call_int1
theorem c_abs {X : Cx} : CallR X (.builtin "abs") rAbs := call_abs
theorem c_len {X : Cx} : CallR X (.builtin "len") (rLen X.K) := call_len_seq
section
variable {H : Hp} {Q : VK} {i j : Int} {v : V} {R : Prop}
theorem z_int1 (q : Q (.int i) H) : rInt1 [.int i] H Q := .inl ⟨i, rfl, q⟩
theorem z_int1b {k : Bool} (q : Q (.int (if k then 1 else 0)) H) : rInt1 [.bl k] H Q := .inr ⟨k, rfl, q⟩
theorem z_abs (q : Q (.int (if i < 0 then -i else i)) H) : rAbs [.int i] H Q := ⟨i, rfl, q⟩
theorem z_gcd (q : Q (.int ((Nat.gcd i.natAbs j.natAbs : Nat) : Int)) H) : rGcd [.int i, .int j] H Q := ⟨i, j, rfl, q⟩
theorem z_lenL {K : PySem.W.Frag} {p : Addr} {xs : List V} (h : SqL K H p xs) (q : Q (.int (xs.length : Int)) H) : rLen K [.ref p] H Q := ⟨p, xs, rfl, .inl h, q⟩
theorem z_lenT {K : PySem.W.Frag} {p : Addr} {xs : List V} (h : SqT K H p xs) (q : Q (.int (xs.length : Int)) H) : rLen K [.ref p] H Q := ⟨p, xs, rfl, .inr h, q⟩
theorem z_isII {K : PySem.W.Frag} (q : Q (.bl true) H) : rIsi K [.int i, .ty "int"] H Q := z_ty (.base (.int i)) (by decide +kernel) q
theorem z_isIB {K : PySem.W.Frag} (q : Q (.bl false) H) : rIsi K [.int i, .ty "bool"] H Q := z_ty (.base (.int i)) (by decide +kernel) q
theorem z_isBB {K : PySem.W.Frag} {k : Bool} (q : Q (.bl true) H) : rIsi K [.bl k, .ty "bool"] H Q := z_ty (.base (.bl k)) (by decide +kernel) q
theorem z_isTT {K : PySem.W.Frag} {p : Addr} {xs : List V} (h : H p = some (.tup xs)) (q : Q (.bl true) H) : rIsi K [.ref p, .ty "tuple"] H Q := z_ty (.base (.tup h)) (by decide +kernel) q
theorem z_isLL {K : PySem.W.Frag} {p : Addr} {xs : List V} (h : H p = some (.lst xs)) (q : Q (.bl true) H) : rIsi K [.ref p, .ty "list"] H Q := z_ty (.base (.lst h)) (by decide +kernel) q
theorem z_new {xs : List V} {F : Addr → Prop} (h : xs.length ≤ 1000) (q : ∀ p, H p = none → F p) : xs.length ≤ sizeLine ∧ ∀ p, H p = none → F p := ⟨sz h, q⟩
end
end Z
namespace Z
open PySem PySem.Spec PyProof.Rows L2
section
variable {σ : L2.St} {H : Hp} {n : L2.St → Hp → Prop} {r : VK} {b c : L2.St → Hp → Prop} {tb : TS} {K : PySem.W.Frag}
/-- for k in range(m) -/
theorem z_forR1 {ta : TA} {k : Nat} (m : Nat) (hm : m < 2 ^ 62) (ha : ∀ R : List V → Hp → Prop, R [.int (m : Int)] H → ta σ H R) (Pv : Nat → L2.St → Hp → Prop) (h0 : Pv 0 σ H)
    (hs : ∀ i σ H, i < m → Pv i σ H → tb ⟨Pv (i + 1), r, n, Pv (i + 1)⟩ (σ.set k (some (.int (i : Int)))) H) (hd : ∀ σ H, Pv m σ H → n σ H) : tFor (iRng1 ta) (gName k) tb ⟨n, r, b, c⟩ σ H := by
  refine ha _ ⟨(m : Int), rfl, by omega, by omega, ?_⟩
  refine for_range (lo := 0) (n := (m : Int).toNat) Pv h0 (fun i σ' H' hi p => ?_) (fun σ' H' p => hd σ' H' (by simpa using p))
  have e : (0 : Int) + (i : Int) = (i : Int) := Int.zero_add _
  show tb _ (σ'.set k (some (.int ((0 : Int) + (i : Int))))) H'
  rw [e]
  exact hs i σ' H' (by simpa using hi) p
/-- for k in range(lo, hi) -/
theorem z_forR2 {ta : TA} {k : Nat} (lo : Int) (m : Nat) (hl : -(2 ^ 61) ≤ lo ∧ lo < 2 ^ 61) (hm : m < 2 ^ 61) (ha : ∀ R : List V → Hp → Prop, R [.int lo, .int (lo + (m : Int))] H → ta σ H R) (Pv : Nat → L2.St → Hp → Prop) (h0 : Pv 0 σ H)
    (hs : ∀ i σ H, i < m → Pv i σ H → tb ⟨Pv (i + 1), r, n, Pv (i + 1)⟩ (σ.set k (some (.int (lo + (i : Int))))) H) (hd : ∀ σ H, Pv m σ H → n σ H) : tFor (iRng2 ta) (gName k) tb ⟨n, r, b, c⟩ σ H := by
  refine ha _ ⟨lo, lo + (m : Int), rfl, by omega, ?_⟩
  have en : (lo + (m : Int) - lo).toNat = m := by omega
  rw [en]
  exact for_range (lo := lo) (n := m) Pv h0 hs hd
/-- for x in a list, in a tuple -/
theorem z_forL {tl : TE} {g : TG} {a : Addr} {xs : List V} (ha : ∀ R : VK, R (.ref a) H → tl σ H R) (hx : SqL K H a xs) (Pv : Nat → L2.St → Hp → Prop) (h0 : Pv 0 σ H) (hl : ∀ i σ H, i ≤ xs.length → Pv i σ H → SqL K H a xs)
    (hs : ∀ i x σ H, xs[i]? = some x → Pv i σ H → g x σ H fun σ2 H2 => tb ⟨Pv (i + 1), r, n, Pv (i + 1)⟩ σ2 H2) (hd : ∀ σ H, Pv xs.length σ H → n σ H) : tFor (iList K tl) g tb ⟨n, r, b, c⟩ σ H :=
  ha _ ⟨a, rfl, ⟨xs, hx⟩, for_list Pv h0 hl hs hd⟩
theorem z_forT {tl : TE} {g : TG} {a : Addr} {xs : List V} (ha : ∀ R : VK, R (.ref a) H → tl σ H R) (hx : SqT K H a xs) (Pv : Nat → L2.St → Hp → Prop) (h0 : Pv 0 σ H) (hl : ∀ i σ H, i ≤ xs.length → Pv i σ H → SqT K H a xs)
    (hs : ∀ i x σ H, xs[i]? = some x → Pv i σ H → g x σ H fun σ2 H2 => tb ⟨Pv (i + 1), r, n, Pv (i + 1)⟩ σ2 H2) (hd : ∀ σ H, Pv xs.length σ H → n σ H) : tFor (iTup K tl) g tb ⟨n, r, b, c⟩ σ H :=
  ha _ ⟨a, rfl, ⟨xs, hx⟩, for_tup Pv h0 hl hs hd⟩
theorem z_gName {k : Nat} {v : V} {R : L2.St → Hp → Prop} (q : R (σ.set k (some v)) H) : gName k v σ H R := q
end
end Z
namespace Z
section
variable {A B : Prop}
theorem z_ifT (q : A) : if true = true then A else B := by
  rw [if_pos rfl]
  exact q
theorem z_ifF (q : B) : if false = true then A else B := by
  rw [if_neg Bool.false_ne_true]
  exact q
theorem z_ifNF (q : A) : if (!false) = true then A else B := z_ifT q
theorem z_ifNT (q : B) : if (!true) = true then A else B := z_ifF q
theorem z_ifN {p : Prop} [Decidable p] (h1 : ¬ p → A) (h2 : p → B) : if (!decide p) = true then A else B := by
  by_cases h : p
  · rw [if_neg (by simpa using h)]
    exact h2 h
  · rw [if_pos (by simpa using h)]
    exact h1 h
end
end Z
namespace Z
theorem z_ifYes {A B : Prop} {k : Bool} (h : k = true) (q : A) : if k = true then A else B := by
  rw [if_pos h]
  exact q
theorem z_ifNo {A B : Prop} {k : Bool} (h : k = false) (q : B) : if k = true then A else B := by
  rw [if_neg (by rw [h]; exact Bool.false_ne_true)]
  exact q
end Z
namespace Z
open PySem PySem.Spec PyProof.Rows L2
theorem z_exc {K : PySem.W.Frag} {cv cls : Value} {i : Nat} {ts : Addr → Value → Option Addr → TS} {Wout : WX} {n : L2.St → Hp → Prop} {r : VK} {b c : L2.St → Hp → Prop} {d : Option Addr} {σ : L2.St} {H : Hp} (e : PySem.W.exmOne K cls cv = some true)
    (h : ∀ a, H a = none → ts a cls d ⟨fun σ' H' => n (σ'.set i none) H', r, fun σ' H' => b (σ'.set i none) H', fun σ' H' => c (σ'.set i none) H'⟩ (σ.set i (some (.ref a))) H) : WE (wAs K cv i ts Wout ⟨n, r, b, c⟩) σ cls d H :=
  ⟨true, e, fun _ a ha => h a ha, fun z => Bool.noConfusion z⟩
theorem z_excO {K : PySem.W.Frag} {cv cls : Value} {ts : Addr → Value → Option Addr → TS} {Wout : WX} {D : Ends} {d : Option Addr} {σ : L2.St} {H : Hp} (e : PySem.W.exmOne K cls cv = some true)
    (h : ∀ a, H a = none → ts a cls d D σ H) : WE (wOnly K cv ts Wout D) σ cls d H :=
  ⟨true, e, fun _ a ha => h a ha, fun z => Bool.noConfusion z⟩
theorem z_isEr {K : PySem.W.Frag} {a C D : Addr} {k : Bool} {H : Hp} {Q : VK} (x : ExcC K D) (e : PySem.W.kitOne K (.ref D) (.ref C) = some k) (q : Q (.bl k) H) : rIsEx K (.ref D) none a [.ref a, .ref C] H Q :=
  ⟨D, rfl, rfl, x, .ref C, .ref C, k, rfl, fun u h => h, e, q⟩
theorem z_isEt {K : PySem.W.Frag} {a D : Addr} {t : String} {k : Bool} {H : Hp} {Q : VK} (x : ExcC K D) (e : PySem.W.kitOne K (.ref D) (.type t) = some k) (q : Q (.bl k) H) : rIsEx K (.ref D) none a [.ref a, .ty t] H Q :=
  ⟨D, rfl, rfl, x, .ty t, .type t, k, rfl, fun u h => h, e, q⟩
/-- two lists, tuples of flat things compared -/
theorem z_eqD {K : PySem.W.Frag} {x y : V} {d e : PyData} {H : Hp} {Q : VK} (h1 : Dp K H x d) (h2 : Dp K H y e) (s1 : SeqAt.shaped d = true) (s2 : SeqAt.shaped e = true) (q : Q (.bl (PyData.eqv d e)) H) : rEqD K x y H Q := ⟨d, e, h1, h2, s1, s2, q⟩
end Z
namespace Z
open PySem PySem.Spec PyProof.Rows L2
theorem z_eqSame {K : PySem.W.Frag} {x y : V} {d : PyData} {H : Hp} {Q : VK} (h1 : Dp K H x d) (h2 : Dp K H y d) (s : SeqAt.shaped d = true) (q : Q (.bl true) H) : rEqD K x y H Q :=
  ⟨d, d, h1, h2, s, s, by rw [SeqAt.eqv_refl d (SeqAt.canLay_of_shaped s)]; exact q⟩
theorem dpT2 {K : PySem.W.Frag} {H : Hp} {p : Addr} {n d : Int} (h : H p = some (.tup [.int n, .int d])) : Dp K H (.ref p) (.tuple [.int n, .int d]) := .tup (.inl (.inl h)) (.cons (.int n) (.cons (.int d) .nil))
theorem dpB3 {K : PySem.W.Frag} {H : Hp} {p : Addr} {a b c : Bool} (h : H p = some (.lst [.bl a, .bl b, .bl c])) : Dp K H (.ref p) (.list [.bool a, .bool b, .bool c]) := .lst (.inl (.inl h)) (.cons (.bl a) (.cons (.bl b) (.cons (.bl c) .nil)))
end Z
namespace Z
open PySem PySem.Spec PyProof.Rows L2
theorem z_cut {t u : TS} {n : L2.St → Hp → Prop} {r : VK} {b c : L2.St → Hp → Prop} {σ : L2.St} {H : Hp} (Mid : L2.St → Hp → Prop) (h : t ⟨Mid, r, b, c⟩ σ H) (k : ∀ σ' H', Mid σ' H' → u ⟨n, r, b, c⟩ σ' H') : Evl.tCut t u ⟨n, r, b, c⟩ σ H := ⟨Mid, h, k⟩
end Z
namespace Z
open PySem PySem.Spec PyProof.Rows L2
section
variable {σ : L2.St} {H : Hp} {n : L2.St → Hp → Prop} {r : VK} {b c : L2.St → Hp → Prop} {te : TE} {K : PySem.W.Frag} {a : Addr} {xs : List V} {gs : TGs} {m : Nat} {v : V}
theorem z_asgT (h : te σ H fun x H1 => ∃ a xs, x = .ref a ∧ SqT K H1 a xs ∧ xs.length = m ∧ gs xs σ H1 n) : tAsg te (gTup K m gs) ⟨n, r, b, c⟩ σ H := h
theorem z_asgL (h : te σ H fun x H1 => ∃ a xs, x = .ref a ∧ SqL K H1 a xs ∧ xs.length = m ∧ gs xs σ H1 n) : tAsg te (gLst K m gs) ⟨n, r, b, c⟩ σ H := h
theorem z_up (h : SqT K H a xs) (hm : xs.length = m) (q : gs xs σ H n) : ∃ a' xs', V.ref a = .ref a' ∧ SqT K H a' xs' ∧ xs'.length = m ∧ gs xs' σ H n := ⟨a, xs, rfl, h, hm, q⟩
theorem z_upL (h : SqL K H a xs) (hm : xs.length = m) (q : gs xs σ H n) : ∃ a' xs', V.ref a = .ref a' ∧ SqL K H a' xs' ∧ xs'.length = m ∧ gs xs' σ H n := ⟨a, xs, rfl, h, hm, q⟩
theorem z_gT (h : SqT K H a xs) (hm : xs.length = m) (q : gs xs σ H n) : gTup K m gs (.ref a) σ H n := ⟨a, xs, rfl, h, hm, q⟩
theorem z_gcons {t : TG} {u : TGs} {R : L2.St → Hp → Prop} (h : t v σ H fun σ' H' => u xs σ' H' R) : gCons t u (v :: xs) σ H R := ⟨v, xs, rfl, h⟩
theorem z_gnil {R : L2.St → Hp → Prop} (h : R σ H) : gNil [] σ H R := ⟨rfl, h⟩
end
end Z
namespace Z
open PySem PySem.Spec PyProof.Rows L2
section
variable {K : PySem.W.Frag} {Wout : WX} {D : Ends} {c cls : Value} {ts : Addr → Value → Option Addr → TS} {l : List (Value × (Addr → Value → Option Addr → TS))} {σ : L2.St} {H : Hp} {d : Option Addr}
theorem z_many1 (e : PySem.W.exmOne K cls c = some true) (h : ∀ a, H a = none → ts a cls d D σ H) : WE (wMany K Wout D ((c, ts) :: l)) σ cls d H := ⟨true, e, fun _ a ha => h a ha, fun z => Bool.noConfusion z⟩
theorem z_many0 (e : PySem.W.exmOne K cls c = some false) (h : WE (wMany K Wout D l) σ cls d H) : WE (wMany K Wout D ((c, ts) :: l)) σ cls d H := ⟨false, e, fun z => Bool.noConfusion z, fun _ => h⟩
theorem z_eqS {x : Str} {Q : VK} (q : Q (.bl true) H) : rEq (.str x) (.str x) H Q := ⟨rfl, by rw [decide_eq_true rfl]; exact q⟩
end
end Z
/-! ### data: what a value stands for -/
namespace Z
open PySem PySem.Spec PyProof.Rows L2
section
variable {K : PySem.W.Frag} {H H' : Hp} {v : V} {d d1 d2 d3 d4 d5 d6 : PyData}
mutual
theorem dp_mono (s : Same H H') : ∀ {d : PyData} {v : V}, Dp K H v d → Dp K H' v d
  | _, _, .non => .non
  | _, _, .bl b => .bl b
  | _, _, .int i => .int i
  | _, _, .str x => .str x
  | _, _, .lst h a => .lst (s.seq h) (dp_monoA s a)
  | _, _, .tup h a => .tup (seqT s h) (dp_monoA s a)
theorem dp_monoA (s : Same H H') : ∀ {ds : List PyData} {vs : List V}, DpAll K H vs ds → DpAll K H' vs ds
  | _, _, .nil => .nil
  | _, _, .cons h a => .cons (dp_mono s h) (dp_monoA s a)
end
mutual
def tupOnly : PyData → Bool
  | .list _ => false
  | .dict _ => false
  | .tuple ds => tupOnlyA ds
  | .none => true
  | .bool _ => true
  | .int _ => true
  | .str _ => true
def tupOnlyA : List PyData → Bool
  | [] => true
  | d :: ds => tupOnly d && tupOnlyA ds
end
def Kp (p : Addr) (H H' : Hp) : Prop := ∀ b o, b ≠ p → H b = some o → H' b = some o
theorem seqT_kp {p a : Addr} {xs ys : List V} (k : Kp p H H') (hp : H p = some (.lst xs)) (h : SqT K H a ys) : SqT K H' a ys := by
  rcases h with (h | ⟨o, h⟩) | h
  · exact .inl (.inl (k _ _ (ne_of h hp (by intro z; cases z)) h))
  · exact .inl (.inr ⟨o, k _ _ (ne_of h hp (by intro z; cases z)) h⟩)
  · exact .inr h
mutual
theorem dp_kp {p : Addr} {xs : List V} (k : Kp p H H') (hp : H p = some (.lst xs)) : ∀ {d : PyData} {v : V}, tupOnly d = true → Dp K H v d → Dp K H' v d
  | _, _, _, .non => .non
  | _, _, _, .bl b => .bl b
  | _, _, _, .int i => .int i
  | _, _, _, .str x => .str x
  | _, _, t, .lst h a => by simp [tupOnly] at t
  | _, _, t, .tup h a => .tup (seqT_kp k hp h) (dp_kpA k hp (by simpa [tupOnly] using t) a)
theorem dp_kpA {p : Addr} {xs : List V} (k : Kp p H H') (hp : H p = some (.lst xs)) : ∀ {ds : List PyData} {vs : List V}, tupOnlyA ds = true → DpAll K H vs ds → DpAll K H' vs ds
  | _, _, _, .nil => .nil
  | _, _, t, .cons h a => by
    have t' : (tupOnly _ && tupOnlyA _) = true := t
    rw [Bool.and_eq_true] at t'
    exact .cons (dp_kp k hp t'.1 h) (dp_kpA k hp t'.2 a)
end
theorem dp_int {i : Int} (h : Dp K H v (.int i)) : v = .int i := by
  cases h
  rfl
theorem dp_non (h : Dp K H v .none) : v = .non := by
  cases h
  rfl
theorem dp_bool {b : Bool} (h : Dp K H v (.bool b)) : v = .bl b := by
  cases h
  rfl
theorem dp_str {b : Str} (h : Dp K H v (.str b)) : v = .str b := by
  cases h
  rfl
theorem dp_tup {ds : List PyData} (h : Dp K H v (.tuple ds)) : ∃ p vs, v = .ref p ∧ SqT K H p vs ∧ DpAll K H vs ds := by
  cases h with
  | tup h a => exact ⟨_, _, rfl, h, a⟩
theorem dpa_nil {vs : List V} (h : DpAll K H vs []) : vs = [] := by
  cases h
  rfl
theorem dpa_cons {vs : List V} {ds : List PyData} (h : DpAll K H vs (d :: ds)) : ∃ v r, vs = v :: r ∧ Dp K H v d ∧ DpAll K H r ds := by
  cases h with
  | cons a b => exact ⟨_, _, rfl, a, b⟩
theorem dp_t1 (h : Dp K H v (.tuple [d1])) : ∃ p v1, v = .ref p ∧ SqT K H p [v1] ∧ Dp K H v1 d1 := by
  obtain ⟨p, vs, e, hS, a⟩ := dp_tup h
  obtain ⟨v1, _, rfl, h1, a⟩ := dpa_cons a
  obtain rfl := dpa_nil a
  exact ⟨p, v1, e, hS, h1⟩
theorem dp_t2 (h : Dp K H v (.tuple [d1, d2])) : ∃ p v1 v2, v = .ref p ∧ SqT K H p [v1, v2] ∧ Dp K H v1 d1 ∧ Dp K H v2 d2 := by
  obtain ⟨p, vs, e, hS, a⟩ := dp_tup h
  obtain ⟨v1, _, rfl, h1, a⟩ := dpa_cons a
  obtain ⟨v2, _, rfl, h2, a⟩ := dpa_cons a
  obtain rfl := dpa_nil a
  exact ⟨p, v1, v2, e, hS, h1, h2⟩
theorem dp_t3 (h : Dp K H v (.tuple [d1, d2, d3])) : ∃ p v1 v2 v3, v = .ref p ∧ SqT K H p [v1, v2, v3] ∧ Dp K H v1 d1 ∧ Dp K H v2 d2 ∧ Dp K H v3 d3 := by
  obtain ⟨p, vs, e, hS, a⟩ := dp_tup h
  obtain ⟨v1, _, rfl, h1, a⟩ := dpa_cons a
  obtain ⟨v2, _, rfl, h2, a⟩ := dpa_cons a
  obtain ⟨v3, _, rfl, h3, a⟩ := dpa_cons a
  obtain rfl := dpa_nil a
  exact ⟨p, v1, v2, v3, e, hS, h1, h2, h3⟩
theorem dp_t6 (h : Dp K H v (.tuple [d1, d2, d3, d4, d5, d6])) : ∃ p v1 v2 v3 v4 v5 v6, v = .ref p ∧ SqT K H p [v1, v2, v3, v4, v5, v6] ∧ Dp K H v1 d1 ∧ Dp K H v2 d2 ∧ Dp K H v3 d3 ∧ Dp K H v4 d4 ∧ Dp K H v5 d5 ∧ Dp K H v6 d6 := by
  obtain ⟨p, vs, e, hS, a⟩ := dp_tup h
  obtain ⟨v1, _, rfl, h1, a⟩ := dpa_cons a
  obtain ⟨v2, _, rfl, h2, a⟩ := dpa_cons a
  obtain ⟨v3, _, rfl, h3, a⟩ := dpa_cons a
  obtain ⟨v4, _, rfl, h4, a⟩ := dpa_cons a
  obtain ⟨v5, _, rfl, h5, a⟩ := dpa_cons a
  obtain ⟨v6, _, rfl, h6, a⟩ := dpa_cons a
  obtain rfl := dpa_nil a
  exact ⟨p, v1, v2, v3, v4, v5, v6, e, hS, h1, h2, h3, h4, h5, h6⟩
theorem dp_mk {p : Addr} {vs : List V} {ds : List PyData} (h : H p = some (.tup vs)) (a : DpAll K H vs ds) : Dp K H (.ref p) (.tuple ds) := .tup (.inl (.inl h)) a
end
/-! ### numbers -/
def qD (r : Rat) : PyData := .tuple [.int r.num, .int (r.den : Int)]
theorem dp_q {K : PySem.W.Frag} {H : Hp} {v : V} {r : Rat} (h : Dp K H v (qD r)) : ∃ p, v = .ref p ∧ SqT K H p [.int r.num, .int (r.den : Int)] := by
  obtain ⟨p, v1, v2, e, hS, h1, h2⟩ := dp_t2 h
  rw [dp_int h1, dp_int h2] at hS
  exact ⟨p, e, hS⟩
theorem dp_mkq {K : PySem.W.Frag} {H : Hp} {p : Addr} {r : Rat} (h : H p = some (.tup [.int r.num, .int (r.den : Int)])) : Dp K H (.ref p) (qD r) := dp_mk h (.cons (.int _) (.cons (.int _) .nil))
theorem dp_seqq {K : PySem.W.Frag} {H : Hp} {p : Addr} {r : Rat} (h : SqT K H p [.int r.num, .int (r.den : Int)]) : Dp K H (.ref p) (qD r) := .tup h (.cons (.int _) (.cons (.int _) .nil))
/-- numerator and denominator at most so great -/
def Bd (r : Rat) (p q : Nat) : Prop := r.num.natAbs ≤ p ∧ r.den ≤ q
theorem bd_divInt {n d : Int} (h : d ≠ 0) : Bd (Rat.divInt n d) n.natAbs d.natAbs := by
  unfold Bd
  rw [Rat.num_divInt, Rat.den_divInt, if_neg h]
  refine ⟨Nat.le_trans (Int.natAbs_ediv_le_natAbs _ _) ?_, Nat.div_le_self _ _⟩
  rw [Int.natAbs_mul]
  have : d.sign.natAbs ≤ 1 := by
    rcases Int.lt_trichotomy d 0 with z | z | z
    · rw [Int.sign_eq_neg_one_of_neg z]; decide
    · exact absurd z h
    · rw [Int.sign_eq_one_of_pos z]; decide
  calc d.sign.natAbs * n.natAbs ≤ 1 * n.natAbs := Nat.mul_le_mul_right _ this
    _ = n.natAbs := Nat.one_mul _
theorem q_self (r : Rat) : Rat.divInt r.num (r.den : Int) = r := Rat.num_divInt_den r
end Z
namespace Z
open PySem PySem.Spec PyProof.Rows L2
def gd (n d : Int) : Int := ((Nat.gcd n.natAbs d.natAbs : Nat) : Int)
def rn (n d : Int) : Int := (if d < 0 then -n else n) / gd n d
def rd (n d : Int) : Int := (if d < 0 then -d else d) / gd n d
theorem rn_q {n d : Int} (h : d ≠ 0) : rn n d = (Rat.divInt n d).num := by
  rw [Rat.num_divInt]
  unfold rn gd
  have e : d.gcd n = Nat.gcd n.natAbs d.natAbs := Nat.gcd_comm _ _
  rw [e]
  congr 1
  split
  · rename_i z
    rw [Int.sign_eq_neg_one_of_neg z]
    omega
  · rename_i z
    rw [Int.sign_eq_one_of_pos (by omega)]
    omega
theorem rd_q {n d : Int} (h : d ≠ 0) : rd n d = ((Rat.divInt n d).den : Int) := by
  rw [Rat.den_divInt, if_neg h]
  unfold rd gd
  have e : d.gcd n = Nat.gcd n.natAbs d.natAbs := Nat.gcd_comm _ _
  rw [e]
  rw [Int.natCast_ediv]
  congr 1
  split <;> omega
def lim : Int := 1000000000000000000
def fitsQ (r : Rat) : Prop := -lim ≤ r.num ∧ r.num ≤ lim ∧ (r.den : Int) ≤ lim
theorem bd_add {a b : Rat} {p q p' q' : Nat} (h : Bd a p q) (h' : Bd b p' q') : Bd (a + b) (p * q' + p' * q) (q * q') := by
  have ha := a.den_nz
  have hb := b.den_nz
  have e : a + b = Rat.divInt (a.num * b.den + b.num * a.den) ((a.den : Int) * b.den) := by
    rw [← Rat.divInt_add_divInt _ _ (by omega) (by omega), Rat.num_divInt_den, Rat.num_divInt_den]
  rw [e]
  have hd : ((a.den : Int) * b.den) ≠ 0 := Int.mul_ne_zero (by omega) (by omega)
  have k := bd_divInt (n := a.num * b.den + b.num * a.den) hd
  refine ⟨Nat.le_trans k.1 (Nat.le_trans (Int.natAbs_add_le _ _) ?_), Nat.le_trans k.2 ?_⟩
  · rw [Int.natAbs_mul, Int.natAbs_mul]
    exact Nat.add_le_add (Nat.mul_le_mul h.1 h'.2) (Nat.mul_le_mul h'.1 h.2)
  · rw [Int.natAbs_mul]
    exact Nat.mul_le_mul h.2 h'.2
theorem bd_mul {a b : Rat} {p q p' q' : Nat} (h : Bd a p q) (h' : Bd b p' q') : Bd (a * b) (p * p') (q * q') := by
  have ha := a.den_nz
  have hb := b.den_nz
  have e : a * b = Rat.divInt (a.num * b.num) ((a.den : Int) * b.den) := by
    rw [← Rat.divInt_mul_divInt, Rat.num_divInt_den, Rat.num_divInt_den]
  rw [e]
  have hd : ((a.den : Int) * b.den) ≠ 0 := Int.mul_ne_zero (by omega) (by omega)
  have k := bd_divInt (n := a.num * b.num) hd
  refine ⟨Nat.le_trans k.1 ?_, Nat.le_trans k.2 ?_⟩
  · rw [Int.natAbs_mul]
    exact Nat.mul_le_mul h.1 h'.1
  · rw [Int.natAbs_mul]
    exact Nat.mul_le_mul h.2 h'.2
theorem bd_neg {a : Rat} {p q : Nat} (h : Bd a p q) : Bd (-a) p q := by
  unfold Bd
  rw [Rat.neg_num, Rat.neg_den, Int.natAbs_neg]
  exact h
theorem bd_sub {a b : Rat} {p q p' q' : Nat} (h : Bd a p q) (h' : Bd b p' q') : Bd (a - b) (p * q' + p' * q) (q * q') := by
  rw [Rat.sub_eq_add_neg]
  exact bd_add h (bd_neg h')
theorem q_div (a b : Rat) (h : b ≠ 0) : a / b = Rat.divInt (a.num * b.den) ((a.den : Int) * b.num) := by
  rw [Rat.div_def, ← Rat.num_divInt_den b, Rat.inv_divInt]
  conv => lhs; lhs; rw [← Rat.num_divInt_den a]
  rw [Rat.divInt_mul_divInt, Rat.num_divInt_den]
theorem bd_div {a b : Rat} {p q p' q' : Nat} (hb : b ≠ 0) (h : Bd a p q) (h' : Bd b p' q') : Bd (a / b) (p * q') (q * p') := by
  have ha := a.den_nz
  rw [q_div a b hb]
  have hn : b.num ≠ 0 := fun z => hb (Rat.num_eq_zero.mp z)
  have hd : ((a.den : Int) * b.num) ≠ 0 := Int.mul_ne_zero (by omega) hn
  have k := bd_divInt (n := a.num * b.den) hd
  refine ⟨Nat.le_trans k.1 ?_, Nat.le_trans k.2 ?_⟩
  · rw [Int.natAbs_mul]
    exact Nat.mul_le_mul h.1 h'.2
  · rw [Int.natAbs_mul]
    exact Nat.mul_le_mul h.2 h'.1
theorem Bd.le {a : Rat} {p q p' q' : Nat} (h : Bd a p q) (h1 : p ≤ p') (h2 : q ≤ q') : Bd a p' q' := ⟨Nat.le_trans h.1 h1, Nat.le_trans h.2 h2⟩
theorem Bd.fits {a : Rat} {p q : Nat} (h : Bd a p q) (h1 : p ≤ 1000000000000000000) (h2 : q ≤ 1000000000000000000) : fitsQ a := by
  have a1 := h.1
  have a2 := h.2
  unfold fitsQ lim
  omega
theorem q_add (a b : Rat) : a + b = Rat.divInt (a.num * b.den + b.num * a.den) ((a.den : Int) * b.den) := by
  have ha := a.den_nz
  have hb := b.den_nz
  rw [← Rat.divInt_add_divInt _ _ (by omega) (by omega), Rat.num_divInt_den, Rat.num_divInt_den]
theorem q_sub (a b : Rat) : a - b = Rat.divInt (a.num * b.den - b.num * a.den) ((a.den : Int) * b.den) := by
  have ha := a.den_nz
  have hb := b.den_nz
  rw [← Rat.divInt_sub_divInt _ _ (by omega) (by omega), Rat.num_divInt_den, Rat.num_divInt_den]
theorem q_mul (a b : Rat) : a * b = Rat.divInt (a.num * b.num) ((a.den : Int) * b.den) := by
  rw [← Rat.divInt_mul_divInt, Rat.num_divInt_den, Rat.num_divInt_den]
theorem q_dd (a b : Rat) : ((a.den : Int) * b.den) ≠ 0 := by
  have ha := a.den_nz
  have hb := b.den_nz
  exact Int.mul_ne_zero (by omega) (by omega)
end Z
namespace Z
open PySem PySem.Spec PyProof.Rows L2
theorem tyx_T {K : PySem.W.Frag} {H : Hp} {a : Addr} {xs : List V} (h : SqT K H a xs) : TyX K H (.ref a) (.type "tuple") := by
  rcases h with (h | ⟨o, h⟩) | ⟨o, its, n, h, c, _⟩
  · exact .base (.tup h)
  · exact .fTuple h
  · exact .kTuple h c
theorem z_isT {K : PySem.W.Frag} {H : Hp} {Q : VK} {p : Addr} {xs : List V} (h : SqT K H p xs) (q : Q (.bl true) H) : rIsi K [.ref p, .ty "tuple"] H Q := z_ty (tyx_T h) (by decide +kernel) q
end Z
namespace Z
open PySem PySem.Spec PyProof.Rows L2
/-- a tuple of the module's own -/
theorem dpk {K : PySem.W.Frag} {H : Hp} {a : Addr} {od : Option Addr} {its : List Value} {n : Nat} {sl : Array (Option Value)} {vs : List V} {ds : List PyData} (h : K.lookup a = some ⟨.type "tuple", od, .seq its.toArray n, sl⟩)
    (hs : its.length ≤ 1000) (r : Vals vs its) (d : DpAll K H vs ds) : Dp K H (.ref a) (.tuple ds) :=
  .tup (.inr ⟨_, its.toArray, n, h, rfl, rfl, by rw [List.size_toArray]; exact sz hs, by simpa using r⟩) d
/-- a tuple and a tuple -/
theorem z_catT {K : PySem.W.Frag} {H : Hp} {Q : VK} {p q : Addr} {xs ys : List V} (h1 : SqT K H p xs) (h2 : SqT K H q ys) (hx : xs ≠ []) (hl : xs.length + ys.length ≤ 1000) (hy : ys ≠ [])
    (k : ∀ p H', H p = none → Same H H' → H' p = some (.tup (xs ++ ys)) → Q (.ref p) H') : rCatT K (.ref p) (.ref q) H Q := by
  refine ⟨p, q, xs, ys, rfl, rfl, h1, h2, hx, sz hl, fun z => absurd z hy, fun _ a ha => k a _ ha (same_upd ha) upd_same⟩
end Z
namespace Z
open PySem PySem.Spec PyProof.Rows L2
def rTupOf (K : PySem.W.Frag) : List V → Hp → VK → Prop := fun xs H Q => ∃ p ys, xs = [.ref p] ∧ ((SqL K H p ys ∧ ∀ l, H l = none → Q (.ref l) (upd H l (.tup ys))) ∨ (SqT K H p ys ∧ Q (.ref p) H))
def rListOf (K : PySem.W.Frag) : List V → Hp → VK → Prop := fun xs H Q => ∃ p ys, xs = [.ref p] ∧ (SqL K H p ys ∨ SqT K H p ys) ∧ ∀ l, H l = none → Q (.ref l) (upd H l (.lst ys))
theorem c_tupOf {X : Cx} : CallR X (.type "tuple") (rTupOf X.K) := call_tuple_of
theorem c_listOf {X : Cx} : CallR X (.type "list") (rListOf X.K) := call_list_of
section
variable {K : PySem.W.Frag} {H : Hp} {Q : VK} {p : Addr} {xs : List V} {σ : L2.St}
theorem z_tupOf (h : SqL K H p xs) (q : ∀ a H', H a = none → Same H H' → H' a = some (.tup xs) → Q (.ref a) H') : rTupOf K [.ref p] H Q := ⟨p, xs, rfl, .inl ⟨h, fun l hl => q l _ hl (same_upd hl) upd_same⟩⟩
theorem z_tupOfT (h : SqT K H p xs) (q : Q (.ref p) H) : rTupOf K [.ref p] H Q := ⟨p, xs, rfl, .inr ⟨h, q⟩⟩
theorem z_listOf (h : SqL K H p xs) (q : ∀ a H', H a = none → Same H H' → H' a = some (.lst xs) → Q (.ref a) H') : rListOf K [.ref p] H Q := ⟨p, xs, rfl, .inl h, fun l hl => q l _ hl (same_upd hl) upd_same⟩
theorem z_listOfT (h : SqT K H p xs) (q : ∀ a H', H a = none → Same H H' → H' a = some (.lst xs) → Q (.ref a) H') : rListOf K [.ref p] H Q := ⟨p, xs, rfl, .inr h, fun l hl => q l _ hl (same_upd hl) upd_same⟩
theorem z_yes {QB : Bool → Hp → Prop} (q : QB true H) : tYes σ H QB := q
/-- [e for k in range(m)] -/
theorem z_lcR1 {ta : TA} {k : Nat} {te : TE} {vs : List Nat} (m : Nat) (hm : m ≤ 1000) (ha : ∀ R : List V → Hp → Prop, R [.int (m : Int)] H → ta σ H R) (hw : ∀ x, wipe ((wipe σ vs).set k (some x)) vs = wipe σ vs) (Pv : Nat → Addr → List V → Hp → Prop)
    (h0 : ∀ D H', H D = none → Same H H' → H' D = some (.lst []) → Pv 0 D [] H')
    (hs : ∀ i D acc H', i < m → acc.length = i → H' D = some (.lst acc) → Pv i D acc H' → te ((wipe σ vs).set k (some (.int (i : Int)))) H' fun y H4 => H4 D = some (.lst acc) ∧ Pv (i + 1) D (acc ++ [y]) (upd H4 D (.lst (acc ++ [y]))))
    (mono : ∀ σ' H' Q Q', (∀ y H4, Q y H4 → Q' y H4) → te σ' H' Q → te σ' H' Q')
    (hd : ∀ D acc H', acc.length = m → H' D = some (.lst acc) → Pv m D acc H' → Q (.ref D) H') : tLc (iRng1 ta) (gName k) tYes te vs σ H Q := by
  refine ha _ ⟨(m : Int), rfl, by omega, by omega, fun D hD => ?_⟩
  refine lc_range (lo := 0) (n := (m : Int).toNat) (fun i H' => ∃ acc, acc.length = i ∧ H' D = some (.lst acc) ∧ Pv i D acc H') ⟨[], rfl, upd_same, h0 D _ hD (same_upd hD) upd_same⟩ (fun i H' hi ⟨acc, hl, hH, p⟩ => ?_) (fun H' ⟨acc, hl, hH, p⟩ => hd D acc H' (by simpa using hl) hH (by simpa using p))
  have e : (0 : Int) + (i : Int) = (i : Int) := Int.zero_add _
  show wipe ((wipe σ vs).set k (some (.int ((0 : Int) + (i : Int))))) vs = wipe σ vs ∧ _
  refine ⟨hw _, ?_⟩
  refine z_yes ?_
  refine z_ifT ?_
  rw [e]
  have hi' : i < m := by simpa using hi
  exact mono _ _ _ _ (fun y H4 ⟨e1, e2⟩ => ⟨acc, e1, Nat.lt_of_lt_of_le (show acc.length < 1000 by omega) (by decide), acc ++ [y], by simp [hl], upd_same, e2⟩) (hs i D acc H' (by simpa using hi) hl hH p)
end
end Z
namespace Z
open PySem PySem.Spec PyProof.Rows L2
section
variable {K : PySem.W.Frag} {H : Hp} {Q : VK} {p : Addr} {xs : List V} {σ : L2.St} {i : Int} {RO : Option Int → Hp → Prop} {te : TE} {tl th : TO}
theorem z_sl {g : V → Option Int → Option Int → Hp → VK → Prop} (h : te σ H fun x H1 => tl σ H1 fun l H2 => th σ H2 fun u H3 => g x l u H3 Q) : tSl g te tl th σ H Q := h
theorem z_noPart (q : RO none H) : tNoPart σ H RO := q
theorem z_part (h : te σ H fun x H1 => ∃ i, x = .int i ∧ RO (some i) H1) : tPart te σ H RO := h
theorem z_partI (q : RO (some i) H) : ∃ i', V.int i = .int i' ∧ RO (some i') H := ⟨i, rfl, q⟩
theorem z_slL {lo hi : Option Int} {ys : List V} (h : SqL K H p xs) (e : cutV xs lo hi = ys) (q : ∀ a H', H a = none → Same H H' → H' a = some (.lst ys) → Q (.ref a) H') : rSlL K (.ref p) lo hi H Q := by
  subst e
  exact ⟨p, xs, rfl, h, fun a ha => q a _ ha (same_upd ha) upd_same⟩
end
end Z
namespace Z
open PySem PySem.Spec PyProof.Rows L2
theorem z_slT {K : PySem.W.Frag} {H : Hp} {Q : VK} {p : Addr} {xs ys : List V} {lo hi : Option Int} (h : SqT K H p xs) (hn : ¬ (HT.sIx xs.length 0 lo = 0 ∧ HT.sIx xs.length xs.length hi = xs.length)) (e : cutV xs lo hi = ys)
    (q : ∀ a H', H a = none → Same H H' → H' a = some (.tup ys) → Q (.ref a) H') : rSlT K (.ref p) lo hi H Q := by
  subst e
  exact ⟨p, xs, rfl, h, hn, fun a ha => q a _ ha (same_upd ha) upd_same⟩
theorem eqv_q (a b : Rat) : PyData.eqv (qD a) (qD b) = decide (a = b) := by
  show (a.num == b.num && ((a.den : Int) == (b.den : Int) && true)) = decide (a = b)
  by_cases h : a = b
  · subst h
    simp
  · rw [decide_eq_false h]
    by_cases h1 : a.num = b.num
    · have h2 : ¬ (a.den : Int) = b.den := fun z => h (Rat.ext h1 (by omega))
      simp [h2]
    · simp [h1]
theorem shaped_q (a : Rat) : SeqAt.shaped (qD a) = true := rfl
theorem z_eqQ {K : PySem.W.Frag} {x y : V} {a b : Rat} {H : Hp} {Q : VK} (h1 : Dp K H x (qD a)) (h2 : Dp K H y (qD b)) (q : Q (.bl (decide (a = b))) H) : rEqD K x y H Q := ⟨qD a, qD b, h1, h2, shaped_q a, shaped_q b, by rw [eqv_q]; exact q⟩
theorem z_neQ {K : PySem.W.Frag} {x y : V} {a b : Rat} {H : Hp} {Q : VK} (h1 : Dp K H x (qD a)) (h2 : Dp K H y (qD b)) (q : Q (.bl (decide (¬ a = b))) H) : rNeD K x y H Q := ⟨qD a, qD b, h1, h2, shaped_q a, shaped_q b, by
  rw [eqv_q, show (!decide (a = b)) = decide (¬ a = b) by simp]
  exact q⟩
theorem z_neSame {K : PySem.W.Frag} {x y : V} {d : PyData} {H : Hp} {Q : VK} (h1 : Dp K H x d) (h2 : Dp K H y d) (s : SeqAt.shaped d = true) (q : Q (.bl false) H) : rNeD K x y H Q :=
  ⟨d, d, h1, h2, s, s, by rw [SeqAt.eqv_refl d (SeqAt.canLay_of_shaped s)]; exact q⟩
end Z
namespace Z
open PySem PySem.Spec PyProof.Rows L2
def rIsN : R2 := fun x y H Q => y = .non ∧ Q (.bl (decide (x = .non))) H
def rNotN : R2 := fun x y H Q => y = .non ∧ Q (.bl (!decide (x = .non))) H
theorem op_isN1 {X : Cx} : OpR X (compareOp .Is) rIsN := op_isN
theorem op_notN1 {X : Cx} : OpR X (compareOp .IsNot) rNotN := op_notN
section
variable {σ : L2.St} {H : Hp} {n : L2.St → Hp → Prop} {r : VK} {b c : L2.St → Hp → Prop} {tb : TS} {K : PySem.W.Frag} {Q : VK} {p : Addr} {v y : V} {xs : List V}
theorem z_isNN (q : Q (.bl true) H) : rIsN .non .non H Q := ⟨rfl, by simpa using q⟩
theorem z_isNR (q : Q (.bl false) H) : rIsN (.ref p) .non H Q := ⟨rfl, by simpa using q⟩
theorem z_notNN (q : Q (.bl false) H) : rNotN .non .non H Q := ⟨rfl, by simpa using q⟩
theorem z_notNR (q : Q (.bl true) H) : rNotN (.ref p) .non H Q := ⟨rfl, by simpa using q⟩
theorem z_bmL {r : V → List V → Hp → VK → Prop} {to : TE} {t : TA} (ho : ∀ R : VK, R (.ref p) H → to σ H R) (hp : H p = some (.lst xs)) (h : t σ H fun vs H2 => r (.ref p) vs H2 Q) : tBM K "list" r to t σ H Q :=
  ho _ ⟨.inl ⟨rfl, _, .inl (.inl hp)⟩, h⟩
theorem z_append (hp : H p = some (.lst xs)) (hl : xs.length < 1000) (q : Q .non (upd H p (.lst (xs ++ [y])))) : rAppend (.ref p) [y] H Q := ⟨p, xs, y, rfl, rfl, hp, Nat.lt_of_lt_of_le hl (by decide), q⟩
/-- the list that a for goes over, made on the way -/
def ForL (K : PySem.W.Frag) (g : TG) (tb : TS) (n : L2.St → Hp → Prop) (r : VK) (b c : L2.St → Hp → Prop) (σ : L2.St) : VK := fun x H1 => tFor (iList K (tC x)) g tb ⟨n, r, b, c⟩ σ H1
theorem z_forE {tl : TE} {g : TG} (h : tl σ H (ForL K g tb n r b c σ)) : tFor (iList K tl) g tb ⟨n, r, b, c⟩ σ H := h
/-- [e for x in l], where e answers at once -/
theorem z_lcM {tl : TE} {k : Nat} {te : TE} {vs : List Nat} {a : Addr} {xs ws : List V} (hlen : ws.length = xs.length) (hm : xs.length ≤ 1000) (ha : ∀ R : VK, R (.ref a) H → tl σ H R) (hx : H a = some (.lst xs)) (hw : ∀ x, wipe ((wipe σ vs).set k (some x)) vs = wipe σ vs)
    (body : ∀ (i : Nat) (x w : V) (H' : Hp), xs[i]? = some x → ws[i]? = some w → Same H H' → ∀ R : VK, R w H' → te ((wipe σ vs).set k (some x)) H' R)
    (hd : ∀ D H', H D = none → Same H H' → H' D = some (.lst ws) → Q (.ref D) H') : tLc (iList K tl) (gName k) tYes te vs σ H Q := by
  refine ha _ ⟨a, rfl, ⟨xs, .inl (.inl hx)⟩, fun D hD => ?_⟩
  have hDa : a ≠ D := ne_of_none hx hD
  refine lc_list (xs := xs) (fun i H' => Same H H' ∧ H' D = some (.lst (ws.take i)) ∧ H' a = some (.lst xs)) ⟨same_upd hD, upd_same, by rw [upd_ne hDa]; exact hx⟩ (fun i H' _ h => .inl (.inl h.2.2)) (fun i x H' hi ⟨s, hH, h3⟩ => ?_) (fun H' ⟨s, hH, _⟩ => hd D H' hD s (by rw [hH, ← hlen, List.take_length]))
  show wipe ((wipe σ vs).set k (some x)) vs = wipe σ vs ∧ _
  refine ⟨hw _, ?_⟩
  refine z_yes ?_
  refine z_ifT ?_
  have hi' : i < xs.length := by
    rcases Nat.lt_or_ge i xs.length with h | h
    · exact h
    · rw [List.getElem?_eq_none h] at hi
      cases hi
  have hiw : i < ws.length := by omega
  have hw' : ws[i]? = some ws[i] := List.getElem?_eq_getElem hiw
  refine body i x _ H' hi hw' s _ ?_
  refine ⟨_, hH, Nat.lt_of_lt_of_le (show (ws.take i).length < 1000 by rw [List.length_take]; omega) (by decide), fun q x' e => ?_, ?_, ?_⟩
  · have hq : q ≠ D := ne_of_none e hD
    rw [upd_ne hq]
    exact s _ _ e
  · rw [upd_same, List.take_add_one, hw']
    rfl
  · rw [upd_ne hDa]
    exact h3
end
/-! ### numbers over a common denominator -/
def Zb (r : Rat) (N M : Nat) : Prop := ∃ k : Int, r * (N : Rat) = (k : Rat) ∧ k.natAbs ≤ M
theorem zb_add {a b : Rat} {N M M' : Nat} (h : Zb a N M) (h' : Zb b N M') : Zb (a + b) N (M + M') := by
  obtain ⟨k, e, l⟩ := h
  obtain ⟨k', e', l'⟩ := h'
  exact ⟨k + k', by rw [Rat.add_mul, e, e', Rat.intCast_add], by omega⟩
theorem zb_neg {a : Rat} {N M : Nat} (h : Zb a N M) : Zb (-a) N M := by
  obtain ⟨k, e, l⟩ := h
  exact ⟨-k, by rw [Rat.neg_mul, e, Rat.intCast_neg], by omega⟩
theorem zb_sub {a b : Rat} {N M M' : Nat} (h : Zb a N M) (h' : Zb b N M') : Zb (a - b) N (M + M') := by
  rw [Rat.sub_eq_add_neg]
  exact zb_add h (zb_neg h')
theorem zb_mul {a b : Rat} {N N' M M' : Nat} (h : Zb a N M) (h' : Zb b N' M') : Zb (a * b) (N * N') (M * M') := by
  obtain ⟨k, e, l⟩ := h
  obtain ⟨k', e', l'⟩ := h'
  refine ⟨k * k', ?_, by rw [Int.natAbs_mul]; exact Nat.mul_le_mul l l'⟩
  rw [Rat.natCast_mul, Rat.intCast_mul, ← e, ← e']
  grind
theorem zb_up {a : Rat} {N M : Nat} (c : Nat) (h : Zb a N M) : Zb a (N * c) (M * c) := by
  obtain ⟨k, e, l⟩ := h
  refine ⟨k * (c : Int), ?_, by rw [Int.natAbs_mul]; exact Nat.mul_le_mul l (by omega)⟩
  rw [Rat.natCast_mul, Rat.intCast_mul, ← e, Rat.intCast_natCast]
  grind
theorem Zb.le {a : Rat} {N M M' : Nat} (h : Zb a N M) (l : M ≤ M') : Zb a N M' := by
  obtain ⟨k, e, l'⟩ := h
  exact ⟨k, e, Nat.le_trans l' l⟩
theorem Zb.bd {a : Rat} {N M : Nat} (h : Zb a N M) (h0 : N ≠ 0) : Bd a M N := by
  obtain ⟨k, e, l⟩ := h
  have hN : (N : Rat) ≠ 0 := fun z => h0 (by exact_mod_cast z)
  have e2 : a = Rat.divInt k (N : Int) := by
    rw [Rat.divInt_eq_div, ← e, Rat.intCast_natCast]
    grind
  rw [e2]
  exact (bd_divInt (by omega)).le l (by omega)
theorem zb_divInt {n d : Int} {N M c : Nat} (hd : d ≠ 0) (hN : (N : Int) = d * (c : Int)) (hl : n.natAbs * c ≤ M) : Zb (Rat.divInt n d) N M := by
  refine ⟨n * (c : Int), ?_, by rw [Int.natAbs_mul]; exact hl⟩
  have hd' : (d : Rat) ≠ 0 := fun z => hd (by exact_mod_cast z)
  have e : (N : Rat) = (d : Rat) * (c : Rat) := by
    rw [← Rat.intCast_natCast N, hN, Rat.intCast_mul, Rat.intCast_natCast]
  rw [Rat.divInt_eq_div, e, Rat.intCast_mul, Rat.intCast_natCast]
  grind
theorem zb_of {r : Rat} {p q N M : Nat} (h : Bd r p q) (hN : ∀ d, d ≤ q → d ≠ 0 → d ∣ N) (hl : p * N ≤ M) : Zb r N M := by
  obtain ⟨c, hc⟩ := hN r.den h.2 r.den_nz
  have hd := r.den_nz
  have e := zb_divInt (n := r.num) (d := (r.den : Int)) (N := N) (M := M) (c := c) (by omega) (by exact_mod_cast hc) (Nat.le_trans (Nat.mul_le_mul h.1 (show c ≤ N by rw [hc]; exact Nat.le_mul_of_pos_left _ (by omega))) hl)
  rwa [Rat.num_divInt_den] at e
end Z

namespace Z
open PySem PySem.Spec PyProof.Rows L2
def RevQ (K : PySem.W.Frag) (Q : VK) : VK := fun x H1 => ∃ a xs, x = .ref a ∧ SqL K H1 a xs ∧ ∀ p, H1 p = none → Q (.ref p) (upd H1 p (.lst xs.reverse))
section
variable {K : PySem.W.Frag} {H : Hp} {Q : VK} {p q : Addr} {xs ys : List V} {y : V} {σ : L2.St}
theorem z_revL {te : TE} (h : te σ H (RevQ K Q)) : tRevL K te σ H Q := h
theorem z_revE (h : SqL K H p xs) (k : ∀ a H', H a = none → Same H H' → H' a = some (.lst xs.reverse) → Q (.ref a) H') : RevQ K Q (.ref p) H :=
  ⟨p, xs, rfl, h, fun l hl => k l _ hl (same_upd hl) upd_same⟩
theorem z_pop (hp : H p = some (.lst (xs ++ [y]))) (k : Q y (upd H p (.lst xs))) : rPop (.ref p) [] H Q :=
  ⟨p, xs ++ [y], y, rfl, rfl, hp, by simp, by simpa using k⟩
theorem z_cat (h1 : H p = some (.lst xs)) (h2 : H q = some (.lst ys)) (hl : xs.length + ys.length ≤ 1000) (k : ∀ a H', H a = none → Same H H' → H' a = some (.lst (xs ++ ys)) → Q (.ref a) H') : rCat (.ref p) (.ref q) H Q :=
  ⟨p, q, xs, ys, rfl, rfl, h1, h2, sz hl, fun a ha => k a _ ha (same_upd ha) upd_same⟩
theorem z_extend (h1 : H p = some (.lst xs)) (h2 : H q = some (.lst ys)) (hl : xs.length + ys.length ≤ 1000) (k : Q .non (upd H p (.lst (xs ++ ys)))) : rExtend (.ref p) [.ref q] H Q :=
  ⟨p, q, xs, ys, rfl, rfl, h1, h2, sz hl, k⟩
theorem z_bm0L {r : V → List V → Hp → VK → Prop} {to : TE} (ho : ∀ R : VK, R (.ref p) H → to σ H R) (hp : H p = some (.lst xs)) (h : r (.ref p) [] H Q) : tBM0 K "list" r to σ H Q :=
  ho _ ⟨.inl ⟨rfl, _, .inl (.inl hp)⟩, h⟩
end
end Z

/-! set comprehensions, whatever the members are: `r` says what set.add asks, `fr` what the empty set is -/
namespace Sc
open PySem PySem.Spec PyProof.Rows L2 PpSet
abbrev AddR := V → List V → Hp → VK → Prop
/-- one turn's end: the member is added, or left out -/
def Keep (r : AddR) (D : Addr) (te : TE) (Nx : Hp → Prop) (σ2 : L2.St) (b : Bool) (H3 : Hp) : Prop := if b = true then te σ2 H3 fun y H4 => r (.ref D) [y] H4 fun _ H5 => Nx H5 else Nx H3
def tSet (r : AddR) (fr : Addr → HO) (wi : TI) (g : TG) (tt : TT) (te : TE) (vs : List Nat) : TE := fun σ H Q => wi σ H fun J H1 => ∀ D, H1 D = none → ∃ W : Nat → Nat → Hp → Prop,
  (∃ m, W 0 m (upd H1 D (fr D))) ∧ ∀ i m H, W i m H → (J.stop i H ∧ Q (.ref D) H) ∨ (J.go i H ∧ ∃ Nx : Hp → Prop, (∀ H', Nx H' → ∃ m', m' < m ∧ W (i + 1) m' H') ∧
    ∀ x H', J.yld i H x H' → g x (wipe σ vs) H' fun σ2 H2 => wipe σ2 vs = wipe σ vs ∧ tt σ2 H2 (Keep r D te Nx σ2))
abbrev freshSet (w : World) : Obj := { cls := .type "set", dict := none, data := .set #[] 0 (.fresh 0 0 (!w.params.followText "set-order")) }
section
variable {X : Cx}
theorem run_set {pins : List (Addr × Obj)} {s : Shared} {σ : L2.St} {H : Hp} {Q : VK} {r : AddR} {fr : Addr → HO} {elt tg iter : Expr} {ifs : List Expr} {scope : Scope} {own : List (PySem.Str × Nat)} {pos pos' : Pos} {wi : TI} {g : TG} {tt : TT} {te : TE} {use : Option (Value → Sem Unit)} {Qf : Value → Shared → Prop}
    (hfr : ∀ (H : Hp) (h : Heap) (a : Addr), a = h.objs.size → ObjOk X.prog X.w H (h.push (freshSet X.w)) a (fr a))
    (hr : ∀ (s : Shared) (H : Hp) (e : Env) (fp : List Addr), MtR (X.blk s H scope e fp) "set.add" r)
    (hc : X.calm = true) (hN : X.N.Nodup) (I : Inv X pins σ H s) (hi : PI X tg iter wi) (ok : BlkOk X.N X.env.scope scope own)
    (hg : ∀ (s : Shared) (H : Hp) (C : Addr) (cl : List (PySem.Str × Addr)) (fp : List Addr), PG (X.blk s H scope (compEnvC scope cl C X.env) fp) tg g)
    (ht : ∀ (s : Shared) (H : Hp) (C : Addr) (cl : List (PySem.Str × Addr)) (fp : List Addr), PTs (X.blk s H scope (compEnvC scope cl C X.env) fp) ifs tt)
    (he : ∀ (s : Shared) (H : Hp) (C : Addr) (cl : List (PySem.Str × Addr)) (fp : List Addr), PE (X.blk s H scope (compEnvC scope cl C X.env) fp) elt te)
    (hs : ∀ x, foldedSetIterable iter X.env x = pure x) (h : tSet r fr wi g tt te (own.map (·.2)) σ H Q)
    (hend : ∀ D C s' m H', Inv X pins σ H' s' → Q (.ref D) H' → s'.heap.Ns C m → FpOk X pins H' C → compPost (model X.prog X.w) X.A X.xe use Qf (.ref D) C (.ok .next) s') :
    wpAny (model X.prog X.w) X.A (comprehension (.SetComp elt [⟨tg, iter, ifs, 0⟩] scope pos) scope X.env pos' (newSet (.type "set")) false (eval iter X.env) use) Qf X.xe s := by
  have free0 : ∀ y ∈ scope.names, y.2 = .free → ∃ c, X.env.cells.lookup y.1 = some c := fun y hy e => (ok.free y hy e).elim (fun k => I.ok.has _ (.inl k)) fun k => I.ok.has _ (.inr k)
  refine wpAny_comprehension_free (use := use) rfl hs (closure_ok free0) ok.kind (fun y hy e => by rw [ok.uniq y hy, e]) ?_
  refine thn (hi.run pins s σ H _ I h) fun xv s1 hx => thn hx fun itv s2 h2 => ?_
  obtain ⟨it, fp, tn, J, H2, e, I2, T, st2, f2, q⟩ := h2
  subst e
  refine newSet_ok (newEnv_comp ?_)
  have hDn : H2 s2.heap.objs.size = none := I2.hok.fresh (Nat.le_refl _)
  obtain ⟨W, ⟨m0, w0⟩, turn⟩ := q _ hDn
  generalize hs3 : ({ s2 with heap := s2.heap.push (freshSet X.w) } : Shared) = s3
  have h3 : s3.heap = s2.heap.push (freshSet X.w) := by rw [← hs3]
  have I3 : Inv X pins σ (upd H2 s2.heap.objs.size (fr s2.heap.objs.size)) s3 := by
    rw [← hs3]
    exact I2.laid (t' := s2.toks) (fun b o e => Heap.get?_push_of_some _ e) (Nat.le_refl _) (hfr _ _ _ rfl)
  generalize hD : s2.heap.objs.size = D at *
  have old : ∀ b ∈ fp, b < D := fun b hb => by
    obtain ⟨o, e, _⟩ := T.obj _ _ st2 b hb
    rw [← hD]
    exact Heap.lt_size e
  have f3 : ∀ b ∈ fp, FpOk X pins (upd H2 D (fr D)) b ∧ b < s3.heap.objs.size := fun b hb => by
    have l := old b hb
    refine ⟨⟨?_, (f2 b hb).2⟩, ?_⟩
    · rw [upd_ne (Nat.ne_of_lt l)]
      exact (f2 b hb).1
    · rw [h3, Heap.size_push, hD]
      exact Nat.lt_succ_of_lt l
  have st3 : tn 0 s3.heap := T.keep _ _ _ st2 fun b _ o e => by
    rw [h3]
    exact Heap.get?_push_of_some _ e
  have I4 := block_start I3 ok hN f3
  generalize hH3 : upd H2 D (fr D) = H3 at I3 I4 w0 f3
  have pg := hg s3 H3 s3.heap.objs.size (cellsFrom (s3.heap.objs.size + 1) scope.names (cloFrom X.env.cells scope.names [])) fp
  have pt := ht s3 H3 s3.heap.objs.size (cellsFrom (s3.heap.objs.size + 1) scope.names (cloFrom X.env.cells scope.names [])) fp
  have pe := he s3 H3 s3.heap.objs.size (cellsFrom (s3.heap.objs.size + 1) scope.names (cloFrom X.env.cells scope.names [])) fp
  show codeAny _ _ (.compStart (.SetComp elt [⟨tg, iter, ifs, 0⟩] scope pos) 0 (.ref it) (.ref D) (compEnvC scope (cellsFrom (s3.heap.objs.size + 1) scope.names (cloFrom X.env.cells scope.names [])) s3.heap.objs.size X.env)) (compPost (model X.prog X.w) X.A X.xe use Qf (.ref D) s3.heap.objs.size) { s3 with heap := pushCells (s3.heap.push { cls := .type "dict", data := .dict #[] }) scope.names }
  generalize hce : compEnvC scope (cellsFrom (s3.heap.objs.size + 1) scope.names (cloFrom X.env.cells scope.names [])) s3.heap.objs.size X.env = ce at I4 pg pt pe ⊢
  have cL : ce.locals = s3.heap.objs.size := by rw [← hce] <;> rfl
  have ad := hr s3 H3 ce fp
  have nfp : ∀ b ∈ fp, H3 b = none := fun b hb => (f3 b hb).1.1
  generalize hs4 : ({ s3 with heap := pushCells (s3.heap.push { cls := .type "dict", data := .dict #[] }) scope.names } : Shared) = s4 at I4 ⊢
  have st4 : tn 0 s4.heap := T.keep _ _ _ st3 fun b _ o e => by
    rw [← hs4]
    exact pushCells_keeps _ _ _ _ (Heap.get?_push_of_some _ e)
  have stat : ∀ {σ' : L2.St} {H' : Hp} {s' : Shared}, Inv (X.blk s3 H3 scope ce fp) [] σ' H' s' → (∀ b ∈ fp, H' b = none) → ∀ b ∈ fp, FpOk (X.blk s3 H3 scope ce fp) [] H' b := fun I' hn b hb =>
    ⟨hn b hb, (I'.ok.exf b hb).1, I'.ok.exfs b hb, .inl hb, fun x c e => (I'.ok.exf b hb).2 x c e, fun p hp => nomatch (show p ∈ ([] : List (Addr × Obj)) from hp)⟩
  have loop : codeAny (model X.prog X.w) X.A (.compLoop (.SetComp elt [⟨tg, iter, ifs, 0⟩] scope pos) 0 (.ref it) (.ref D) ce) (compPost (model X.prog X.w) X.A X.xe use Qf (.ref D) s3.heap.objs.size) s4 := by
    refine compLoopS_any (fun n s' => ∃ i H', Inv (X.blk s3 H3 scope ce fp) [] (wipe σ (own.map (·.2))) H' s' ∧ tn i s'.heap ∧ (∀ b ∈ fp, H' b = none) ∧ W i n H') ?_ m0 ⟨0, H3, I4, st4, nfp, w0⟩
    rintro n s5 ⟨i, H5, I5, st5, n5, w5⟩
    rcases turn i n H5 w5 with ⟨stop, qq⟩ | ⟨go, Nx, hNx, step⟩
    · refine thnF (T.done (X.blk s3 H3 scope ce fp) rfl rfl rfl hc i [] s5 _ H5 (fun _ _ => False) I5 (stat I5 n5) st5 stop) fun r6 s6 ⟨hr6, I6⟩ => ?_
      subst hr6
      have I7 : Inv X pins σ H5 s6 := I3.call' (ch := fp) I6.os I6.base I6.hok I6.bare fun b hb => by
        obtain ⟨⟨_, a2, _, a4, a5, a6⟩, _⟩ := f3 b hb
        exact ⟨a4, a2, a5, a6⟩
      obtain ⟨m, hn, _⟩ := I6.loc
      have nC : H5 ce.locals = none := I6.free
      have hn : s6.heap.Ns ce.locals m := hn
      rw [cL] at hn nC
      exact hend D _ s6 m H5 I7 qq hn (I3.fpOk (Nat.le_refl _) nC)
    · refine thnF (T.item (X.blk s3 H3 scope ce fp) rfl rfl rfl hc i [] s5 _ H5 (fun _ _ => False) I5 (stat I5 n5) st5 go) fun r6 s6 ⟨u, hr6, h6⟩ => ?_
      subst hr6
      refine thnF h6 fun _ s7 ⟨x, H7, I7, r7, y7, st7, n7⟩ => ?_
      refine thnF (pg.run _ s7 _ H7 x u _ (I7.pinned (stat I7 n7) (T.obj _ _ st7)) r7 (step x H7 y7)) fun _ s8 ⟨σ8, H8, I8, hw8, q8⟩ => ?_
      refine thnF (pt.run _ s8 σ8 H8 _ I8 q8) fun b s9 ⟨H9, I9, q9⟩ => ?_
      have fin : ∀ {s' : Shared} {H' : Hp}, Inv (X.blk s3 H3 scope ce fp) ([] ++ pinsAt fp s7.heap) σ8 H' s' → Nx H' → ∃ m, m < n ∧ ∃ i H', Inv (X.blk s3 H3 scope ce fp) [] (wipe σ (own.map (·.2))) H' s' ∧ tn i s'.heap ∧ (∀ b ∈ fp, H' b = none) ∧ W i m H' := fun {s' H'} I' nx => by
        obtain ⟨m', hm, w'⟩ := hNx H' nx
        have keep : ∀ b ∈ fp, ∀ o, s7.heap.get? b = some o → s'.heap.get? b = some o ∧ H' b = none := fun b hb o e => by
          have z := I'.pin (b, o) (List.mem_append_right _ (List.mem_append_right _ (mem_pinsAt hb e)))
          exact ⟨z.1, z.2.1⟩
        refine ⟨m', hm, i + 1, H', (I'.unpinned (pins := [])).weak (by rw [← hw8, wipe_length]) (fun j v e => ?_), T.keep _ _ _ st7 fun b hb o e => (keep b hb o e).1, fun b hb => ?_, w'⟩
        · rw [← hw8] at e
          exact (wipe_some e).1
        · obtain ⟨o, e, _⟩ := T.obj _ _ st7 b hb
          exact (keep b hb o e).2
      have q9 : Keep r D te Nx σ8 b H9 := q9
      unfold Keep at q9
      cases b with
      | false =>
        rw [if_neg (by decide)] at q9
        exact fin I9 q9
      | true =>
        rw [if_pos rfl] at q9
        refine thnF (pe.run _ s9 σ8 H9 _ I9 q9) fun z s10 ⟨yv, H10, I10, r10, q10⟩ => ?_
        refine thnF (ad _ s10 σ8 H10 (.ref D) [yv] (.ref D) [z] _ I10 rfl (.cons r10 .nil) q10) fun _ s11 ⟨_, H11, I11, _, q11⟩ => fin I11 q11
  exact codeAny_compStart_set loop (T.self X.A 0 _ _ _ st4 loop)
theorem pe_set {r : AddR} {fr : Addr → HO} {elt tg iter : Expr} {ifs : List Expr} {scope : Scope} {own : List (PySem.Str × Nat)} {pos : Pos} {wi : TI} {g : TG} {tt : TT} {te : TE}
    (hfr : ∀ (H : Hp) (h : Heap) (a : Addr), a = h.objs.size → ObjOk X.prog X.w H (h.push (freshSet X.w)) a (fr a)) (hr : ∀ (s : Shared) (H : Hp) (e : Env) (fp : List Addr), MtR (X.blk s H scope e fp) "set.add" r)
    (hc : X.calm = true) (hN : X.N.Nodup) (hi : PI X tg iter wi) (ok : BlkOk X.N X.env.scope scope own)
    (hg : ∀ (s : Shared) (H : Hp) (C : Addr) (cl : List (PySem.Str × Addr)) (fp : List Addr), PG (X.blk s H scope (compEnvC scope cl C X.env) fp) tg g)
    (ht : ∀ (s : Shared) (H : Hp) (C : Addr) (cl : List (PySem.Str × Addr)) (fp : List Addr), PTs (X.blk s H scope (compEnvC scope cl C X.env) fp) ifs tt)
    (he : ∀ (s : Shared) (H : Hp) (C : Addr) (cl : List (PySem.Str × Addr)) (fp : List Addr), PE (X.blk s H scope (compEnvC scope cl C X.env) fp) elt te)
    (hs : ∀ x, foldedSetIterable iter X.env x = pure x := by intro _; rfl) : PE X (.SetComp elt [⟨tg, iter, ifs, 0⟩] scope pos) (tSet r fr wi g tt te (own.map (·.2))) := by
  constructor
  intro pins s σ H Q I h
  rw [eval_SetComp]
  refine run_set hfr hr hc hN I hi ok hg ht he hs h fun D C s' m H' I' q hn ⟨f0, f1, f2, f3, f4, f5⟩ => ⟨m, hn, fun h'' sb => ?_⟩
  exact ⟨.ref D, H', I'.turned (t' := s'.toks) (fun b o hb e => (sb.2 b hb).trans e) f0 f1 f3 f4 f5, rfl, q⟩
/-- sets of whole numbers -/
def frI (w : World) : Addr → HO := fun a => SetO w a (fun _ => false) 0
theorem pe_setI {elt tg iter : Expr} {ifs : List Expr} {scope : Scope} {own : List (PySem.Str × Nat)} {pos : Pos} {wi : TI} {g : TG} {tt : TT} {te : TE}
    (hc : X.calm = true) (hN : X.N.Nodup) (hi : PI X tg iter wi) (ok : BlkOk X.N X.env.scope scope own)
    (hg : ∀ (s : Shared) (H : Hp) (C : Addr) (cl : List (PySem.Str × Addr)) (fp : List Addr), PG (X.blk s H scope (compEnvC scope cl C X.env) fp) tg g)
    (ht : ∀ (s : Shared) (H : Hp) (C : Addr) (cl : List (PySem.Str × Addr)) (fp : List Addr), PTs (X.blk s H scope (compEnvC scope cl C X.env) fp) ifs tt)
    (he : ∀ (s : Shared) (H : Hp) (C : Addr) (cl : List (PySem.Str × Addr)) (fp : List Addr), PE (X.blk s H scope (compEnvC scope cl C X.env) fp) elt te)
    (hs : ∀ x, foldedSetIterable iter X.env x = pure x := by intro _; rfl) : PE X (.SetComp elt [⟨tg, iter, ifs, 0⟩] scope pos) (tSet (rSAdd X.w) (frI X.w) wi g tt te (own.map (·.2))) :=
  pe_set (fun H h a e => by subst e; exact setO_new (setR_fresh X.w)) (fun s H e fp => mt_sadd) hc hN hi ok hg ht he hs
end
/-! ### readings: the set of the numbers of a list that a test lets in -/
open Z
def tSetE (r : AddR) (fr : Addr → HO) (K : PySem.W.Frag) (g : TG) (tt : TT) (te : TE) (vs : List Nat) (σ : L2.St) (Q : VK) : VK := fun x H1 => tSet r fr (iList K (tC x)) g tt te vs σ H1 Q
section
variable {K : PySem.W.Frag} {H : Hp} {Q : VK} {σ : L2.St} {r : AddR} {fr : Addr → HO} {w : World}
theorem z_setE {tl : TE} {g : TG} {tt : TT} {te : TE} {vs : List Nat} (h : tl σ H (tSetE r fr K g tt te vs σ Q)) : tSet r fr (iList K tl) g tt te vs σ H Q := h
/-- the ints of ns that p lets in -/
def inI (p : Int → Bool) (ns : List Int) (S : Int → Bool) : Prop := ∀ k, S k = true ↔ k ∈ ns ∧ p k = true
theorem z_setI {k : Nat} {tt : TT} {vs : List Nat} {a : Addr} {ns : List Int} {te : TE} (p : Int → Bool) (hl : ns.length ≤ 1000) (hx : H a = some (.lst (ns.map V.int)))
    (hw : ∀ x, wipe ((wipe σ vs).set k (some x)) vs = wipe σ vs)
    (ht : ∀ (x : Int) (H' : Hp) (R : Bool → Hp → Prop), x ∈ ns → R (p x) H' → tt ((wipe σ vs).set k (some (.int x))) H' R)
    (he : ∀ (x : Int) (H' : Hp) (R : VK), x ∈ ns → R (.int x) H' → te ((wipe σ vs).set k (some (.int x))) H' R)
    (q : ∀ D H' S n, H D = none → Same H H' → H' D = some (SetO w D S n) → inI p ns S → n ≤ ns.length → Q (.ref D) H') :
    tSetE (rSAdd w) (frI w) K (gName k) tt te vs σ Q (.ref a) H := by
  refine ⟨a, rfl, ⟨_, .inl (.inl hx)⟩, fun D hD => ?_⟩
  have hDa : a ≠ D := ne_of_none hx hD
  let Pv : Nat → Hp → Prop := fun i H' => Same H H' ∧ ∃ S n, H' D = some (SetO w D S n) ∧ inI p (ns.take i) S ∧ n ≤ i
  refine ⟨fun i m H' => m = ns.length - i ∧ i ≤ ns.length ∧ Pv i H', ⟨ns.length, by simp, Nat.zero_le _, same_upd hD, _, 0, upd_same, fun k => by simp, Nat.le_refl _⟩, ?_⟩
  rintro i m H' ⟨rfl, hi, sm, S, n, hS, hin, hn⟩
  have ha := sm _ _ hx
  by_cases hlt : i < ns.length
  · refine .inr ⟨⟨_, .int ns[i], .inl (.inl ha), by simp [hlt]⟩, Pv (i + 1), fun H2 p2 => ⟨ns.length - (i + 1), by omega, rfl, hlt, p2⟩, fun x H2 y => ?_⟩
    obtain ⟨e, y⟩ := y
    subst e
    have e := y _ (.inl (.inl ha))
    have ex : x = .int ns[i] := by
      have e2 : (ns.map V.int)[i]? = some (.int ns[i]) := by simp [hlt]
      rw [e2] at e
      exact (Option.some.inj e).symm
    subst ex
    refine ⟨hw _, ht _ _ _ (List.getElem_mem hlt) ?_⟩
    have tk : ns.take (i + 1) = ns.take i ++ [ns[i]] := by rw [List.take_add_one, List.getElem?_eq_getElem hlt] <;> rfl
    unfold Keep
    by_cases c : p ns[i] = true
    · rw [if_pos c]
      refine he _ _ _ (List.getElem_mem hlt) ?_
      refine ⟨D, ns[i], S, n, rfl, rfl, hS, Nat.lt_of_le_of_lt (show n + 1 ≤ 1001 by omega) (by decide), ?_, _, _, upd_same, ?_, ?_⟩
      · exact fun b o e => by
          rw [upd_ne (ne_of_none e hD)]
          exact sm _ _ e
      · intro k
        rw [tk, List.mem_append, List.mem_singleton, Bool.or_eq_true, hin k, decide_eq_true_eq]
        constructor
        · rintro (⟨z1, z2⟩ | rfl)
          · exact ⟨.inl z1, z2⟩
          · exact ⟨.inr rfl, c⟩
        · rintro ⟨z1 | rfl, z2⟩
          · exact .inl ⟨z1, z2⟩
          · exact .inr rfl
      · split <;> omega
    · rw [if_neg c]
      refine ⟨sm, S, n, hS, fun k => ?_, by omega⟩
      rw [tk, List.mem_append, List.mem_singleton, hin k]
      constructor
      · rintro ⟨z1, z2⟩
        exact ⟨.inl z1, z2⟩
      · rintro ⟨z1 | rfl, z2⟩
        · exact ⟨z1, z2⟩
        · exact absurd z2 c
  · have e : i = ns.length := by omega
    subst e
    refine .inl ⟨⟨_, .inl (.inl ha), by simp⟩, q D H' S n hD sm hS (by rwa [List.take_length] at hin) hn⟩
/-- sorted(set of ints) -/
theorem z_sortedSet {a : Addr} {S : Int → Bool} {n : Nat} (h : H a = some (SetO w a S n)) (hn : n < 64) (q : ∀ (ns : List Int) (p : Addr) (H' : Hp), ns.Pairwise (· < ·) → (∀ k, k ∈ ns ↔ S k = true) → ns.length = n → H p = none → Same H H' → H' p = some (.lst (ns.map V.int)) → Q (.ref p) H') :
    rSortedSet w [.ref a] H Q := ⟨a, S, n, rfl, h, hn, fun ns p h1 h2 h3 hp => q ns p _ h1 h2 h3 hp (same_upd hp) upd_same⟩
end
end Sc

namespace Z
open PySem PySem.Spec PyProof.Rows L2
def rMax2 : List V → Hp → VK → Prop := fun xs H Q => ∃ i j, xs = [.int i, .int j] ∧ Q (.int (if j > i then j else i)) H
def rMin2 : List V → Hp → VK → Prop := fun xs H Q => ∃ i j, xs = [.int i, .int j] ∧ Q (.int (if j < i then j else i)) H
theorem c_max2 {X : Cx} (hc : X.calm = true) : CallR X (.builtin "max") rMax2 := call_max2 hc
theorem c_min2 {X : Cx} (hc : X.calm = true) : CallR X (.builtin "min") rMin2 := call_min2 hc
def rDivmod : List V → Hp → VK → Prop := fun xs H Q => ∃ i j, xs = [.int i, .int j] ∧ CDiv i j ∧ ∀ p, H p = none → Q (.ref p) (upd H p (.tup [.int (i / j), .int (i % j)]))
theorem c_divmod {X : Cx} : CallR X (.builtin "divmod") rDivmod := call_divmod
def TruQ (K : PySem.W.Frag) (QB : Bool → Hp → Prop) : VK := fun x H' => ∃ k, TruV K x H' k ∧ QB k H'
def tTru (K : PySem.W.Frag) (te : TE) : TT := fun σ H QB => te σ H (TruQ K QB)
theorem pt_tru {X : Cx} {a : Expr} {ta : TE} (ha : PE X a ta) (he : ∀ whole, isTrue a X.env whole = (do let v ← whole; standAt a.pos; holding [v] (truthy v))) : PT X a (tTru X.K ta) := pt_truth ha he
section
variable {K : PySem.W.Frag} {σ : L2.St} {H : Hp} {Q : VK} {QB : Bool → Hp → Prop} {i j : Int} {v x y : V} {p q l : Addr} {xs ys : List V} {te : TE}
theorem z_max2 (h : Q (.int (if j > i then j else i)) H) : rMax2 [.int i, .int j] H Q := ⟨i, j, rfl, h⟩
theorem z_min2 (h : Q (.int (if j < i then j else i)) H) : rMin2 [.int i, .int j] H Q := ⟨i, j, rfl, h⟩
theorem z_divmod (c : 0 < j ∧ j < 1073741824) (h : ∀ p H', H p = none → Same H H' → H' p = some (.tup [.int (i / j), .int (i % j)]) → Q (.ref p) H') : rDivmod [.int i, .int j] H Q :=
  ⟨i, j, rfl, c, fun a ha => h a _ ha (same_upd ha) upd_same⟩
theorem z_tru (h : te σ H (TruQ K QB)) : tTru K te σ H QB := h
/-- a test whose answer is known -/
theorem z_known {tt : TT} (k : Bool) (h : ∀ R : Bool → Hp → Prop, R k H → tt σ H R) (q : QB k H) : tt σ H QB := h QB q
/-- a test that is known to fail -/
theorem z_skip {n : L2.St → Hp → Prop} {r : VK} {b c : L2.St → Hp → Prop} {tt : TT} {t : TS} (h : ∀ R : Bool → Hp → Prop, R false H → tt σ H R) (q : n σ H) : tIfS tt t tNext ⟨n, r, b, c⟩ σ H := by
  refine h _ ?_
  rw [if_neg (by decide)]
  exact q
theorem z_truL (h : H p = some (.lst xs)) (q : QB (!xs.isEmpty) H) : TruQ K QB (.ref p) H := ⟨_, .inl ⟨xs, .inl (.inl h), rfl⟩, q⟩
theorem z_truT (h : SqT K H p xs) (q : QB (!xs.isEmpty) H) : TruQ K QB (.ref p) H := ⟨_, .inr (.inl ⟨xs, h, rfl⟩), q⟩
theorem z_truI (q : QB (i != 0) H) : TruQ K QB (.int i) H := ⟨_, rfl, q⟩
theorem rep_one (v : V) : ∀ m : Nat, (List.replicate m [v]).flatten = List.replicate m v
  | 0 => rfl
  | m + 1 => by
    rw [List.replicate_succ, List.flatten_cons, rep_one v m, List.replicate_succ]
    rfl
theorem z_rep (m : Nat) (h : H l = some (.lst [v])) (hj : j = (m : Int)) (hm : m ≤ 1000) (q : ∀ a H', H a = none → Same H H' → H' a = some (.lst (List.replicate m v)) → Q (.ref a) H') : rRep (.ref l) (.int j) H Q := by
  subst hj
  refine ⟨l, (m : Int), [v], rfl, rfl, h, by omega, by omega, Nat.le_trans (show [v].length * (m : Int).toNat ≤ 1000 by simpa using hm) (by decide), fun a ha => ?_⟩
  rw [Int.toNat_natCast, rep_one v m]
  exact q a _ ha (same_upd ha) upd_same
/-! while -/
/-- the number in slot k, as a measure -/
def muI (k : Nat) : L2.St → Hp → Nat := fun σ _ => match (σ[k]? : Option (Option V)) with
  | some (some (V.int m)) => m.toNat
  | _ => 0
def WB (Pv : L2.St → Hp → Prop) (μ : L2.St → Hp → Nat) (m : Nat) (tb : TS) (n : L2.St → Hp → Prop) (r : VK) (σ : L2.St) : Bool → Hp → Prop := fun b H1 =>
  if b = true then ∃ N : L2.St → Hp → Prop, (∀ σ' H', N σ' H' → ∃ m', m' < m ∧ m' = μ σ' H' ∧ Pv σ' H') ∧ tb ⟨N, r, n, N⟩ σ H1 else n σ H1
section
variable {Pv : L2.St → Hp → Prop} {μ : L2.St → Hp → Nat} {m : Nat} {tb : TS} {n : L2.St → Hp → Prop} {r : VK} {b c : L2.St → Hp → Prop}
theorem z_wbT (h : tb ⟨fun σ' H' => Pv σ' H' ∧ μ σ' H' < m, r, n, fun σ' H' => Pv σ' H' ∧ μ σ' H' < m⟩ σ H) : WB Pv μ m tb n r σ true H := by
  unfold WB
  rw [if_pos rfl]
  exact ⟨_, fun σ' H' z => ⟨_, z.2, rfl, z.1⟩, h⟩
theorem z_wbF (h : n σ H) : WB Pv μ m tb n r σ false H := by
  unfold WB
  rw [if_neg (by decide)]
  exact h
theorem z_wb {p : Prop} [Decidable p] (h1 : p → tb ⟨fun σ' H' => Pv σ' H' ∧ μ σ' H' < m, r, n, fun σ' H' => Pv σ' H' ∧ μ σ' H' < m⟩ σ H) (h2 : ¬ p → n σ H) : WB Pv μ m tb n r σ (decide p) H := by
  by_cases h : p
  · rw [decide_eq_true h]
    exact z_wbT (h1 h)
  · rw [decide_eq_false h]
    exact z_wbF (h2 h)
theorem z_while {tt : TT} (Pv : L2.St → Hp → Prop) (μ : L2.St → Hp → Nat) (h0 : Pv σ H) (hs : ∀ σ H, Pv σ H → tt σ H (WB Pv μ (μ σ H) tb n r σ)) : tWhile tt tb ⟨n, r, b, c⟩ σ H := by
  refine ⟨fun m σ H => m = μ σ H ∧ Pv σ H, ⟨_, rfl, h0⟩, ?_⟩
  rintro m σ H ⟨rfl, p⟩
  exact hs σ H p
end
/-! comprehensions over a range, over a list: the list at D grows -/
def LcB (D : Addr) (i : Nat) (Pv : Nat → Addr → List V → Hp → Prop) (Nx : Hp → Prop) : VK := fun y H4 => ∃ acc, H4 D = some (.lst acc) ∧ acc.length < sizeLine ∧ Nx (upd H4 D (.lst (acc ++ [y])))
theorem z_lcB {D : Addr} {i : Nat} {Pv : Nat → Addr → List V → Hp → Prop} {acc : List V} (h : H D = some (.lst acc)) (hl : acc.length = i) (hi : i < 1000) (q : ∀ H', H' D = some (.lst (acc ++ [y])) → Kp D H H' → (∀ b, b ≠ D → H' b = H b) → Pv (i + 1) D (acc ++ [y]) H') :
    LcB D i Pv (fun H' => ∃ acc', acc'.length = i + 1 ∧ H' D = some (.lst acc') ∧ Pv (i + 1) D acc' H') y H :=
  ⟨acc, h, Nat.lt_of_lt_of_le (show acc.length < 1000 by omega) (by decide), acc ++ [y], by simp [hl], upd_same, q _ upd_same (fun b o hb e => by rw [upd_ne hb]; exact e) fun b hb => upd_ne hb⟩
abbrev LcN (D : Addr) (i : Nat) (Pv : Nat → Addr → List V → Hp → Prop) : VK := LcB D i Pv (fun H' => ∃ acc', acc'.length = i + 1 ∧ H' D = some (.lst acc') ∧ Pv (i + 1) D acc' H')
theorem z_lcR {ta : TA} {k : Nat} {te : TE} {vs : List Nat} (m : Nat) (hm : m ≤ 1000) (ha : ∀ R : List V → Hp → Prop, R [.int (m : Int)] H → ta σ H R) (hw : ∀ x, wipe ((wipe σ vs).set k (some x)) vs = wipe σ vs) (Pv : Nat → Addr → List V → Hp → Prop)
    (h0 : ∀ D H', H D = none → Same H H' → H' D = some (.lst []) → Pv 0 D [] H')
    (hs : ∀ i D acc H', i < m → acc.length = i → H' D = some (.lst acc) → Pv i D acc H' → te ((wipe σ vs).set k (some (.int (i : Int)))) H' (LcN D i Pv))
    (hd : ∀ D acc H', H D = none → acc.length = m → H' D = some (.lst acc) → Pv m D acc H' → Q (.ref D) H') : tLc (iRng1 ta) (gName k) tYes te vs σ H Q := by
  refine ha _ ⟨(m : Int), rfl, by omega, by omega, fun D hD => ?_⟩
  refine lc_range (lo := 0) (n := (m : Int).toNat) (fun i H' => ∃ acc, acc.length = i ∧ H' D = some (.lst acc) ∧ Pv i D acc H') ⟨[], rfl, upd_same, h0 D _ hD (same_upd hD) upd_same⟩ (fun i H' hi ⟨acc, hl, hH, pv⟩ => ?_) (fun H' ⟨acc, hl, hH, pv⟩ => hd D acc H' hD (by simpa using hl) hH (by simpa using pv))
  have e : (0 : Int) + (i : Int) = (i : Int) := Int.zero_add _
  show wipe ((wipe σ vs).set k (some (.int ((0 : Int) + (i : Int))))) vs = wipe σ vs ∧ _
  refine ⟨hw _, z_yes (z_ifT ?_)⟩
  rw [e]
  exact hs i D acc H' (by simpa using hi) hl hH pv
def LcE (K : PySem.W.Frag) (g : TG) (tt : TT) (te : TE) (vs : List Nat) (σ : L2.St) (Q : VK) : VK := fun x H1 => tLc (iList K (tC x)) g tt te vs σ H1 Q
theorem z_lcE {tl : TE} {g : TG} {tt : TT} {vs : List Nat} (h : tl σ H (LcE K g tt te vs σ Q)) : tLc (iList K tl) g tt te vs σ H Q := h
def LcRE (g : TG) (tt : TT) (te : TE) (vs : List Nat) (σ : L2.St) (Q : VK) : List V → Hp → Prop := fun xs H1 => tLc (iRng1 fun _ H R => R xs H) g tt te vs σ H1 Q
theorem z_lcRE {ta : TA} {g : TG} {tt : TT} {vs : List Nat} (h : ta σ H (LcRE g tt te vs σ Q)) : tLc (iRng1 ta) g tt te vs σ H Q := h
theorem z_lcRr {k : Nat} {vs : List Nat} (m : Nat) (hm : m ≤ 1000) (hw : ∀ x, wipe ((wipe σ vs).set k (some x)) vs = wipe σ vs) (Pv : Nat → Addr → List V → Hp → Prop)
    (h0 : ∀ D H', H D = none → Same H H' → H' D = some (.lst []) → Pv 0 D [] H')
    (hs : ∀ i D acc H', i < m → acc.length = i → H' D = some (.lst acc) → Pv i D acc H' → te ((wipe σ vs).set k (some (.int (i : Int)))) H' (LcN D i Pv))
    (hd : ∀ D acc H', H D = none → acc.length = m → H' D = some (.lst acc) → Pv m D acc H' → Q (.ref D) H') : LcRE (gName k) tYes te vs σ Q [.int (m : Int)] H := z_lcR m hm (fun R q => q) hw Pv h0 hs hd
/-- over a list that stands as long as Pv -/
theorem z_lcLs {k : Nat} {vs : List Nat} {a : Addr} (hm : xs.length ≤ 1000) (hx : SqL K H a xs) (hw : ∀ x, wipe ((wipe σ vs).set k (some x)) vs = wipe σ vs) (Pv : Nat → Addr → List V → Hp → Prop)
    (h0 : ∀ D H', H D = none → Same H H' → H' D = some (.lst []) → Pv 0 D [] H') (hl : ∀ i D acc H', Pv i D acc H' → SqL K H' a xs)
    (hs : ∀ i x D acc H', xs[i]? = some x → acc.length = i → H' D = some (.lst acc) → Pv i D acc H' → te ((wipe σ vs).set k (some x)) H' (LcN D i Pv))
    (hd : ∀ D acc H', H D = none → acc.length = xs.length → H' D = some (.lst acc) → Pv xs.length D acc H' → Q (.ref D) H') : LcE K (gName k) tYes te vs σ Q (.ref a) H := by
  refine ⟨a, rfl, ⟨xs, hx⟩, fun D hD => ?_⟩
  refine lc_list (xs := xs) (fun i H' => ∃ acc, acc.length = i ∧ H' D = some (.lst acc) ∧ Pv i D acc H') ⟨[], rfl, upd_same, h0 D _ hD (same_upd hD) upd_same⟩ (fun i H' _ ⟨acc, _, _, pv⟩ => hl _ _ _ _ pv) (fun i x H' hi ⟨acc, hl, hH, pv⟩ => ?_) (fun H' ⟨acc, hl, hH, pv⟩ => hd D acc H' hD hl hH pv)
  show wipe ((wipe σ vs).set k (some x)) vs = wipe σ vs ∧ _
  exact ⟨hw _, z_yes (z_ifT (hs i x D acc H' hi hl hH pv))⟩
/-- any target -/
theorem z_lcG {g : TG} {vs : List Nat} {a : Addr} (hm : xs.length ≤ 1000) (hx : SqL K H a xs) (Pv : Nat → Addr → List V → Hp → Prop)
    (h0 : ∀ D H', H D = none → Same H H' → H' D = some (.lst []) → Pv 0 D [] H') (hl : ∀ i D acc H', Pv i D acc H' → SqL K H' a xs)
    (hs : ∀ i x D acc H', xs[i]? = some x → acc.length = i → H' D = some (.lst acc) → Pv i D acc H' → g x (wipe σ vs) H' fun σ2 H2 => wipe σ2 vs = wipe σ vs ∧ te σ2 H2 (LcN D i Pv))
    (hd : ∀ D acc H', H D = none → acc.length = xs.length → H' D = some (.lst acc) → Pv xs.length D acc H' → Q (.ref D) H') : LcE K g tYes te vs σ Q (.ref a) H := by
  refine ⟨a, rfl, ⟨xs, hx⟩, fun D hD => ?_⟩
  refine lc_list (xs := xs) (fun i H' => ∃ acc, acc.length = i ∧ H' D = some (.lst acc) ∧ Pv i D acc H') ⟨[], rfl, upd_same, h0 D _ hD (same_upd hD) upd_same⟩ (fun i H' _ ⟨acc, _, _, pv⟩ => hl _ _ _ _ pv) (fun i x H' hi ⟨acc, hl, hH, pv⟩ => ?_) (fun H' ⟨acc, hl, hH, pv⟩ => hd D acc H' hD hl hH pv)
  have h := hs i x D acc H' hi hl hH pv
  have e : (fun σ2 H2 => wipe σ2 vs = wipe σ vs ∧ te σ2 H2 (LcN D i Pv)) = (fun (σ2 : L2.St) (H2 : Hp) => wipe σ2 vs = wipe σ vs ∧ tYes σ2 H2 fun b H3 => if b = true then te σ2 H3 (LcN D i Pv) else ∃ acc', acc'.length = i + 1 ∧ H3 D = some (.lst acc') ∧ Pv (i + 1) D acc' H3) := by
    funext σ2 H2
    show _ = (wipe σ2 vs = wipe σ vs ∧ if true = true then te σ2 H2 (LcN D i Pv) else ∃ acc', acc'.length = i + 1 ∧ H2 D = some (.lst acc') ∧ Pv (i + 1) D acc' H2)
    rw [if_pos rfl]
  rw [e] at h
  exact h
/-- where the item answers at once -/
theorem z_lcS {k : Nat} {vs : List Nat} {a : Addr} (ws : List V) (hlen : ws.length = xs.length) (hm : xs.length ≤ 1000) (hx : H a = some (.lst xs)) (hw : ∀ x, wipe ((wipe σ vs).set k (some x)) vs = wipe σ vs)
    (body : ∀ (i : Nat) (x w : V) (H' : Hp), xs[i]? = some x → ws[i]? = some w → Same H H' → ∀ R : VK, R w H' → te ((wipe σ vs).set k (some x)) H' R)
    (hd : ∀ D H', H D = none → Same H H' → H' D = some (.lst ws) → Q (.ref D) H') : LcE K (gName k) tYes te vs σ Q (.ref a) H :=
  z_lcM (tl := tC (.ref a)) hlen hm (fun R q => q) hx hw body hd
end
/-! ### data: numbers, lists of numbers -/
def Fl (n : Nat) (d : PyData) : Prop := PyData.canLay0 d = true ∧ PyData.depth d ≤ n
theorem fl_all {n : Nat} : ∀ {ds : List PyData}, (∀ d ∈ ds, Fl n d) → PyData.canLayAll0 ds = true ∧ PyData.depthAll ds ≤ n
  | [], _ => ⟨rfl, Nat.zero_le _⟩
  | d :: ds, h => by
    have h1 := h d (.head _)
    have h2 := fl_all (ds := ds) fun x hx => h x (.tail _ hx)
    refine ⟨?_, ?_⟩
    · show (PyData.canLay0 d && PyData.canLayAll0 ds) = true
      rw [h1.1, h2.1]
      rfl
    · show max (PyData.depth d) (PyData.depthAll ds) ≤ n
      have := h1.2
      have := h2.2
      omega
theorem fl_list {n : Nat} {ds : List PyData} (h : ∀ d ∈ ds, Fl n d) : Fl (n + 1) (.list ds) := ⟨(fl_all h).1, Nat.succ_le_succ (fl_all h).2⟩
theorem fl_tup {n : Nat} {ds : List PyData} (h : ∀ d ∈ ds, Fl n d) : Fl (n + 1) (.tuple ds) := ⟨(fl_all h).1, Nat.succ_le_succ (fl_all h).2⟩
theorem fl_int (i : Int) : Fl 0 (.int i) := ⟨rfl, Nat.le_refl 0⟩
theorem shaped_fl {n : Nat} {d : PyData} (h : Fl n d) (hn : n ≤ 64 := by decide) : SeqAt.shaped d = true := by
  unfold SeqAt.shaped
  rw [Bool.and_eq_true]
  exact ⟨h.1, decide_eq_true (Nat.le_trans h.2 hn)⟩
theorem fl_ints (ns : List Int) : Fl 1 (.list (ns.map .int)) := fl_list fun d hd => by
  obtain ⟨i, _, rfl⟩ := List.mem_map.mp hd
  exact fl_int i
section
variable {K : PySem.W.Frag} {H : Hp} {Q : VK} {p q : Addr}
theorem dpa_ints : ∀ (ns : List Int), DpAll K H (ns.map V.int) (ns.map PyData.int)
  | [] => .nil
  | n :: ns => .cons (.int n) (dpa_ints ns)
theorem dp_ints {ns : List Int} (h : H p = some (.lst (ns.map V.int))) : Dp K H (.ref p) (.list (ns.map .int)) := .lst (.inl (.inl h)) (dpa_ints ns)
theorem eqv_intsA : ∀ (ns ms : List Int), PyData.eqv (.list (ns.map .int)) (.list (ms.map .int)) = decide (ns = ms)
  | [], [] => rfl
  | [], m :: ms => rfl
  | n :: ns, [] => rfl
  | n :: ns, m :: ms => by
    have ih := eqv_intsA ns ms
    show ((n == m) && PyData.eqv (.list (ns.map .int)) (.list (ms.map .int))) = _
    rw [ih]
    by_cases h : n = m
    · subst h
      by_cases h2 : ns = ms
      · simp [h2]
      · simp [h2]
    · simp [h]
theorem z_eqInts {ns ms : List Int} (h1 : H p = some (.lst (ns.map V.int))) (h2 : H q = some (.lst (ms.map V.int))) (k : Q (.bl (decide (ns = ms))) H) : rEqD K (.ref p) (.ref q) H Q :=
  ⟨_, _, dp_ints h1, dp_ints h2, shaped_fl (fl_ints ns), shaped_fl (fl_ints ms), by rw [eqv_intsA]; exact k⟩
theorem z_neInts {ns ms : List Int} (h1 : H p = some (.lst (ns.map V.int))) (h2 : H q = some (.lst (ms.map V.int))) (k : Q (.bl (decide (¬ ns = ms))) H) : rNeD K (.ref p) (.ref q) H Q :=
  ⟨_, _, dp_ints h1, dp_ints h2, shaped_fl (fl_ints ns), shaped_fl (fl_ints ms), by
    rw [eqv_intsA, show (!decide (ns = ms)) = decide (¬ ns = ms) by simp]
    exact k⟩
theorem inV_int (i : Int) : ∀ (ns : List Int), inV (.int i) (ns.map V.int) = decide (i ∈ ns)
  | [] => rfl
  | n :: ns => by
    have ih := inV_int i ns
    show (eqV (.int n) (.int i) || inV (.int i) (ns.map V.int)) = _
    rw [ih, show eqV (.int n) (.int i) = decide (n = i) by first | rfl | simp [eqV]]
    by_cases h : n = i
    · subst h
      simp
    · have h' : ¬ i = n := fun z => h z.symm
      simp [h, h']
theorem flat_ints (ns : List Int) : (ns.map V.int).all flatV = true := by
  rw [List.all_eq_true]
  intro v hv
  obtain ⟨i, _, rfl⟩ := List.mem_map.mp hv
  rfl
theorem z_inI {i : Int} {ns : List Int} (h : H p = some (.lst (ns.map V.int))) (k : Q (.bl (decide (i ∈ ns))) H) : rIn K false (.int i) (.ref p) H Q :=
  ⟨p, _, rfl, .inl (.inl (.inl h)), rfl, flat_ints ns, by rw [inV_int]; exact k⟩
theorem z_notInI {i : Int} {ns : List Int} (h : H p = some (.lst (ns.map V.int))) (k : Q (.bl (decide (¬ i ∈ ns))) H) : rIn K true (.int i) (.ref p) H Q :=
  ⟨p, _, rfl, .inl (.inl (.inl h)), rfl, flat_ints ns, by
    rw [inV_int, show (if true = true then !decide (i ∈ ns) else decide (i ∈ ns)) = decide (¬ i ∈ ns) by simp]
    exact k⟩
theorem z_sortedI {ns : List Int} (h : H p = some (.lst (ns.map V.int))) (k : ∀ (ms : List Int) (a : Addr) (H' : Hp), ms.Perm ns → ms.Pairwise (· ≤ ·) → H a = none → Same H H' → H' a = some (.lst (ms.map V.int)) → Q (.ref a) H') : rSortedI K [.ref p] H Q :=
  ⟨p, ns, rfl, .inl (.inl h), fun ms a h1 h2 ha => k ms a _ h1 h2 ha (same_upd ha) upd_same⟩
/-- truth values -/
theorem inV_bl (i : Bool) : ∀ (ns : List Bool), inV (.bl i) (ns.map V.bl) = decide (i ∈ ns)
  | [] => rfl
  | n :: ns => by
    have ih := inV_bl i ns
    show (eqV (.bl n) (.bl i) || inV (.bl i) (ns.map V.bl)) = _
    rw [ih]
    cases n <;> cases i <;> simp [eqV]
theorem flat_bls (ns : List Bool) : (ns.map V.bl).all flatV = true := by
  rw [List.all_eq_true]
  intro v hv
  obtain ⟨i, _, rfl⟩ := List.mem_map.mp hv
  rfl
theorem z_inB {i : Bool} {ns : List Bool} (h : H p = some (.lst (ns.map V.bl))) (k : Q (.bl (decide (i ∈ ns))) H) : rIn K false (.bl i) (.ref p) H Q :=
  ⟨p, _, rfl, .inl (.inl (.inl h)), rfl, flat_bls ns, by rw [inV_bl]; exact k⟩
theorem z_notInB {i : Bool} {ns : List Bool} (h : H p = some (.lst (ns.map V.bl))) (k : Q (.bl (decide (¬ i ∈ ns))) H) : rIn K true (.bl i) (.ref p) H Q :=
  ⟨p, _, rfl, .inl (.inl (.inl h)), rfl, flat_bls ns, by
    rw [inV_bl, show (if true = true then !decide (i ∈ ns) else decide (i ∈ ns)) = decide (¬ i ∈ ns) by simp]
    exact k⟩
theorem z_notNI {i : Int} (q : Q (.bl true) H) : rNotN (.int i) .non H Q := ⟨rfl, by simpa using q⟩
theorem z_isNI {i : Int} (q : Q (.bl false) H) : rIsN (.int i) .non H Q := ⟨rfl, by simpa using q⟩
theorem fresh_of {H H' : Hp} {a : Addr} (s : Same H H') (h : H' a = none) : H a = none := by
  cases z : H a with
  | none => rfl
  | some o =>
    have := s _ _ z
    rw [h] at this
    cases this
/-- sorted(ints) -/
theorem z_sorted {ns : List Int} (h : H p = some (.lst (ns.map V.int))) (hl : ns.length < 64) (k : ∀ (ms : List Int) (a : Addr) (H' : Hp), ms.Perm ns → ms.Pairwise (· ≤ ·) → H a = none → Same H H' → H' a = some (.lst (ms.map V.int)) → Q (.ref a) H') : rSorted K [.ref p] H Q :=
  ⟨p, ns, rfl, .inl (.inl h), hl, fun ms a h1 h2 ha => k ms a _ h1 h2 ha (same_upd ha) upd_same⟩
end
end Z

/-! {**a, **b} -/
namespace Dm
open PySem PySem.Spec PyProof.Rows
section
variable {prog : Program} {w : World} {K : Type} [DecidableEq K] {knd : KeyKind prog w K} {A : Around} {E : Value → Shared → Prop} {s : Shared}
theorem put_pairs {d : Addr} {kvs : List (K × Value)} {k : K} {key v : Value} {Q : Unit → Shared → Prop} (hkey : knd.is k key = true) (hm : s.heap.DictOf knd d kvs)
    (hQ : ∀ h', h'.DictOf knd d (stored kvs k v) → Heap.SameBut d s.heap h' → Q () { s with heap := h' })
    (hsz : kvs.length ≤ sizeLine) :
    wpAny (model prog w) A (dictPut d (knd.hash k) key v) Q E s := by
  obtain ⟨o, es, ep, ho, hc, hd, hk, hp, hn⟩ := hm
  have hes : es.size ≤ sizeLine := by
    have e1 := hp.length
    have e2 : es.toList.length = es.size := by simp
    omega
  unfold dictPut
  refine wpAny_bind (wpAny_dictFind_of hkey ho hd hk ?_)
  have hidx : (es.findIdx? fun e => knd.is k e.key) = kvs.findIdx? fun kv => decide (kv.1 = k) := by
    rw [← hp.findIdx k]; obtain ⟨l⟩ := es; simp
  cases hi : es.findIdx? fun e => knd.is k e.key with
  | some i =>
    refine wpAny_updateDict ho hd (hQ _ ⟨_, _, ep, Heap.get?_update_self _ ho (Obj.isFreed_of_dict (Obj.data_mapDict hd _)),
      hc.mapDict _, Obj.data_mapDict hd _, hk.modify _ _, ?_, ?_⟩ (Heap.SameBut.update ..))
    · rw [stored, if_pos (any_of_findIdx_some (hidx ▸ hi))]
      have hl : (es.toList.findIdx? fun e => knd.is k e.key) = some i := by rw [← hi]; obtain ⟨l⟩ := es; simp
      have := hp.modify hn hl v
      obtain ⟨l⟩ := es
      simpa using this
    · rw [stored, if_pos (any_of_findIdx_some (hidx ▸ hi)), keys_map_store]; exact hn
  | none =>
    have hnot : k ∉ kvs.map (·.1) := not_mem_of_findIdx_none (hidx ▸ hi)
    have hany : ¬ (kvs.any fun kv => decide (kv.1 = k)) = true := by
      rw [List.any_eq_true]; rintro ⟨kv, hkv, he⟩
      exact hnot (List.mem_map.mpr ⟨kv, hkv, of_decide_eq_true he⟩)
    refine wpAny_updateDictKeys (hz := hes) ho hd (hQ _ ⟨_, _, ep + 1, Heap.get?_update_self _ ho (Obj.isFreed_of_dict (Obj.data_mapDictKeys hd _)),
      hc.mapDictKeys _, Obj.data_mapDictKeys hd _, hk.push hkey _, ?_, ?_⟩ (Heap.SameBut.update ..))
    · rw [stored, if_neg hany]
      have := hp.append hkey (knd.hash k) v
      obtain ⟨l⟩ := es
      simpa using this
    · rw [stored, if_neg hany, List.map_append, List.nodup_append]
      refine ⟨hn, by simp, ?_⟩
      intro x hx y hy
      simp only [List.map_cons, List.map_nil, List.mem_singleton] at hy
      subst hy
      exact fun e => hnot (e ▸ hx)
theorem pairs_at : ∀ {es : List DictEntry} {kvs : List (K × Value)} {i : Nat} {e : DictEntry}, Pairs knd es kvs → es[i]? = some e → ∃ k, kvs[i]? = some (k, e.val) ∧ knd.is k e.key = true
  | _, _, _, _, .nil, h => by cases h
  | _, _, 0, _, .cons h1 h2 _, h => by
    cases h
    exact ⟨_, by rw [List.getElem?_cons_zero, h2], h1⟩
  | _, _, i + 1, _, .cons _ _ t, h => by
    obtain ⟨k, h1, h2⟩ := pairs_at (i := i) t (by simpa using h)
    exact ⟨k, by simpa using h1, h2⟩
theorem merge_pairs {d a : Addr} {kvs more : List (K × Value)} {Q : Unit → Shared → Prop} (hda : d ≠ a) (haS : (a == sysModules) = false)
    (hm : s.heap.DictOf knd d kvs) (ha : s.heap.DictOf knd a more) (hsz : kvs.length + more.length ≤ sizeLine)
    (hQ : ∀ h', h'.DictOf knd d (merged kvs more) → Heap.SameBut d s.heap h' → Q () { s with heap := h' }) :
    wpAny (model prog w) A (mergeMapping d (.ref a) false) Q E s := by
  have hT := ha.typeIs
  obtain ⟨o, es, ep, ho, hc, hd, hk, hp, hn⟩ := id hm
  obtain ⟨oa, esa, epa, hoa, hca, hdata, hka, hpa, hna⟩ := id ha
  have hlen : esa.size = more.length := by
    have e1 := hpa.length
    have e2 : esa.toList.length = esa.size := by simp
    omega
  unfold mergeMapping
  refine wpAny_bind (wpAny_isInstance hT isSubtype_dict_dict ?_)
  rw [if_pos rfl]
  refine wpAny_bind (wpAny_specialOf hT F.slot_dict_iter.lookup ?_)
  simp only [beq_self_eq_true, pure_bind]
  rw [if_neg (by rw [haS]; exact Bool.false_ne_true)]
  refine wpAny_bind (wpAny_dictEntries ho hd ?_)
  have loop : wpAny (model prog w) A (do
      let l ← dictEntries a
      let epoch ← dictEpoch a
      forIn (List.range l.size) PUnit.unit fun i (_ : PUnit) => (do
          let l' ← dictEntries a
          match l'[i]? with
            | some e => do
              holding [e.key, e.val] (if false = true then do
                  let x ← dictFind d e.key e.hash
                  if x.isSome = true then do
                      rule "dict.merge.duplicate-key"
                      let y ← newExc (Value.type "KeyError") [e.key]
                      let r ← raiseNew y
                      (fun (_ : Unit) => dictPut d e.hash e.key e.val) r
                    else (fun (_ : Unit) => dictPut d e.hash e.key e.val) ()
                else (fun (_ : Unit) => dictPut d e.hash e.key e.val) ())
              let ep' ← dictEpoch a
              if (ep' != epoch) = true then do
                  (unsupported "dict.changed-during-merge" : Sem PUnit)
                  pure (ForInStep.yield PUnit.unit)
                else pure (ForInStep.yield PUnit.unit)
            | _ => do
              (unsupported "dict.changed-during-merge" : Sem PUnit)
              pure (ForInStep.yield PUnit.unit) : Sem (ForInStep PUnit))
      pure ()) Q E s := by
    refine wpAny_bind (wpAny_dictEntries hoa hdata ?_)
    refine wpAny_bind (wpAny_dictEpoch hoa hdata ?_)
    refine wpAny_bind ?_
    rw [List.range_eq_range']
    refine wpAny_forIn_list _
      (fun rest _ s' => ∃ h' i, s' = { s with heap := h' } ∧ rest = List.range' i (esa.size - i) ∧ i ≤ esa.size ∧ h'.DictOf knd d (merged kvs (more.take i)) ∧ h'.get? a = some oa ∧ Heap.SameBut d s.heap h')
      _ ?_ ?_ _ _ ⟨s.heap, 0, rfl, by simp, Nat.zero_le _, by simpa [merged] using hm, hoa, Heap.SameBut.refl _ _⟩
    · rintro x rest b s' ⟨h', i, rfl, hr, hi, hd', hoa', hs'⟩
      have hlt : i < esa.size := by
        rcases Nat.lt_or_ge i esa.size with h | h
        · exact h
        · rw [Nat.sub_eq_zero_of_le h] at hr; simp at hr
      obtain ⟨rfl, hrest⟩ : x = i ∧ rest = List.range' (i + 1) (esa.size - (i + 1)) := by
        have e : esa.size - i = (esa.size - (i + 1)) + 1 := by omega
        rw [e, List.range'_succ] at hr
        injection hr with h1 h2
        exact ⟨h1, h2⟩
      refine wpAny_bind (wpAny_dictEntries hoa' hdata ?_)
      have he : esa[x]? = some esa[x] := Array.getElem?_eq_getElem hlt
      obtain ⟨k, hk1, hk2⟩ := pairs_at (i := x) (e := esa[x]) hpa (by rw [Array.getElem?_toList]; exact he)
      obtain ⟨k', hk3, hk4⟩ := hka esa[x] (Array.getElem_mem hlt)
      obtain rfl : k = k' := knd.inj _ _ _ hk2 hk3
      rw [he]
      dsimp only
      rw [if_neg (by decide)]
      have hmx : (merged kvs (more.take x)).length ≤ sizeLine := by
        have e1 := merged_length_le kvs (more.take x)
        have e2 : (more.take x).length ≤ more.length := by rw [List.length_take]; omega
        omega
      rw [hk4]
      refine wpAny_bind (wpAny_holding (put_pairs (s := { s with heap := h' }) hk2 hd' (fun h'' hd'' hs'' => ?_) hmx))
      have hoa'' : h''.get? a = some oa := (hs''.2 a (Ne.symm hda)).trans hoa'
      refine wpAny_bind (wpAny_dictEpoch hoa'' hdata ?_)
      rw [if_neg (by simp)]
      exact wpAny_pure ⟨h'', x + 1, rfl, hrest, hlt, by rw [merged_take_succ kvs more x _ hk1]; exact hd'', hoa'', hs'.trans hs''⟩
    · rintro b s' ⟨h', i, rfl, hr, hi, hd', hoa', hs'⟩
      have hin : i = esa.size := by
        rcases Nat.lt_or_ge i esa.size with h | h
        · have e : esa.size - i = (esa.size - (i + 1)) + 1 := by omega
          rw [e, List.range'_succ] at hr; exact nomatch hr
        · exact Nat.le_antisymm hi h
      refine wpAny_pure (hQ h' ?_ hs')
      rw [hin, hlen, List.take_length] at hd'; exact hd'
  split
  · refine wpAny_bind (wpAny_dictEntries hoa hdata ?_)
    refine wpAny_bind ?_
    rw [← Array.forIn_toList]
    refine wpAny_forIn_list _ (fun rest _ s' => s' = s ∧ ∀ e ∈ rest, e ∈ esa) _ ?_ ?_ _ _ ⟨rfl, fun e h => by simpa using h⟩
    · rintro e rest b s' ⟨rfl, hr⟩
      obtain ⟨k, hk3, _⟩ := hka e (hr e (.head _))
      have hv := knd.byValue k e.key hk3
      have nr : ∀ b, e.key ≠ .ref b := fun b z => by rw [z] at hv; exact Bool.noConfusion (show false = true from hv)
      split
      · rename_i b z
        exact absurd z (nr b)
      · exact wpAny_pure ⟨rfl, fun e h => hr e (.tail _ h)⟩
    · rintro b s' ⟨rfl, _⟩
      exact loop
  · exact loop
end
end Dm

namespace Dm
open PySem PySem.Spec PyProof.Rows L2
def tMrg2 (ta tb : TE) : TE := fun σ H Q => ∀ p, H p = none → ta σ (upd H p (.dK [])) fun x H1 => ∃ a kvs, x = .ref a ∧ H1 a = some (.dK kvs) ∧ a ≠ p ∧ H1 p = some (.dK []) ∧ kvs.length ≤ 1000 ∧
  tb σ (upd H1 p (.dK (mergeK [] kvs))) fun y H2 => ∃ b more, y = .ref b ∧ H2 b = some (.dK more) ∧ b ≠ p ∧ H2 p = some (.dK (mergeK [] kvs)) ∧ more.length ≤ 1000 ∧ Q (.ref p) (upd H2 p (.dK (mergeK (mergeK [] kvs) more)))
section
variable {X : Cx} {pins : List (Addr × Obj)} {σ : L2.St} {H : Hp} {s : Shared}
theorem d_merge {p a : Addr} {kvs more : List (Key × V)} {A : Around} {E : Value → Shared → Prop} {Q : Unit → Shared → Prop} (I : Inv X pins σ H s) (hp : H p = some (.dK kvs)) (ha : H a = some (.dK more)) (hne : a ≠ p) (hl : kvs.length + more.length ≤ 3000)
    (h : ∀ s', Inv X pins σ (upd H p (.dK (mergeK kvs more))) s' → Q () s') : wpAny (model X.prog X.w) A (mergeMapping p (.ref a) false) Q E s := by
  obtain ⟨z, hd, vs, rel, dd⟩ := dk_of I.hok hp
  obtain ⟨z2, hd2, vs2, rel2, dd2⟩ := dk_of I.hok ha
  refine merge_pairs (Ne.symm hne) hd2 dd dd2 (by rw [← rel.length, ← rel2.length, sizeLine_eq]; omega) fun h' dd' hs => h _ ?_
  have he : ∃ q, h'.get? p = some q := let ⟨q, _, _, hq, _⟩ := dd'; ⟨q, hq⟩
  have hz : (mergeK kvs more).length ≤ sizeLine := by
    have h1 := length_mergeK more kvs
    rw [sizeLine_eq]; omega
  exact d_write (t' := s.toks) I (by rw [hp]; exact True.intro) hs he (dk_new hz hd (rel2.merge rel) dd')
theorem pe_mrg2 {e1 e2 : Expr} {ta tb : TE} {pos : Pos} (h1 : PE X e1 ta) (h2 : PE X e2 tb) : PE X (.Dict [none, none] [e1, e2] pos) (tMrg2 ta tb) := by
  refine ⟨fun pins s σ H Q I q => ?_⟩
  have hn := I.hok.fresh (Nat.le_refl s.heap.objs.size)
  have I1 := I.laid (a := s.heap.objs.size) (o := .dK []) (h' := s.heap.push { cls := .type "dict", data := .dict #[] }) (t' := s.toks) (fun _ _ q => Heap.get?_push_of_some _ q) (Nat.le_refl _) (dk_empty s.heap I.big)
  rw [arm_eval_Dict]
  refine wpAny_bind (wpAny_standAt ?_)
  show wpAny _ _ (dictDisplay [(none, do let x ← eval e1 X.env; standAt pos; pure x), (none, do let x ← eval e2 X.env; standAt pos; pure x)]) _ _ _
  unfold dictDisplay
  simp only [List.forIn_cons, List.forIn_nil, List.isEmpty_nil, if_true, pure_bind, bind_assoc]
  refine wpAny_bind (wpAny_alloc ?_)
  refine wpAny_bind (wpAny_holding (wpAny_bind (thn (h1.run pins _ σ _ _ I1 (q _ hn)) fun u s2 ⟨x, H1, I2, rx, a, kvs, ex, hka, hne, hkp, hl1, q2⟩ => ?_)))
  subst ex
  obtain rfl : u = Value.ref a := rx
  refine wpAny_bind (wpAny_standAt (wpAny_pure ?_))
  refine wpAny_bind (wpAny_onRaise (wpAny_tryCatch (wpAny_onRaise (wpAny_holding (d_merge I2 hkp hka hne (by rw [List.length_nil]; omega) fun s3 I3 => ?_)))))
  refine wpAny_bind (wpAny_holding (wpAny_bind (thn (h2.run pins _ σ _ _ I3 q2) fun u s2 ⟨x, H2, I4, rx, b, more, ex, hkb, hnb, hkp2, hl2, q3⟩ => ?_)))
  subst ex
  obtain rfl : u = Value.ref b := rx
  refine wpAny_bind (wpAny_standAt (wpAny_pure ?_))
  have l0 := length_mergeK kvs []
  rw [List.length_nil] at l0
  refine wpAny_bind (wpAny_onRaise (wpAny_tryCatch (wpAny_onRaise (wpAny_holding (d_merge I4 hkp2 hkb hnb (by omega) fun s5 I5 => ?_)))))
  exact wpAny_pure ⟨.ref s.heap.objs.size, _, I5, rfl, q3⟩
/-- one of two readings -/
def tOr2 (t u : TE) : TE := fun σ H Q => t σ H Q ∨ u σ H Q
theorem pe_or2 {e : Expr} {t u : TE} (h : PE X e t) (k : PE X e u) : PE X e (tOr2 t u) := ⟨fun pins s σ H Q I q => q.elim (h.run pins s σ H Q I) (k.run pins s σ H Q I)⟩
/-- sorted(d): the keys, ascending -/
def rSortD : List V → Hp → VK → Prop := fun xs H Q => ∃ (a : Addr) (kvs : List (Key × V)) (ks : List Int), xs = [.ref a] ∧ Rd H a (.dK kvs) ∧ kvs.map (·.1) = ks.map Sum.inl ∧ ks.length < 64 ∧
    ∀ (ys : List Int) (p : Addr), ys.Perm ks → ys.Pairwise (· ≤ ·) → H p = none → Q (.ref p) (upd H p (.lst (ys.map V.int)))
theorem cr_sortD (hc : X.calm = true) : CallR X (.builtin "sorted") rSortD := call_sortedDI hc
end
end Dm


/-! dict(t) of a tuple of pairs; {**a, **b}; plain tuples -/
namespace Dm
open PySem PySem.Spec PyProof.Rows L2 Z

/-- a tuple of which it is known that it has no dict of its own -/
def PlT (H : Hp) (a : Addr) (xs : List V) : Prop := ∃ o : Obj, H a = some (.frz o (.tup xs)) ∧ o.cls = .type "tuple" ∧ o.dict = none
theorem PlT.sq {K : PySem.W.Frag} {H : Hp} {a : Addr} {xs : List V} (h : PlT H a xs) : SqT K H a xs := by
  obtain ⟨o, e, _⟩ := h
  exact .inl (.inr ⟨o, e⟩)
theorem PlT.mono {H H' : Hp} {a : Addr} {xs : List V} (s : Same H H') (h : PlT H a xs) : PlT H' a xs := by
  obtain ⟨o, e, r⟩ := h
  exact ⟨o, s _ _ e, r⟩
theorem PlT.kp {H H' : Hp} {a p : Addr} {xs ys : List V} (k : Kp p H H') (hp : H p = some (.lst ys)) (h : PlT H a xs) : PlT H' a xs := by
  obtain ⟨o, e, r⟩ := h
  refine ⟨o, k _ _ (fun z => ?_) e, r⟩
  subst z
  rw [e] at hp
  cases hp
theorem PlT.ne {H : Hp} {a p : Addr} {xs : List V} {o : HO} (h : PlT H a xs) (hp : H p = some o) (ho : ∀ ob u, o ≠ .frz ob u) : a ≠ p := by
  obtain ⟨ob, e, _⟩ := h
  intro z
  subst z
  rw [e] at hp
  exact ho _ _ (Option.some.inj hp).symm
abbrev NewF (Q : VK) : List V → Hp → Prop := fun xs H1 => xs.length ≤ sizeLine ∧ ∀ (p : Addr) (o : Obj), H1 p = none → o.cls = .type "tuple" → o.dict = none → Q (.ref p) (upd H1 p (.frz o (.tup xs)))
def tTupF (t : TA) : TE := fun σ H Q => t σ H (NewF Q)
section
variable {X : Cx} {es : List Expr} {t : TA} {pos : Pos}
theorem pe_tupF {x1} (h : PA X es t) : PE X (.Tuple es x1 pos) (tTupF t) := by
  refine ⟨fun pins s σ H Q I hq => ?_⟩
  refine wpAny_Tuple_spliced (thn (h.run pos pins s σ H _ I hq) fun us s1 ⟨xs, H1, I1, r, z, q⟩ => ⟨by rw [← r.length]; exact z, ?_⟩)
  have hf : H1 s1.heap.objs.size = none := I1.hok.fresh (Nat.le_refl _)
  refine ⟨.ref s1.heap.objs.size, upd H1 s1.heap.objs.size (.frz { cls := .type "tuple", data := .seq us.toArray } (.tup xs)), I1.laid (t' := s1.toks) (fun b u e => Heap.get?_push_of_some _ e) (Nat.le_refl _) ?_, rfl, q _ _ hf rfl rfl⟩
  exact ⟨Heap.get?_push_size _ rfl, z, us, r, ⟨_, Heap.get?_push_size _ rfl, rfl, _, rfl⟩⟩
end
def rTupOfF (K : PySem.W.Frag) : List V → Hp → VK → Prop := fun xs H Q => ∃ p ys, xs = [.ref p] ∧ SqL K H p ys ∧ ∀ (l : Addr) (o : Obj), H l = none → o.cls = .type "tuple" → o.dict = none → Q (.ref l) (upd H l (.frz o (.tup ys)))
theorem c_tupOfF {X : Cx} : CallR X (.type "tuple") (rTupOfF X.K) := by
  intro pins s σ H xs us Q I r h
  obtain ⟨p, ys, rfl, hq, q⟩ := h
  obtain ⟨u, rfl, rx⟩ := vals1 r
  cases rx
  obtain ⟨its, r', pl, hz⟩ := I.list hq
  have hlen := r'.length
  refine call_tuple_list pl.isList (fun h' kp => ?_) (by simp only [List.size_toArray] <;> omega)
  have I1 : Inv X pins σ H { s with heap := h' } := I.kept (t' := s.toks) kp
  have I2 : Inv X pins σ (upd H h'.objs.size (.frz { cls := .type "tuple", data := .seq its.toArray } (.tup ys))) { s with heap := h'.push { cls := .type "tuple", data := .seq its.toArray } } :=
    I1.laid (t' := s.toks) (fun b o e => Heap.get?_push_of_some _ e) (Nat.le_refl _) (show ObjOk X.prog X.w _ _ _ (.frz { cls := .type "tuple", data := .seq its.toArray } (.tup ys)) from ⟨Heap.get?_push_size _ rfl, hz, its, r', IsTup.new _ _⟩)
  exact ⟨.ref h'.objs.size, _, I2, rfl, q _ _ (I1.hok.fresh (Nat.le_refl _)) rfl rfl⟩

/-! ### dict(t) -/
def rDictT (K : PySem.W.Frag) : List V → Hp → VK → Prop := fun xs H Q => ∃ (a : Addr) (ps : List Addr) (kvs : List (Key × V)), xs = [.ref a] ∧ PlT H a (ps.map V.ref) ∧ Paired (fun p kv => SqT K H p [kV kv.1, kv.2]) ps kvs ∧
    ∀ p, H p = none → Q (.ref p) (upd H p (.dK (mergeK [] kvs)))
theorem call_dictT {X : Cx} (hcalm : X.calm = true) : CallR X (.type "dict") (rDictT X.K) := by
  intro pins s σ H xs us Q I r q
  obtain ⟨a, ps, kvs, ex, ⟨o, hq, hc, hd⟩, hp, q⟩ := q
  subst ex
  obtain ⟨u, eu, rx⟩ := vals1 r
  subst eu
  cases rx
  obtain ⟨ho, hz, its, rv, o', ho', hc', n, hdat⟩ := (show ObjOk X.prog X.w H s.heap a (.frz o (.tup (ps.map V.ref))) from I.hok a _ hq)
  rw [ho] at ho'
  cases ho'
  have ei := refs_at rv
  subst ei
  rw [List.length_map] at hz
  obtain ⟨prs, rel, hl, hpr⟩ := pairs_of I hp
  -- the pairs by their keys' values
  have hval : ∀ j, j < prs.length → ∃ b u y, ps[j]? = some b ∧ prs[j]? = some y ∧ IsTup s.heap b #[u, y.2] ∧ keyIs y.1 u = true := fun j hj => by
    obtain ⟨b, u, e1, e2, e3⟩ := hpr j _ (List.getElem?_eq_getElem hj)
    exact ⟨b, u, _, e1, List.getElem?_eq_getElem hj, e2, e3⟩
  let kof : Nat → Value := fun j => if h : j < prs.length then (hval j h).choose_spec.choose else .none
  let vps : List (Value × Value) := (List.range prs.length).map fun j => (kof j, (prs[j]?.map (·.2)).getD .none)
  have hvl : vps.length = prs.length := by simp [vps]
  have hat : ∀ j k v, vps[j]? = some (k, v) → ∃ (b : Addr) (y : Key × Value), ps[j]? = some b ∧ prs[j]? = some y ∧ v = y.2 ∧ IsTup s.heap b #[k, v] ∧ keyIs y.1 k = true := fun j k v e => by
    have hj : j < prs.length := by
      have := (List.getElem?_eq_some_iff.mp e).1
      omega
    have e2 : vps[j]? = some (kof j, (prs[j]?.map (·.2)).getD .none) := by
      simp only [vps, List.getElem?_map, List.getElem?_range hj, Option.map_some]
    rw [e2] at e
    have e := Option.some.inj e
    have hs := (hval j hj).choose_spec.choose_spec
    obtain ⟨y, h1, h2, h3, h4⟩ := hs
    have ek : kof j = (hval j hj).choose_spec.choose := by simp only [kof, hj, dif_pos]
    have e3 : k = kof j := (congrArg Prod.fst e).symm
    have e4 : v = y.2 := by
      have := (congrArg Prod.snd e).symm
      rw [h2] at this
      exact this
    refine ⟨_, y, h1, h2, e4, ?_, ?_⟩
    · rw [e3, ek, e4]
      exact h3
    · rw [e3, ek]
      exact h4
  have P := PairArg.tuple (prog := X.prog) (w := X.w) a (ps.map Value.ref).toArray (fun j => (ps[j]?).getD 0) vps
  refine PySem.call_dict_pairs (knd := mixKind X.prog X.w) (kvs := prs) P (I.ok.hd hcalm) ⟨⟨o, n, ho, hc, hd, hdat⟩, ?_, ?_⟩ ⟨by omega, ?_⟩ (by rw [hvl, hl]; exact hz) fun h' tk hd' k => ?_
  · simp only [List.size_toArray, List.length_map]
    omega
  · intro j k v e
    obtain ⟨b, y, h1, h2, h3, h4, h5⟩ := hat j k v e
    refine ⟨by simp [h1], .inl ?_⟩
    show s.heap.IsTuple ((ps[j]?).getD 0) #[k, v]
    rw [show (ps[j]?).getD 0 = b by rw [h1]; rfl]
    exact h4
  · intro i key v e
    obtain ⟨b, y, h1, h2, h3, h4, h5⟩ := hat i key v e
    exact ⟨y.1, by rw [h2, h3], h5⟩
  · have hm : (s.heap.objs.size == sysModules) = false := beq_eq_false_iff_ne.mpr (Nat.ne_of_gt I.big)
    have hlen : (mergeK [] kvs).length ≤ sizeLine := by
      refine Nat.le_trans (length_mergeK kvs []) ?_
      rw [List.length_nil, Nat.zero_add, rel.length, hl]
      exact hz
    exact ⟨.ref s.heap.objs.size, upd H s.heap.objs.size (.dK (mergeK [] kvs)), I.laid (t' := tk) (fun b o e => k b o (by simp) e) (Nat.le_refl _) (show ObjOk X.prog X.w _ _ _ (.dK (mergeK [] kvs)) from ⟨hlen, hm, merged [] prs, KV.merge rel .nil, hd'⟩), rfl, q _ (I.hok.fresh (Nat.le_refl _))⟩
end Dm

namespace G
open PySem PySem.Spec PyProof.Rows L2 Z
def topS (i : Nat) : Stmt := PySem.Challenge.pw_fontwinding_k05_replaced_unknown.main.body.getD i (.Pass ⟨0, 0, 0, 0⟩)
abbrev s_ratio : Stmt := topS 8
abbrev s_add : Stmt := topS 9
abbrev s_multiply : Stmt := topS 10
abbrev s_add_forms : Stmt := topS 12
abbrev s_combine_forms : Stmt := topS 13
abbrev s_scale_form : Stmt := topS 14
abbrev s_replace_unknown : Stmt := topS 15
abbrev s_coefficient : Stmt := topS 16
abbrev s__law_cell : Stmt := topS 18
abbrev s__law_stream : Stmt := topS 19
abbrev s__law_next : Stmt := topS 20
abbrev s__law_is_integer : Stmt := topS 21
abbrev s__law_ratio : Stmt := topS 22
abbrev s__law_is_number : Stmt := topS 23
abbrev s__law_small : Stmt := topS 24
abbrev s__law_form : Stmt := topS 25
abbrev s__law_factor : Stmt := topS 26
abbrev s__law_sum : Stmt := topS 27
abbrev s__law_product : Stmt := topS 28
abbrev s__law_is_form : Stmt := topS 29
abbrev s__law_moved : Stmt := topS 30
abbrev s_law : Stmt := topS 31
theorem sc_ratio : FnScope ["n", "d", "common", "top", "bottom"] ["n", "d"] (defScope s_ratio) := ⟨rfl, rfl, rfl, by decide +kernel, rfl, by decide +kernel, by decide +kernel⟩
theorem sc_add : FnScope ["a", "b"] ["a", "b"] (defScope s_add) := ⟨rfl, rfl, rfl, by decide +kernel, rfl, by decide +kernel, by decide +kernel⟩
theorem sc_multiply : FnScope ["a", "b"] ["a", "b"] (defScope s_multiply) := ⟨rfl, rfl, rfl, by decide +kernel, rfl, by decide +kernel, by decide +kernel⟩
theorem sc_add_forms : FnScope ["a", "b"] ["a", "b"] (defScope s_add_forms) := ⟨rfl, rfl, rfl, by decide +kernel, rfl, by decide +kernel, by decide +kernel⟩
theorem sc_combine_forms : FnScope ["a", "b", "operation", "constant", "left", "right", "terms", "unknown", "number"] ["a", "b", "operation"] (defScope s_combine_forms) := ⟨rfl, rfl, rfl, by decide +kernel, rfl, by decide +kernel, by decide +kernel⟩
theorem sc_scale_form : FnScope ["form", "number", "constant", "terms", "unknown", "factor", "scaled"] ["form", "number"] (defScope s_scale_form) := ⟨rfl, rfl, rfl, by decide +kernel, rfl, by decide +kernel, by decide +kernel⟩
theorem sc_replace_unknown : FnScope ["form", "unknown", "other", "factor", "terms", "term"] ["form", "unknown", "other"] (defScope s_replace_unknown) := ⟨rfl, rfl, rfl, by decide +kernel, rfl, by decide +kernel, by decide +kernel⟩
theorem sc_coefficient : FnScope ["form", "unknown", "at", "factor"] ["form", "unknown"] (defScope s_coefficient) := ⟨rfl, rfl, rfl, by decide +kernel, rfl, by decide +kernel, by decide +kernel⟩
theorem sc__law_cell : FnScope ["script", "k"] ["script", "k"] (defScope s__law_cell) := ⟨rfl, rfl, rfl, by decide +kernel, rfl, by decide +kernel, by decide +kernel⟩
theorem sc__law_stream : FnScope ["cell"] ["cell"] (defScope s__law_stream) := ⟨rfl, rfl, rfl, by decide +kernel, rfl, by decide +kernel, by decide +kernel⟩
theorem sc__law_next : FnScope ["stream", "size", "drawn", "mixed"] ["stream", "size"] (defScope s__law_next) := ⟨rfl, rfl, rfl, by decide +kernel, rfl, by decide +kernel, by decide +kernel⟩
theorem sc__law_is_integer : FnScope ["actual"] ["actual"] (defScope s__law_is_integer) := ⟨rfl, rfl, rfl, by decide +kernel, rfl, by decide +kernel, by decide +kernel⟩
theorem sc__law_ratio : FnScope ["n", "d", "a", "b", "k"] ["n", "d"] (defScope s__law_ratio) := ⟨rfl, rfl, rfl, by decide +kernel, rfl, by decide +kernel, by decide +kernel⟩
theorem sc__law_is_number : FnScope ["actual"] ["actual"] (defScope s__law_is_number) := ⟨rfl, rfl, rfl, by decide +kernel, rfl, by decide +kernel, by decide +kernel⟩
theorem sc__law_small : FnScope ["stream"] ["stream"] (defScope s__law_small) := ⟨rfl, rfl, rfl, by decide +kernel, rfl, by decide +kernel, by decide +kernel⟩
theorem sc__law_form : FnScope ["stream", "size", "terms", "unknown", "factor"] ["stream", "size"] (defScope s__law_form) := ⟨rfl, rfl, rfl, by decide +kernel, rfl, by decide +kernel, by decide +kernel⟩
theorem sc__law_factor : FnScope ["form", "unknown", "index", "factor"] ["form", "unknown"] (defScope s__law_factor) := ⟨rfl, rfl, rfl, by decide +kernel, rfl, by decide +kernel, by decide +kernel⟩
theorem sc__law_sum : FnScope ["a", "b"] ["a", "b"] (defScope s__law_sum) := ⟨rfl, rfl, rfl, by decide +kernel, rfl, by decide +kernel, by decide +kernel⟩
theorem sc__law_product : FnScope ["a", "b"] ["a", "b"] (defScope s__law_product) := ⟨rfl, rfl, rfl, by decide +kernel, rfl, by decide +kernel, by decide +kernel⟩
theorem sc__law_is_form : FnScope ["actual", "size", "before", "term"] ["actual", "size"] (defScope s__law_is_form) := ⟨rfl, rfl, rfl, by decide +kernel, rfl, by decide +kernel, by decide +kernel⟩
theorem sc__law_moved : FnScope ["form", "start", "stride", "index", "factor"] ["form", "start", "stride"] (defScope s__law_moved) := ⟨rfl, rfl, rfl, by decide +kernel, rfl, by decide +kernel, by decide +kernel⟩
theorem sc_law : FnScope ["script", "stream", "size", "form", "other", "start", "stride", "replaced", "term", "actual", "factor", "unknown", "expected"] ["script"] (defScope s_law) := ⟨rfl, rfl, rfl, by decide +kernel, rfl, by decide +kernel, by decide +kernel⟩
structure Txt (K : PySem.W.Frag) (mg : Str → Option Value) (A : Nat → Addr) (D : Nat → FuncData) : Prop where
  F_ratio : Fun K "ratio" "ratio" s_ratio (A 3) (D 3)
  m_ratio : mg "ratio" = some (.ref (A 3))
  b_ratio : Binds K (D 3) ["n", "d"] []
  F_add : Fun K "add" "add" s_add (A 4) (D 4)
  m_add : mg "add" = some (.ref (A 4))
  b_add : Binds K (D 4) ["a", "b"] []
  F_multiply : Fun K "multiply" "multiply" s_multiply (A 5) (D 5)
  m_multiply : mg "multiply" = some (.ref (A 5))
  b_multiply : Binds K (D 5) ["a", "b"] []
  F_add_forms : Fun K "add_forms" "add_forms" s_add_forms (A 6) (D 6)
  m_add_forms : mg "add_forms" = some (.ref (A 6))
  b_add_forms : Binds K (D 6) ["a", "b"] []
  F_combine_forms : Fun K "combine_forms" "combine_forms" s_combine_forms (A 7) (D 7)
  m_combine_forms : mg "combine_forms" = some (.ref (A 7))
  b_combine_forms : Binds K (D 7) ["a", "b", "operation"] []
  F_scale_form : Fun K "scale_form" "scale_form" s_scale_form (A 8) (D 8)
  m_scale_form : mg "scale_form" = some (.ref (A 8))
  b_scale_form : Binds K (D 8) ["form", "number"] []
  F_replace_unknown : Fun K "replace_unknown" "replace_unknown" s_replace_unknown (A 9) (D 9)
  m_replace_unknown : mg "replace_unknown" = some (.ref (A 9))
  b_replace_unknown : Binds K (D 9) ["form", "unknown", "other"] []
  F_coefficient : Fun K "coefficient" "coefficient" s_coefficient (A 10) (D 10)
  m_coefficient : mg "coefficient" = some (.ref (A 10))
  b_coefficient : Binds K (D 10) ["form", "unknown"] []
  F__law_cell : Fun K "_law_cell" "_law_cell" s__law_cell (A 11) (D 11)
  m__law_cell : mg "_law_cell" = some (.ref (A 11))
  b__law_cell : Binds K (D 11) ["script", "k"] []
  F__law_stream : Fun K "_law_stream" "_law_stream" s__law_stream (A 12) (D 12)
  m__law_stream : mg "_law_stream" = some (.ref (A 12))
  b__law_stream : Binds K (D 12) ["cell"] []
  F__law_next : Fun K "_law_next" "_law_next" s__law_next (A 13) (D 13)
  m__law_next : mg "_law_next" = some (.ref (A 13))
  b__law_next : Binds K (D 13) ["stream", "size"] []
  F__law_is_integer : Fun K "_law_is_integer" "_law_is_integer" s__law_is_integer (A 14) (D 14)
  m__law_is_integer : mg "_law_is_integer" = some (.ref (A 14))
  b__law_is_integer : Binds K (D 14) ["actual"] []
  F__law_ratio : Fun K "_law_ratio" "_law_ratio" s__law_ratio (A 15) (D 15)
  m__law_ratio : mg "_law_ratio" = some (.ref (A 15))
  b__law_ratio : Binds K (D 15) ["n", "d"] []
  F__law_is_number : Fun K "_law_is_number" "_law_is_number" s__law_is_number (A 16) (D 16)
  m__law_is_number : mg "_law_is_number" = some (.ref (A 16))
  b__law_is_number : Binds K (D 16) ["actual"] []
  F__law_small : Fun K "_law_small" "_law_small" s__law_small (A 17) (D 17)
  m__law_small : mg "_law_small" = some (.ref (A 17))
  b__law_small : Binds K (D 17) ["stream"] []
  F__law_form : Fun K "_law_form" "_law_form" s__law_form (A 18) (D 18)
  m__law_form : mg "_law_form" = some (.ref (A 18))
  b__law_form : Binds K (D 18) ["stream", "size"] []
  F__law_factor : Fun K "_law_factor" "_law_factor" s__law_factor (A 19) (D 19)
  m__law_factor : mg "_law_factor" = some (.ref (A 19))
  b__law_factor : Binds K (D 19) ["form", "unknown"] []
  F__law_sum : Fun K "_law_sum" "_law_sum" s__law_sum (A 20) (D 20)
  m__law_sum : mg "_law_sum" = some (.ref (A 20))
  b__law_sum : Binds K (D 20) ["a", "b"] []
  F__law_product : Fun K "_law_product" "_law_product" s__law_product (A 21) (D 21)
  m__law_product : mg "_law_product" = some (.ref (A 21))
  b__law_product : Binds K (D 21) ["a", "b"] []
  F__law_is_form : Fun K "_law_is_form" "_law_is_form" s__law_is_form (A 22) (D 22)
  m__law_is_form : mg "_law_is_form" = some (.ref (A 22))
  b__law_is_form : Binds K (D 22) ["actual", "size"] []
  F__law_moved : Fun K "_law_moved" "_law_moved" s__law_moved (A 23) (D 23)
  m__law_moved : mg "_law_moved" = some (.ref (A 23))
  b__law_moved : Binds K (D 23) ["form", "start", "stride"] []
  F_law : Fun K "law" "law" s_law (A 24) (D 24)
  m_law : mg "law" = some (.ref (A 24))
  b_law : Binds K (D 24) ["script"] []
  x_FontError : Z.ExcX K mg "FontError" (A 0)
  x_TooGreat : Z.ExcX K mg "TooGreat" (A 1)
  x_DivisionByZero : Z.ExcX K mg "DivisionByZero" (A 2)
  e_FontError_FontError : PySem.W.subIn K (.ref (A 0)) (.ref (A 0)) = some true
  e_FontError_TooGreat : PySem.W.subIn K (.ref (A 0)) (.ref (A 1)) = some false
  e_FontError_DivisionByZero : PySem.W.subIn K (.ref (A 0)) (.ref (A 2)) = some false
  e_TooGreat_FontError : PySem.W.subIn K (.ref (A 1)) (.ref (A 0)) = some true
  e_TooGreat_TooGreat : PySem.W.subIn K (.ref (A 1)) (.ref (A 1)) = some true
  e_TooGreat_DivisionByZero : PySem.W.subIn K (.ref (A 1)) (.ref (A 2)) = some false
  e_DivisionByZero_FontError : PySem.W.subIn K (.ref (A 2)) (.ref (A 0)) = some true
  e_DivisionByZero_TooGreat : PySem.W.subIn K (.ref (A 2)) (.ref (A 1)) = some false
  e_DivisionByZero_DivisionByZero : PySem.W.subIn K (.ref (A 2)) (.ref (A 2)) = some true
  z_abs : mg "abs" = none
  z_bool : mg "bool" = none
  z_dict : mg "dict" = none
  z_int : mg "int" = none
  z_isinstance : mg "isinstance" = none
  z_len : mg "len" = none
  z_list : mg "list" = none
  z_range : mg "range" = none
  z_sorted : mg "sorted" = none
  z_tuple : mg "tuple" = none
  l_gcd : mg "gcd" = some (.builtin "math.gcd")
  c_ZERO : mg "ZERO" = some (.ref (A 25))
  d_ZERO : ∀ H : Hp, Dp K H (.ref (A 25)) (.tuple [(.int (0)), (.int (1))])
  c_LIMIT : ∃ u, mg "LIMIT" = some u ∧ RelV (.int (1000000000000000000)) u
local macro_rules | `(tactic| walk_at "z1") => `(tactic| first
  | with_reducible refine z_seq ?_
  | with_reducible refine z_asg ?_
  | with_reducible refine z_asgS ?_
  | with_reducible refine z_ifs ?_
  | ((with_reducible refine' z_var ?h ?_); case h => with_unfolding_all exact rfl)
  | with_reducible refine z_c ?_
  | with_reducible refine z_op ?_
  | with_reducible refine z_un ?_
  | with_reducible refine z_I0 ?_
  | ((with_reducible refine z_I ?h ?_); case h => first | (exact Or.inr ⟨by decide, by decide⟩) | (exact Or.inl ⟨by decide, by decide⟩) | (show (0 : Int) < _; first | assumption | omega))
  | with_reducible refine z_U ?_
  | with_reducible refine z_eqI ?_
  | with_reducible refine z_neI ?_
  | with_reducible refine z_test ?_
  | with_reducible refine z_tB ?_
  | with_reducible refine z_bl ?_
  | with_reducible refine z_notT ?_
  | with_reducible refine z_andT ?_
  | with_reducible refine z_orT ?_
  | with_reducible refine z_andV ?_
  | with_reducible refine z_orV ?_
  | with_reducible refine z_notV ?_
  | with_reducible refine z_ifE ?_
  | with_reducible refine z_ifT ?_
  | with_reducible refine z_ifF ?_
  | with_reducible refine z_ifNT ?_
  | with_reducible refine z_ifNF ?_
  | with_reducible refine z_chain ?_
  | with_reducible refine z_nil ?_
  | with_reducible refine z_cons ?_
  | with_reducible refine z_tup ?_
  | with_reducible refine z_lst ?_
  | with_reducible refine z_cb ?_
  | with_reducible refine z_call ?_
  | with_reducible refine z_callS ?_
  | with_reducible refine z_int1 ?_
  | with_reducible refine z_int1b ?_
  | with_reducible refine z_abs ?_
  | with_reducible refine z_gcd ?_
  | with_reducible refine z_ret ?_
  | with_reducible refine z_retN ?_
  | with_reducible refine z_drop ?_
  | with_reducible refine z_next ?_
  | with_reducible refine z_brk ?_
  | with_reducible refine z_cont ?_
  | with_reducible refine z_par ?_
  | with_reducible refine z_two ?_
  | with_reducible refine z_asgT ?_
  | with_reducible refine z_sl ?_
  | with_reducible refine z_noPart ?_
  | with_reducible refine z_part ?_
  | with_reducible refine z_partI ?_
  | with_reducible refine z_gName ?_
  | with_reducible refine z_gcons ?_
  | with_reducible refine z_gnil ?_
  | ((with_reducible refine' z_up ?h ?hm ?_); (case h => walk_at "sq"); (case hm => exact rfl))
  | ((with_reducible refine' z_gT ?h ?hm ?_); (case h => walk_at "sq"); (case hm => exact rfl))
  | with_reducible refine z_isII ?_
  | with_reducible refine z_isNN ?_
  | with_reducible refine z_isNR ?_
  | with_reducible refine z_notNN ?_
  | with_reducible refine z_notNR ?_
  | with_reducible refine z_isIB ?_
  | with_reducible refine z_isBB ?_
  | ((with_reducible refine' z_isT ?h ?_); (case h => walk_at "sq"))
  | ((with_reducible refine' z_isLL ?h ?_); case h => assumption)
  | ((with_reducible refine z_newT ?h ?_); case h => exact Nat.le_of_ble_eq_true rfl)
  | ((with_reducible refine z_newL ?h ?_); case h => exact Nat.le_of_ble_eq_true rfl)
  | ((with_reducible refine' z_ixL ?h ?h2 ?_); (case h => walk_at "sq"); (case h2 => exact rfl))
  | ((with_reducible refine' z_ixT ?h ?h2 ?_); (case h => walk_at "sq"); (case h2 => exact rfl))
  | ((with_reducible refine' z_lenL ?h ?_); case h => walk_at "sq")
  | ((with_reducible refine' z_lenT ?h ?_); case h => walk_at "sq")
  | ((with_reducible refine z_ifYes ?h ?_); (case h => exact rfl))
  | ((with_reducible refine z_ifNo ?h ?_); (case h => exact rfl)))
local macro_rules | `(tactic| walk_at "sq") => `(tactic| first | assumption | exact Or.inl (Or.inl (by assumption)) | exact Or.inl (Or.inl upd_same))
local macro_rules | `(tactic| walk_at "z") => `(tactic| repeat (walk_at "z1"))
/-! ### promises -/
def sp__law_cell (K : PySem.W.Frag) : Sp := fun vs H Q _ => ∃ (l : Addr) (ns : List Int) (j : Nat), vs = [.ref l, .int (j : Int)] ∧ SqL K H l (ns.map V.int) ∧ ∀ v, Q (.int v) H
/-- a stream: three ints, whatever they are -/
def IsStm (H : Hp) (p : Addr) : Prop := ∃ a b m : Int, H p = some (.lst [.int a, .int b, .int m])
def sp__law_stream : Sp := fun vs H Q _ => ∃ c : Int, vs = [.int c] ∧ ∀ p H' a b m, H p = none → Same H H' → H' p = some (.lst [.int a, .int b, .int m]) → Q (.ref p) H'
def sp__law_next : Sp := fun vs H Q _ => ∃ (p : Addr) (z : Int), vs = [.ref p, .int z] ∧ IsStm H p ∧ 0 < z ∧ z.natAbs < 2 ^ 1000 ∧ ∀ v a b m, 0 ≤ v → v < z → Q (.int v) (upd H p (.lst [.int a, .int b, .int m]))
section
theorem ok__law_cell {P : Program} {w : World} {K : PySem.W.Frag} {mg : Str → Option Value} {base : Heap} {A : Nat → Addr} {D : Nat → FuncData} (T : Txt K mg A D) : FnOk P w K mg base (L2.CX P w) 1 (A 11) (D 11) ["script", "k"] (sp__law_cell K) := by
  refine T.F__law_cell.okX sc__law_cell (fun vs H Q E h => ?_) (fun cdv A' outer s H vs Q E hr h => ?_)
  · obtain ⟨l, ns, j, rfl, _⟩ := h
    rfl
  obtain ⟨l, ns, j, rfl, hS, q⟩ := h
  refine ⟨_, (pss_cons (ps_if (pt_cmpR op_lt (pv 1) (pe_callB Z.c_len (by rfl) T.z_len (by decide +kernel) (pa_cons (pv 0) pa_nil)) (nomark _))
  (pss_one (ps_ret (pe_ix ix_list (pv 0) (pv 1) (fun _ _ => rfl))))
  pss_nil)
  (pss_one (ps_ret pe_int))), ?_⟩
  walk_at "z"
  refine z_if (fun hj => ?_) (fun _ => ?_)
  · walk_at "z"
    rw [List.length_map] at hj
    have hj' : j < ns.length := by omega
    refine z_ixL hS (v := .int ns[j]) (atI_nat (by rw [List.getElem?_map, List.getElem?_eq_getElem hj']; rfl)) (q _)
  · walk_at "z"
    exact q 0
theorem ok__law_stream {P : Program} {w : World} {K : PySem.W.Frag} {mg : Str → Option Value} {base : Heap} {A : Nat → Addr} {D : Nat → FuncData} (T : Txt K mg A D) : FnOk P w K mg base (L2.CX P w) 1 (A 12) (D 12) ["cell"] sp__law_stream := by
  refine T.F__law_stream.okX sc__law_stream (fun vs H Q E h => ?_) (fun cdv A' outer s H vs Q E hr h => ?_)
  · obtain ⟨c, rfl, _⟩ := h
    rfl
  obtain ⟨c, rfl, q⟩ := h
  refine ⟨_, (pss_cons (ps_if (pt_cmpR op_ge (pv 0) (Z.pe_powc (v := 1000000000000000000) ⟨by decide, by decide, by decide⟩ (by decide)) (nomark _))
  (pss_one (ps_ret (pe_lst (pa_cons (pv 0) (pa_cons pe_int (pa_cons (pe_op op_mod (pe_callTy Z.c_int (by rfl) T.z_int (by decide +kernel) (pa_cons (pv 0) pa_nil)) pe_int) pa_nil))))))
  pss_nil)
  (pss_one (ps_ret (pe_lst (pa_cons pe_int (pa_cons pe_int (pa_cons (pe_op op_mod (pe_callTy Z.c_int (by rfl) T.z_int (by decide +kernel) (pa_cons (pv 0) pa_nil)) pe_int) pa_nil))))))), ?_⟩
  walk_at "z"
  refine z_if (fun hj => ?_) (fun _ => ?_)
  · walk_at "z"
    exact fun p H' hp s h => q p H' _ _ _ hp s h
  · walk_at "z"
    exact fun p H' hp s h => q p H' _ _ _ hp s h
theorem ok__law_next {P : Program} {w : World} {K : PySem.W.Frag} {mg : Str → Option Value} {base : Heap} {A : Nat → Addr} {D : Nat → FuncData} (T : Txt K mg A D) : FnOk P w K mg base (L2.CX P w) 1 (A 13) (D 13) ["stream", "size"] sp__law_next := by
  refine T.F__law_next.okX sc__law_next (fun vs H Q E h => ?_) (fun cdv A' outer s H vs Q E hr h => ?_)
  · obtain ⟨p, z, rfl, _⟩ := h
    rfl
  obtain ⟨p, z, rfl, ⟨a, b, m, hp⟩, hz, hz2, q⟩ := h
  refine ⟨_, (pss_cons (ps_if (pt_cmpR op_gt (pe_ix ix_list (pv 0) pe_int (fun _ _ => rfl)) pe_int (nomark _))
  (pss_cons (ps_set (i := 2) sc__law_next.nd rfl (.inl rfl) (pe_op op_mod (pe_callTy Z.c_int (by rfl) T.z_int (by decide +kernel) (pa_cons (pe_ix ix_list (pv 0) pe_int (fun _ _ => rfl)) pa_nil)) (pv 1)))
  (pss_cons (ps_asg (pe_op op_fdivW (pe_ix ix_list (pv 0) pe_int (fun _ _ => rfl)) (pv 1)) (pg_sub (pv 0) pe_int set_list))
  (pss_one (ps_ret (pv 2)))))
  pss_nil)
  (pss_cons (ps_asg (pe_op op_add (pe_ix ix_list (pv 0) pe_int (fun _ _ => rfl)) pe_int) (pg_sub (pv 0) pe_int set_list))
  (pss_cons (ps_set (i := 3) sc__law_next.nd rfl (.inl rfl) (pe_op op_mod (pe_callTy Z.c_int (by rfl) T.z_int (by decide +kernel) (pa_cons (pe_op op_add (pe_op op_mul (pe_ix ix_list (pv 0) pe_int (fun _ _ => rfl)) pe_int) (pe_op op_mul (pe_ix ix_list (pv 0) pe_int (fun _ _ => rfl)) pe_int)) pa_nil)) pe_int))
  (pss_cons (ps_set (i := 3) sc__law_next.nd rfl (.inl rfl) (pe_op op_mod (pe_callTy Z.c_int (by rfl) T.z_int (by decide +kernel) (pa_cons (pe_op op_add (pe_op op_mulW (pv 3) (pv 3)) (pe_op op_mul (pe_ix ix_list (pv 0) pe_int (fun _ _ => rfl)) pe_int)) pa_nil)) pe_int))
  (pss_cons (ps_set (i := 3) sc__law_next.nd rfl (.inl rfl) (pe_op op_mod (pe_callTy Z.c_int (by rfl) T.z_int (by decide +kernel) (pa_cons (pe_op op_add (pe_op op_mul (pv 3) pe_int) (pe_ix ix_list (pv 0) pe_int (fun _ _ => rfl))) pa_nil)) pe_int))
  (pss_one (ps_ret (pe_op op_mod (pe_callTy Z.c_int (by rfl) T.z_int (by decide +kernel) (pa_cons (pv 3) pa_nil)) (pv 1))))))))), ?_⟩
  walk_at "z"
  refine z_if (fun hj => ?_) (fun _ => ?_)
  · walk_at "z"
    refine z_I (wide_div hz hz2 (by decide) (by decide)) ?_
    walk_at "z"
    refine z_setL hp rfl ?_
    walk_at "z"
    exact q _ _ _ _ (Int.emod_nonneg _ (by omega)) (Int.emod_lt_of_pos _ hz)
  · walk_at "z"
    refine z_setL hp rfl ?_
    have hp1 : (upd H p (HO.lst ([V.int a, V.int b, V.int m].set (Int.toNat 1) (V.int (b + 1))))) p = some (.lst [V.int a, V.int (b + 1), V.int m]) := upd_same
    walk_at "z"
    refine z_I ?_ ?_
    · exact wide_mul (a := 32) (b := 32) (by omega) (by omega) (by decide) (by decide) (by decide)
    walk_at "z"
    exact q _ _ _ _ (Int.emod_nonneg _ (by omega)) (Int.emod_lt_of_pos _ hz)
end
def sp__law_is_integer : Sp := fun vs H Q _ => ∃ i, vs = [.int i] ∧ Q (.bl true) H
section
theorem ok__law_is_integer {P : Program} {w : World} {K : PySem.W.Frag} {mg : Str → Option Value} {base : Heap} {A : Nat → Addr} {D : Nat → FuncData} (T : Txt K mg A D) : FnOk P w K mg base (L2.CX P w) 1 (A 14) (D 14) ["actual"] sp__law_is_integer := by
  refine T.F__law_is_integer.okX sc__law_is_integer (fun vs H Q E h => ?_) (fun cdv A' outer s H vs Q E hr h => ?_)
  · obtain ⟨i, rfl, _⟩ := h
    rfl
  obtain ⟨i, rfl, q⟩ := h
  refine ⟨_, (pss_one (ps_ret (pe_and (pe_callB call_isi (by rfl) T.z_isinstance (by decide +kernel) (pa_cons (pv 0) (pa_cons (pe_bltn (v := .ty "int") (by rfl) T.z_int (by decide +kernel) rfl) pa_nil))) (pe_one (pe_not (pe_callB call_isi (by rfl) T.z_isinstance (by decide +kernel) (pa_cons (pv 0) (pa_cons (pe_bltn (v := .ty "bool") (by rfl) T.z_bool (by decide +kernel) rfl) pa_nil)))))))), ?_⟩
  walk_at "z"
  exact q
end
theorem isI {i : Int} {H : Hp} {Q : VK} {E : XK} (q : Q (.bl true) H) : sp__law_is_integer [.int i] H Q E := ⟨i, rfl, q⟩
local macro_rules | `(tactic| walk_at "z1") => `(tactic| with_reducible refine isI ?_)

/-! ### numbers in lowest terms -/
theorem gd_pos {n d : Int} (h : d ≠ 0) : 0 < gd n d := by
  unfold gd
  have : 0 < Nat.gcd n.natAbs d.natAbs := Nat.gcd_pos_of_pos_right _ (by omega)
  omega
theorem gd_dvd_l (n d : Int) : gd n d ∣ n := by
  unfold gd
  exact Int.dvd_trans (Int.natCast_dvd_natCast.mpr (Nat.gcd_dvd_left _ _)) (Int.natAbs_dvd_self)
theorem gd_dvd_r (n d : Int) : gd n d ∣ d := by
  unfold gd
  exact Int.dvd_trans (Int.natCast_dvd_natCast.mpr (Nat.gcd_dvd_right _ _)) (Int.natAbs_dvd_self)
theorem rd_pos {n d : Int} (h : d ≠ 0) : 0 < rd n d := by
  have g := gd_pos (n := n) h
  obtain ⟨k, hk⟩ := gd_dvd_r n d
  unfold rd
  split
  · rename_i hd
    have e : -d = gd n d * (-k) := by rw [Int.mul_neg, ← hk]
    rw [e, Int.mul_ediv_cancel_left _ (by omega)]
    have : ¬ 0 ≤ k := fun z => by have := Int.mul_nonneg (Int.le_of_lt g) z; omega
    omega
  · rename_i hd
    have e : d / gd n d = k := Int.ediv_eq_of_eq_mul_right (by omega) hk
    rw [e]
    have : ¬ k ≤ 0 := fun z => by have := Int.mul_nonpos_of_nonneg_of_nonpos (Int.le_of_lt g) z; omega
    omega
/-- what the program divides: by the negative of the common divisor where d is negative -/
theorem fdiv_neg {n g : Int} (hg : 0 < g) (h : g ∣ n) : Int.fdiv n (-g) = -n / g := by
  obtain ⟨k, rfl⟩ := h
  rw [show g * k = (-g) * (-k) by rw [Int.neg_mul_neg], Int.mul_fdiv_cancel_left _ (by omega), Int.neg_mul_neg, show -(g * k) = g * (-k) by rw [Int.mul_neg], Int.mul_ediv_cancel_left _ (by omega)]
theorem fdiv_pos {n g : Int} (hg : 0 < g) : Int.fdiv n g = n / g := Int.fdiv_eq_ediv_of_nonneg _ (by omega)
theorem gd_log {n d : Int} {k : Nat} (h : d ≠ 0) (hd : d.natAbs < 2 ^ k) : (gd n d).natAbs < 2 ^ k := by
  have : Nat.gcd n.natAbs d.natAbs ≤ d.natAbs := Nat.gcd_le_right _ (by omega)
  unfold gd
  omega
theorem cfd {j : Int} (h : j ≠ 0) (hj : j.natAbs < 2 ^ 1000) : CFd 0 j := ⟨h, Nat.lt_of_lt_of_le (PySem.Flt.log2_lt_of (by decide) hj) (by decide)⟩
theorem lt4 {a : Nat} (h : a < 2 ^ 400) : a < 2 ^ 1000 := Nat.lt_of_lt_of_le h (Nat.pow_le_pow_right (by decide) (by decide))
theorem lt1000 {a : Nat} (h : a < 2 ^ 100) : a < 2 ^ 1000 := Nat.lt_of_lt_of_le h (Nat.pow_le_pow_right (by decide) (by decide))
/-! ### ratio -/
/-- a value that stands for d is handed back -/
def RetD (K : PySem.W.Frag) (H : Hp) (d : PyData) (Q : VK) : Prop := ∀ v H', Same H H' → Dp K H' v d → Q v H'
def OutQ (K : PySem.W.Frag) (A : Nat → Addr) (r : Rat) (H : Hp) (Q : VK) (E : XK) : Prop := (¬ fitsQ r → E (.ref (A 1)) none H) ∧ (fitsQ r → RetD K H (qD r) Q)
def sp_ratio (K : PySem.W.Frag) (A : Nat → Addr) : Sp := fun vs H Q E => ∃ n d : Int, vs = [.int n, .int d] ∧ n.natAbs < 2 ^ 1000 ∧ d.natAbs < 2 ^ 1000 ∧ (d = 0 → E (.ref (A 2)) none H) ∧ (d ≠ 0 → OutQ K A (Rat.divInt n d) H Q E)
theorem fits_q {n d : Int} (h : d ≠ 0) : fitsQ (Rat.divInt n d) ↔ (-lim ≤ rn n d ∧ rn n d ≤ lim ∧ rd n d ≤ lim) := by
  rw [rn_q h, rd_q h]
  rfl
section
theorem ok_ratio {P : Program} {w : World} {K : PySem.W.Frag} {mg : Str → Option Value} {base : Heap} {A : Nat → Addr} {D : Nat → FuncData} (T : Txt K mg A D) : FnOk P w K mg base (L2.CX P w) 1 (A 3) (D 3) ["n", "d"] (sp_ratio K A) := by
  refine T.F_ratio.okX sc_ratio (fun vs H Q E h => ?_) (fun cdv A' outer s H vs Q E hr h => ?_)
  · obtain ⟨n, d, rfl, _⟩ := h
    rfl
  obtain ⟨n, d, rfl, hn, hd, k0, kO⟩ := h
  refine ⟨_, (pss_cons (ps_if (pt_cmpR op_eq (pv 1) pe_int (nomark _))
  (pss_one (ps_raise rfl (takes_of rfl rfl rfl rfl) (Z.pmk T.x_DivisionByZero (by rfl))))
  pss_nil)
  (pss_cons (ps_set (i := 2) sc_ratio.nd rfl (.inl rfl) (pe_callBfun cr_gcd (by rfl) T.l_gcd (pa_cons (pv 0) (pa_cons (pv 1) pa_nil))))
  (pss_cons (ps_if (pt_cmpR op_lt (pv 1) pe_int (nomark _))
  (pss_one (ps_set (i := 2) sc_ratio.nd rfl (.inl rfl) (pe_un un_neg (pv 2))))
  pss_nil)
  (pss_cons (ps_set (i := 3) sc_ratio.nd rfl (.inl rfl) (pe_op Z.op_fdivZ (pv 0) (pv 2)))
  (pss_cons (ps_set (i := 4) sc_ratio.nd rfl (.inl rfl) (pe_op Z.op_fdivZ (pv 1) (pv 2)))
  (pss_cons (ps_if (PW.pt (pw_or (pt_not (pt_chain op_le op_le (pe_un un_neg (Z.pe_globE T.c_LIMIT)) (pv 3) (Z.pe_globE T.c_LIMIT))) (pw_or1 (pt_cmpR op_gt (pv 4) (Z.pe_globE T.c_LIMIT) (nomark _)))))
  (pss_one (ps_raise rfl (takes_of rfl rfl rfl rfl) (Z.pmk T.x_TooGreat (by rfl))))
  pss_nil)
  (pss_one (ps_ret (pe_tup (pa_cons (pv 3) (pa_cons (pv 4) pa_nil))))))))))), ?_⟩
  walk_at "z"
  refine z_if (fun h0 => k0 h0) (fun h0 => ?_)
  walk_at "z"
  have hg := gd_pos (n := n) h0
  have hgl := gd_log (n := n) h0 hd
  have end1 : ¬ (-lim ≤ rn n d ∧ rn n d ≤ lim ∧ rd n d ≤ lim) → E (.ref (A 1)) none H := fun f => (kO h0).1 fun z => f ((fits_q h0).mp z)
  have end2 : (-lim ≤ rn n d ∧ rn n d ≤ lim ∧ rd n d ≤ lim) → ∀ p H', Same H H' → H' p = some (.tup [.int (rn n d), .int (rd n d)]) → Q (.ref p) H' := fun f p H' s h => (kO h0).2 ((fits_q h0).mpr f) (.ref p) H' s (dp_mkq (by rw [← rn_q h0, ← rd_q h0]; exact h))
  refine z_if (fun hd0 => ?_) (fun hd0 => ?_)
  · have e1 : Int.fdiv n (-((Nat.gcd n.natAbs d.natAbs : Nat) : Int)) = rn n d := by
      show Int.fdiv n (-gd n d) = rn n d
      rw [fdiv_neg hg (gd_dvd_l n d)]
      unfold rn
      rw [if_pos hd0]
    have e2 : Int.fdiv d (-((Nat.gcd n.natAbs d.natAbs : Nat) : Int)) = rd n d := by
      show Int.fdiv d (-gd n d) = rd n d
      rw [fdiv_neg hg (gd_dvd_r n d)]
      unfold rd
      rw [if_pos hd0]
    walk_at "z"
    refine z_I (show CFd _ (-gd n d) from cfd (by omega) (by omega)) ?_
    rw [e1]
    walk_at "z"
    refine z_I (show CFd _ (-gd n d) from cfd (by omega) (by omega)) ?_
    rw [e2]
    walk_at "z"
    refine z_if (fun c1 => ?_) (fun c1 => ?_)
    · walk_at "z"
      refine z_ifN (fun c2 => ?_) (fun c2 => ?_)
      · walk_at "z"
        exact end1 fun f => c2 f.2.1
      · walk_at "z"
        refine z_if (fun c3 => ?_) (fun c3 => ?_)
        · exact end1 fun f => by have := f.2.2; unfold lim at this; omega
        · walk_at "z"
          exact fun p H' _ s h => end2 ⟨c1, c2, by unfold lim; omega⟩ p H' s h
    · walk_at "z"
      exact end1 fun f => c1 f.1
  · have e1 : Int.fdiv n (((Nat.gcd n.natAbs d.natAbs : Nat) : Int)) = rn n d := by
      show Int.fdiv n (gd n d) = rn n d
      rw [fdiv_pos hg]
      unfold rn
      rw [if_neg hd0]
    have e2 : Int.fdiv d (((Nat.gcd n.natAbs d.natAbs : Nat) : Int)) = rd n d := by
      show Int.fdiv d (gd n d) = rd n d
      rw [fdiv_pos hg]
      unfold rd
      rw [if_neg hd0]
    walk_at "z"
    refine z_I (show CFd _ (gd n d) from cfd (by omega) (by omega)) ?_
    rw [e1]
    walk_at "z"
    refine z_I (show CFd _ (gd n d) from cfd (by omega) (by omega)) ?_
    rw [e2]
    walk_at "z"
    refine z_if (fun c1 => ?_) (fun c1 => ?_)
    · walk_at "z"
      refine z_ifN (fun c2 => ?_) (fun c2 => ?_)
      · walk_at "z"
        exact end1 fun f => c2 f.2.1
      · walk_at "z"
        refine z_if (fun c3 => ?_) (fun c3 => ?_)
        · exact end1 fun f => by have := f.2.2; unfold lim at this; omega
        · walk_at "z"
          exact fun p H' _ s h => end2 ⟨c1, c2, by unfold lim; omega⟩ p H' s h
    · walk_at "z"
      exact end1 fun f => c1 f.1
end

/-! ### the law's own Euclid -/
structure Eu (M : Nat) (G i a b : Nat) : Prop where
  g : Nat.gcd a b = G
  o : (i = 0 ∧ a * b = M) ∨ (b < a ∧ a * b * 2 ^ i ≤ 2 * M)
theorem Eu.start {a b : Nat} : Eu (a * b) (Nat.gcd a b) 0 a b := ⟨rfl, .inl ⟨rfl, rfl⟩⟩
theorem Eu.next {M G i a b : Nat} (h : Eu M G i a b) (hb : b ≠ 0) : Eu M G (i + 1) b (a % b) := by
  have hlt : a % b < b := Nat.mod_lt _ (by omega)
  refine ⟨?_, .inr ⟨hlt, ?_⟩⟩
  · rw [← h.g, Nat.gcd_comm a b, Nat.gcd_comm b (a % b)]
    exact (Nat.gcd_rec b a).symm
  · have hm : a * b * 2 ^ i ≤ 2 * M := by
      rcases h.o with ⟨z, w⟩ | ⟨_, w⟩
      · subst z
        rw [w]
        omega
      · exact w
    by_cases hab : a < b
    · have e : a % b = a := Nat.mod_eq_of_lt hab
      have hi : i = 0 ∧ a * b = M := by
        rcases h.o with z | z
        · exact z
        · omega
      obtain ⟨rfl, w⟩ := hi
      rw [e, Nat.mul_comm b a, w]
      omega
    · have h2 : 2 * (a % b) ≤ a := by
        have h3 : a % b ≤ a - b := by
          rw [Nat.mod_eq_sub_mod (by omega)]
          exact Nat.mod_le _ _
        omega
      have h4 : b * (a % b) * 2 ≤ a * b := by
        rw [Nat.mul_assoc, Nat.mul_comm (a % b) 2, Nat.mul_comm a b]
        exact Nat.mul_le_mul_left b h2
      calc b * (a % b) * 2 ^ (i + 1) = (b * (a % b) * 2) * 2 ^ i := by rw [Nat.pow_succ, Nat.mul_comm (2 ^ i) 2, ← Nat.mul_assoc]
        _ ≤ (a * b) * 2 ^ i := Nat.mul_le_mul_right _ h4
        _ ≤ 2 * M := hm
set_option exponentiation.threshold 2000 in
theorem Eu.zero {G a b x y : Nat} (h : Eu (x * y) G 1000 a b) (hx : x < 2 ^ 400) (hy : y < 2 ^ 400) : b = 0 := by
  have h1 : x * y < 2 ^ 400 * 2 ^ 400 := Nat.mul_lt_mul'' hx hy
  rcases h.o with ⟨z, _⟩ | ⟨w, h2⟩
  · omega
  have h3 : a * b = 0 := by
    rcases Nat.eq_zero_or_pos (a * b) with z | z
    · exact z
    · have : 2 ^ 1000 ≤ a * b * 2 ^ 1000 := Nat.le_mul_of_pos_left _ z
      have e : 2 * (2 ^ 400 * 2 ^ 400) < 2 ^ 1000 := by decide
      omega
  rcases Nat.mul_eq_zero.mp h3 with z | z
  · omega
  · exact z
def sp__law_ratio (K : PySem.W.Frag) : Sp := fun vs H Q _ => ∃ n d : Int, vs = [.int n, .int d] ∧ d ≠ 0 ∧ n.natAbs < 2 ^ 400 ∧ d.natAbs < 2 ^ 400 ∧ RetD K H (qD (Rat.divInt n d)) Q
theorem abs_eq (n : Int) : (if n < 0 then -n else n) = (n.natAbs : Int) := by
  split <;> omega
section
theorem ok__law_ratio {P : Program} {w : World} {K : PySem.W.Frag} {mg : Str → Option Value} {base : Heap} {A : Nat → Addr} {D : Nat → FuncData} (T : Txt K mg A D) : FnOk P w K mg base (L2.CX P w) 1 (A 15) (D 15) ["n", "d"] (sp__law_ratio K) := by
  refine T.F__law_ratio.okX sc__law_ratio (fun vs H Q E h => ?_) (fun cdv A' outer s H vs Q E hr h => ?_)
  · obtain ⟨n, d, rfl, _⟩ := h
    rfl
  obtain ⟨n, d, rfl, h0, hn, hd, q⟩ := h
  refine ⟨_, (pss_cons (ps_set (i := 2) sc__law_ratio.nd rfl (.inl rfl) (pe_callB Z.c_abs (by rfl) T.z_abs (by decide +kernel) (pa_cons (pv 0) pa_nil)))
  (pss_cons (ps_set (i := 3) sc__law_ratio.nd rfl (.inl rfl) (pe_callB Z.c_abs (by rfl) T.z_abs (by decide +kernel) (pa_cons (pv 1) pa_nil)))
  (pss_cons (ps_for (passes_of rfl) rfl (pi_range1 (by rfl) T.z_range (pa_cons pe_int pa_nil)) (pg_name (i := 4) sc__law_ratio.nd rfl (.inl rfl))
  (pss_cons (ps_if (pt_cmpR op_eq (pv 3) pe_int (nomark _))
  (pss_one ps_break)
  pss_nil)
  (pss_one (ps_par (i := 2) (j := 3) (by rfl) sc__law_ratio.nd rfl rfl (by decide) rfl rfl (pa_cons (pv 3) (pa_cons (pe_op op_mod (pe_callTy Z.c_int (by rfl) T.z_int (by decide +kernel) (pa_cons (pv 2) pa_nil)) (pv 3)) pa_nil)) (by rfl)))))
  (pss_cons (ps_if (pt_cmpR op_lt (pv 1) pe_int (nomark _))
  (pss_one (ps_set (i := 0) sc__law_ratio.nd rfl (.inl rfl) (pe_op op_sub pe_int (pv 0))))
  pss_nil)
  (pss_one (ps_ret (pe_tup (pa_cons (pe_op op_fdivW (pv 0) (pv 2)) (pa_cons (pe_op op_fdivW (pe_callB Z.c_abs (by rfl) T.z_abs (by decide +kernel) (pa_cons (pv 1) pa_nil)) (pv 2)) pa_nil))))))))), ?_⟩
  walk_at "z"
  rw [abs_eq, abs_eq]
  have fin : ∀ (σ' : L2.St) (kv : Option V), σ' = [some (.int n), some (.int d), some (.int (gd n d)), some (.int 0), kv] →
      (tSeq (tIfS (tTest (tOp (rI0 fun i j => V.bl (decide (i < j))) (tVar 1) (tC (V.int 0)))) (tAsg (tOp (rI0 fun i j => V.int (i - j)) (tC (V.int 0)) (tVar 0)) (gName 0)) tNext)
          (tRet (tTup (tCons (tOp (rI CDivW fun i j => V.int (i / j)) (tVar 0) (tVar 2)) (tCons (tOp (rI CDivW fun i j => V.int (i / j)) (tCB rAbs (tCons (tVar 1) tNil)) (tVar 2)) tNil))))
          { nx := fun x H' => Q V.non H', rt := Q }) σ' H := by
    rintro σ' kv rfl
    have hg := gd_pos (n := n) h0
    have hgl := gd_log (n := n) h0 hd
    walk_at "z"
    refine z_if (fun c => ?_) (fun c => ?_)
    · walk_at "z"
      refine z_I (wide_div hg hgl (by decide) (by decide)) ?_
      walk_at "z"
      refine z_I (wide_div hg hgl (by decide) (by decide)) ?_
      walk_at "z"
      have e1 : (0 - n) / gd n d = rn n d := by
        unfold rn
        rw [if_pos c, Int.zero_sub]
      have e2 : (if d < 0 then -d else d) / gd n d = rd n d := rfl
      rw [e1, e2]
      exact fun p H' _ s h => q (.ref p) H' s (dp_mkq (by rw [← rn_q h0, ← rd_q h0]; exact h))
    · walk_at "z"
      refine z_I (wide_div hg hgl (by decide) (by decide)) ?_
      walk_at "z"
      refine z_I (wide_div hg hgl (by decide) (by decide)) ?_
      walk_at "z"
      have e1 : n / gd n d = rn n d := by
        unfold rn
        rw [if_neg c]
      have e2 : (if d < 0 then -d else d) / gd n d = rd n d := rfl
      rw [e1, e2]
      exact fun p H' _ s h => q (.ref p) H' s (dp_mkq (by rw [← rn_q h0, ← rd_q h0]; exact h))
  refine z_forR1 1000 (by decide) (fun R q => by walk_at "z"; exact q) (fun i σ' H' => H' = H ∧ ∃ (a b : Nat) (kv : Option V), σ' = [some (.int n), some (.int d), some (.int (a : Int)), some (.int (b : Int)), kv] ∧ Eu (n.natAbs * d.natAbs) (Nat.gcd n.natAbs d.natAbs) i a b)
    ⟨rfl, _, _, _, rfl, Eu.start⟩ ?_ ?_
  · rintro i σ' H' hi ⟨rfl, a, b, kv, rfl, eu⟩
    walk_at "z"
    refine z_if (fun c => ?_) (fun c => ?_)
    · walk_at "z1"
      have hb : b = 0 := by omega
      subst hb
      have ha : a = Nat.gcd n.natAbs d.natAbs := by rw [← eu.g, Nat.gcd_zero_right]
      subst ha
      exact fin _ _ rfl
    · walk_at "z"
      refine ⟨rfl, b, a % b, some (.int (i : Int)), ?_, eu.next (by omega)⟩
      rw [Int.natCast_emod]
      rfl
  · rintro σ' H' ⟨rfl, a, b, kv, rfl, eu⟩
    have hb := eu.zero hn hd
    subst hb
    have ha : a = Nat.gcd n.natAbs d.natAbs := by rw [← eu.g, Nat.gcd_zero_right]
    subst ha
    exact fin _ _ rfl
end

def sp__law_is_number (K : PySem.W.Frag) : Sp := fun vs H Q _ => ∃ (v : V) (r : Rat), vs = [v] ∧ Dp K H v (qD r) ∧ Q (.bl true) H
section
theorem ok__law_is_number {P : Program} {w : World} {K : PySem.W.Frag} {mg : Str → Option Value} {base : Heap} {A : Nat → Addr} {D : Nat → FuncData} (T : Txt K mg A D) : FnOk P w K mg base (L2.CX P w) 2 (A 16) (D 16) ["actual"] (sp__law_is_number K) := by
  refine T.F__law_is_number.okX sc__law_is_number (fun vs H Q E h => ?_) (fun cdv A' outer s H vs Q E hr h => ?_)
  · obtain ⟨v, r, rfl, _⟩ := h
    rfl
  obtain ⟨v, r, rfl, hv, q⟩ := h
  obtain ⟨p, rfl, hp⟩ := dp_q hv
  refine ⟨_, (pss_cons (ps_if (PW.pt (pw_or (pt_not (pt_val (pe_callB call_isi (by rfl) T.z_isinstance (by decide +kernel) (pa_cons (pv 0) (pa_cons (pe_bltn (v := .ty "tuple") (by rfl) T.z_tuple (by decide +kernel) rfl) pa_nil))))) (pw_or1 (pt_cmpR op_ne (pe_callB Z.c_len (by rfl) T.z_len (by decide +kernel) (pa_cons (pv 0) pa_nil)) pe_int (nomark _)))))
  (pss_one (ps_ret pe_bl))
  pss_nil)
  (pss_one (ps_ret (pe_and (pe_call (ok__law_is_integer T) (hr.mono (by decide)) (by rfl) T.m__law_is_integer T.F__law_is_integer.kp T.b__law_is_integer .nil (passes_call (takes_of rfl rfl rfl rfl) (fun _ _ _ _ h => h)) (pa_cons (pe_ix ix_tup (pv 0) pe_int (fun _ _ => rfl)) pa_nil)) (pe_one (pe_call (ok__law_is_integer T) (hr.mono (by decide)) (by rfl) T.m__law_is_integer T.F__law_is_integer.kp T.b__law_is_integer .nil (passes_call (takes_of rfl rfl rfl rfl) (fun _ _ _ _ h => h)) (pa_cons (pe_ix ix_tup (pv 0) pe_int (fun _ _ => rfl)) pa_nil))))))), ?_⟩
  walk_at "z"
  exact q
end

/-! ### the draws of a law: the heap H0 stands, a stream stands at p -/
structure Sd (H0 H : Hp) (p : Addr) : Prop where
  same : Same H0 H
  fresh : H0 p = none
  stm : IsStm H p
theorem Sd.mk0 {H H' : Hp} {p : Addr} {a b m : Int} (h : H p = none) (s : Same H H') (e : H' p = some (.lst [.int a, .int b, .int m])) : Sd H H' p := ⟨s, h, a, b, m, e⟩
theorem Sd.mono {H0 H H' : Hp} {p : Addr} (S : Sd H0 H p) (s : Same H H') : Sd H0 H' p := by
  obtain ⟨a, b, m, e⟩ := S.stm
  exact ⟨S.same.trans s, S.fresh, a, b, m, s _ _ e⟩
theorem nx {H0 H : Hp} {p : Addr} {z : Int} {Q : VK} {E : XK} (S : Sd H0 H p) (hz : 0 < z) (hz2 : z.natAbs < 2 ^ 1000) (q : ∀ v H', 0 ≤ v → v < z → Sd H0 H' p → (∀ b, b ≠ p → H' b = H b) → Q (.int v) H') : sp__law_next [.ref p, .int z] H Q E := by
  refine ⟨p, z, rfl, S.stm, hz, hz2, fun v a b m h0 h1 => q v _ h0 h1 ⟨fun c o e => ?_, S.fresh, a, b, m, upd_same⟩ fun b hb => upd_ne hb⟩
  rw [upd_ne (ne_of_none e S.fresh)]
  exact S.same c o e
theorem Sd.ext {H0 H : Hp} {p q : Addr} {o : HO} (S : Sd H0 H p) (h : H q = none) : Sd H0 (upd H q o) p := by
  obtain ⟨a, b, m, hp⟩ := S.stm
  exact ⟨S.same.trans (same_upd h), S.fresh, a, b, m, by rw [upd_ne (ne_of_none hp h)]; exact hp⟩
theorem kp_refl {p : Addr} {H : Hp} : Kp p H H := fun _ _ _ e => e
theorem _root_.Z.Kp.trans' {p : Addr} {H H1 H2 : Hp} (a : Kp p H H1) (b : Kp p H1 H2) : Kp p H H2 := fun c o h e => b c o h (a c o h e)
theorem kp_eq {p : Addr} {H H' : Hp} (k : ∀ b, b ≠ p → H' b = H b) : Kp p H H' := fun b o h e => by
  rw [k b h]
  exact e
theorem kp_of {p : Addr} {H H' : Hp} (s : Same H H') : Kp p H H' := fun b x _ e => s b x e
theorem Sd.ne {H0 H : Hp} {p q : Addr} {xs : List V} (S : Sd H0 H p) (h : H q = some (.tup xs)) : q ≠ p := by
  obtain ⟨_, _, _, e⟩ := S.stm
  exact ne_of h e (by intro z; cases z)
theorem Sd.ne0 {H0 H : Hp} {p q : Addr} (S : Sd H0 H p) (h : H q = none) : q ≠ p := by
  obtain ⟨_, _, _, e⟩ := S.stm
  exact Ne.symm (ne_of_none e h)
theorem lt400 {a : Nat} (h : a < 2 ^ 100) : a < 2 ^ 400 := Nat.lt_of_lt_of_le h (Nat.pow_le_pow_right (by decide) (by decide))
theorem kp_sd {H0 H H' : Hp} {p : Addr} {K : PySem.W.Frag} {v : V} {d : PyData} (S : Sd H0 H p) (k : Kp p H H') (t : tupOnly d = true) (h : Dp K H v d) : Dp K H' v d := by
  obtain ⟨a, b, m, e⟩ := S.stm
  exact dp_kp k e t h
/-! ### the four operations, and comparing -/
def Bg (r : Rat) : Prop := r.num.natAbs < 2 ^ 200 ∧ r.den < 2 ^ 200
theorem _root_.Z.Bd.bg {r : Rat} {p q : Nat} (h : Bd r p q) (h1 : p < 2 ^ 200) (h2 : q < 2 ^ 200) : Bg r := ⟨Nat.lt_of_le_of_lt h.1 h1, Nat.lt_of_le_of_lt h.2 h2⟩
theorem fits_bg {r : Rat} (h : fitsQ r) : Bg r := by
  unfold fitsQ lim at h
  unfold Bg
  omega
theorem mul600 {a b : Int} (ha : a.natAbs < 2 ^ 200) (hb : b.natAbs < 2 ^ 200) : (a * b).natAbs < 2 ^ 400 := wide_lt ha hb
theorem add600 {a b : Int} (ha : a.natAbs < 2 ^ 400) (hb : b.natAbs < 2 ^ 400) : (a + b).natAbs < 2 ^ 1000 := by
  have h1 : (a + b).natAbs ≤ a.natAbs + b.natAbs := Int.natAbs_add_le a b
  have h2 : (2 : Nat) ^ 400 + 2 ^ 400 ≤ 2 ^ 1000 := by
    rw [show (2 : Nat) ^ 400 + 2 ^ 400 = 2 ^ 401 by rw [← Nat.two_mul, ← Nat.pow_succ']]
    exact Nat.pow_le_pow_right (by decide) (by decide)
  omega
theorem sub600 {a b : Int} (ha : a.natAbs < 2 ^ 400) (hb : b.natAbs < 2 ^ 400) : (a - b).natAbs < 2 ^ 1000 := by
  rw [Int.sub_eq_add_neg]
  exact add600 ha (by rw [Int.natAbs_neg]; exact hb)
theorem nat200 {n : Nat} (h : n < 2 ^ 200) : ((n : Int)).natAbs < 2 ^ 200 := by omega
def sp_op (K : PySem.W.Frag) (A : Nat → Addr) (f : Rat → Rat → Rat) : Sp := fun vs H Q E => ∃ (v w : V) (a b : Rat), vs = [v, w] ∧ Dp K H v (qD a) ∧ Dp K H w (qD b) ∧ Bg a ∧ Bg b ∧ OutQ K A (f a b) H Q E
def sp_divide (K : PySem.W.Frag) (A : Nat → Addr) : Sp := fun vs H Q E => ∃ (v w : V) (a b : Rat), vs = [v, w] ∧ Dp K H v (qD a) ∧ Dp K H w (qD b) ∧ Bg a ∧ Bg b ∧ (b = 0 → E (.ref (A 2)) none H) ∧ (b ≠ 0 → OutQ K A (a / b) H Q E)
theorem rat_use {K : PySem.W.Frag} {A : Nat → Addr} {n d : Int} {H : Hp} {Q : VK} {E : XK} (hn : n.natAbs < 2 ^ 1000) (hd : d.natAbs < 2 ^ 1000) (h0 : d ≠ 0) (k : OutQ K A (Rat.divInt n d) H Q E) : sp_ratio K A [.int n, .int d] H Q E := ⟨n, d, rfl, hn, hd, fun z => absurd z h0, fun _ => k⟩
def cmpQ (a b : Rat) : Int := if a < b then -1 else if b < a then 1 else 0
def sp_compare (K : PySem.W.Frag) : Sp := fun vs H Q _ => ∃ (v w : V) (a b : Rat), vs = [v, w] ∧ Dp K H v (qD a) ∧ Dp K H w (qD b) ∧ Bg a ∧ Bg b ∧ Q (.int (cmpQ a b)) H

section
theorem ok_add {P : Program} {w : World} {K : PySem.W.Frag} {mg : Str → Option Value} {base : Heap} {A : Nat → Addr} {D : Nat → FuncData} (T : Txt K mg A D) : FnOk P w K mg base (L2.CX P w) 2 (A 4) (D 4) ["a", "b"] (sp_op K A (· + ·)) := by
  refine T.F_add.okX sc_add (fun vs H Q E h => ?_) (fun cdv A' outer s H vs Q E hr h => ?_)
  · obtain ⟨v, w', a, b, rfl, _⟩ := h
    rfl
  obtain ⟨_, _, a, b, rfl, ha, hb, ga, gb, q⟩ := h
  obtain ⟨p, rfl, hp⟩ := dp_q ha
  obtain ⟨p2, rfl, hp2⟩ := dp_q hb
  refine ⟨_, (pss_one (ps_ret (pe_call (ok_ratio T) (hr.mono (by decide)) (by rfl) T.m_ratio T.F_ratio.kp T.b_ratio .nil (passes_call (takes_of rfl rfl rfl rfl) (fun _ _ _ _ h => h)) (pa_cons (pe_op op_add (pe_op op_mulW (pe_ix ix_tup (pv 0) pe_int (fun _ _ => rfl)) (pe_ix ix_tup (pv 1) pe_int (fun _ _ => rfl))) (pe_op op_mulW (pe_ix ix_tup (pv 1) pe_int (fun _ _ => rfl)) (pe_ix ix_tup (pv 0) pe_int (fun _ _ => rfl)))) (pa_cons (pe_op op_mulW (pe_ix ix_tup (pv 0) pe_int (fun _ _ => rfl)) (pe_ix ix_tup (pv 1) pe_int (fun _ _ => rfl))) pa_nil))))), ?_⟩
  walk_at "z"
  refine z_I (wide_mul ga.1 (nat200 gb.2) (by decide) (by decide) (by decide)) ?_
  walk_at "z"
  refine z_I (wide_mul gb.1 (nat200 ga.2) (by decide) (by decide) (by decide)) ?_
  walk_at "z"
  refine z_I (wide_mul (nat200 ga.2) (nat200 gb.2) (by decide) (by decide) (by decide)) ?_
  walk_at "z"
  have q : OutQ K A (a + b) H Q E := q
  rw [show a + b = _ from q_add a b] at q
  exact rat_use (add600 (mul600 ga.1 (nat200 gb.2)) (mul600 gb.1 (nat200 ga.2))) (lt4 (mul600 (nat200 ga.2) (nat200 gb.2))) (q_dd a b) q
end


section
theorem ok_multiply {P : Program} {w : World} {K : PySem.W.Frag} {mg : Str → Option Value} {base : Heap} {A : Nat → Addr} {D : Nat → FuncData} (T : Txt K mg A D) : FnOk P w K mg base (L2.CX P w) 2 (A 5) (D 5) ["a", "b"] (sp_op K A (· * ·)) := by
  refine T.F_multiply.okX sc_multiply (fun vs H Q E h => ?_) (fun cdv A' outer s H vs Q E hr h => ?_)
  · obtain ⟨v, w', a, b, rfl, _⟩ := h
    rfl
  obtain ⟨_, _, a, b, rfl, ha, hb, ga, gb, q⟩ := h
  obtain ⟨p, rfl, hp⟩ := dp_q ha
  obtain ⟨p2, rfl, hp2⟩ := dp_q hb
  refine ⟨_, (pss_one (ps_ret (pe_call (ok_ratio T) (hr.mono (by decide)) (by rfl) T.m_ratio T.F_ratio.kp T.b_ratio .nil (passes_call (takes_of rfl rfl rfl rfl) (fun _ _ _ _ h => h)) (pa_cons (pe_op op_mulW (pe_ix ix_tup (pv 0) pe_int (fun _ _ => rfl)) (pe_ix ix_tup (pv 1) pe_int (fun _ _ => rfl))) (pa_cons (pe_op op_mulW (pe_ix ix_tup (pv 0) pe_int (fun _ _ => rfl)) (pe_ix ix_tup (pv 1) pe_int (fun _ _ => rfl))) pa_nil))))), ?_⟩
  walk_at "z"
  refine z_I (wide_mul ga.1 gb.1 (by decide) (by decide) (by decide)) ?_
  walk_at "z"
  refine z_I (wide_mul (nat200 ga.2) (nat200 gb.2) (by decide) (by decide) (by decide)) ?_
  walk_at "z"
  have q : OutQ K A (a * b) H Q E := q
  rw [show a * b = _ from q_mul a b] at q
  exact rat_use (lt4 (mul600 ga.1 gb.1)) (lt4 (mul600 (nat200 ga.2) (nat200 gb.2))) (q_dd a b) q
end



/-! ### points and transforms -/
def pD (x y : Rat) : PyData := .tuple [qD x, qD y]
def tD (tx ty xx xy yx yy : Rat) : PyData := .tuple [qD tx, qD ty, qD xx, qD xy, qD yx, qD yy]
def Bl (r : Rat) : Prop := r.num.natAbs < 2 ^ 190 ∧ r.den < 2 ^ 190
theorem _root_.Z.Bd.bl {r : Rat} {p q : Nat} (h : Bd r p q) (h1 : p < 2 ^ 190) (h2 : q < 2 ^ 190) : Bl r := ⟨Nat.lt_of_le_of_lt h.1 h1, Nat.lt_of_le_of_lt h.2 h2⟩
theorem Bl.mul {a b : Int} (ha : a.natAbs < 2 ^ 190) (hb : b.natAbs < 2 ^ 190) : (a * b).natAbs < 2 ^ 380 := wide_lt ha hb
theorem lt380 {a : Nat} (h : a < 2 ^ 380) : a < 2 ^ 400 := Nat.lt_of_lt_of_le h (Nat.pow_le_pow_right (by decide) (by decide))
theorem Bl.add {a b : Int} (ha : a.natAbs < 2 ^ 380) (hb : b.natAbs < 2 ^ 380) : (a + b).natAbs < 2 ^ 400 := by
  have h1 : (a + b).natAbs ≤ a.natAbs + b.natAbs := Int.natAbs_add_le a b
  have h2 : (2 : Nat) ^ 380 + 2 ^ 380 ≤ 2 ^ 400 := by
    rw [show (2 : Nat) ^ 380 + 2 ^ 380 = 2 ^ 381 by rw [← Nat.two_mul, ← Nat.pow_succ']]
    exact Nat.pow_le_pow_right (by decide) (by decide)
  omega
theorem Bl.sub {a b : Int} (ha : a.natAbs < 2 ^ 380) (hb : b.natAbs < 2 ^ 380) : (a - b).natAbs < 2 ^ 400 := by
  rw [Int.sub_eq_add_neg]
  exact Bl.add ha (by rw [Int.natAbs_neg]; exact hb)
theorem nat190 {n : Nat} (h : n < 2 ^ 190) : ((n : Int)).natAbs < 2 ^ 190 := by omega
/-- the law's own operations -/
def sp_lop (K : PySem.W.Frag) (f : Rat → Rat → Rat) : Sp := fun vs H Q _ => ∃ (v w : V) (a b : Rat), vs = [v, w] ∧ Dp K H v (qD a) ∧ Dp K H w (qD b) ∧ Bl a ∧ Bl b ∧ RetD K H (qD (f a b)) Q
section
theorem ok__law_sum {P : Program} {w : World} {K : PySem.W.Frag} {mg : Str → Option Value} {base : Heap} {A : Nat → Addr} {D : Nat → FuncData} (T : Txt K mg A D) : FnOk P w K mg base (L2.CX P w) 2 (A 20) (D 20) ["a", "b"] (sp_lop K (· + ·)) := by
  refine T.F__law_sum.okX sc__law_sum (fun vs H Q E h => ?_) (fun cdv A' outer s H vs Q E hr h => ?_)
  · obtain ⟨v, w', a, b, rfl, _⟩ := h
    rfl
  obtain ⟨_, _, a, b, rfl, ha, hb, ga, gb, q⟩ := h
  obtain ⟨p, rfl, hp⟩ := dp_q ha
  obtain ⟨p2, rfl, hp2⟩ := dp_q hb
  refine ⟨_, (pss_one (ps_ret (pe_call (ok__law_ratio T) (hr.mono (by decide)) (by rfl) T.m__law_ratio T.F__law_ratio.kp T.b__law_ratio .nil (passes_call (takes_of rfl rfl rfl rfl) (fun _ _ _ _ h => h)) (pa_cons (pe_op op_add (pe_op op_mulW (pe_ix ix_tup (pv 0) pe_int (fun _ _ => rfl)) (pe_ix ix_tup (pv 1) pe_int (fun _ _ => rfl))) (pe_op op_mulW (pe_ix ix_tup (pv 1) pe_int (fun _ _ => rfl)) (pe_ix ix_tup (pv 0) pe_int (fun _ _ => rfl)))) (pa_cons (pe_op op_mulW (pe_ix ix_tup (pv 0) pe_int (fun _ _ => rfl)) (pe_ix ix_tup (pv 1) pe_int (fun _ _ => rfl))) pa_nil))))), ?_⟩
  walk_at "z"
  refine z_I (wide_mul ga.1 (nat190 gb.2) (by decide) (by decide) (by decide)) ?_
  walk_at "z"
  refine z_I (wide_mul gb.1 (nat190 ga.2) (by decide) (by decide) (by decide)) ?_
  walk_at "z"
  refine z_I (wide_mul (nat190 ga.2) (nat190 gb.2) (by decide) (by decide) (by decide)) ?_
  walk_at "z"
  have q : RetD K H (qD (a + b)) Q := q
  rw [q_add a b] at q
  exact ⟨_, _, rfl, q_dd a b, Bl.add (Bl.mul ga.1 (nat190 gb.2)) (Bl.mul gb.1 (nat190 ga.2)), lt380 (Bl.mul (nat190 ga.2) (nat190 gb.2)), q⟩


theorem ok__law_product {P : Program} {w : World} {K : PySem.W.Frag} {mg : Str → Option Value} {base : Heap} {A : Nat → Addr} {D : Nat → FuncData} (T : Txt K mg A D) : FnOk P w K mg base (L2.CX P w) 2 (A 21) (D 21) ["a", "b"] (sp_lop K (· * ·)) := by
  refine T.F__law_product.okX sc__law_product (fun vs H Q E h => ?_) (fun cdv A' outer s H vs Q E hr h => ?_)
  · obtain ⟨v, w', a, b, rfl, _⟩ := h
    rfl
  obtain ⟨_, _, a, b, rfl, ha, hb, ga, gb, q⟩ := h
  obtain ⟨p, rfl, hp⟩ := dp_q ha
  obtain ⟨p2, rfl, hp2⟩ := dp_q hb
  refine ⟨_, (pss_one (ps_ret (pe_call (ok__law_ratio T) (hr.mono (by decide)) (by rfl) T.m__law_ratio T.F__law_ratio.kp T.b__law_ratio .nil (passes_call (takes_of rfl rfl rfl rfl) (fun _ _ _ _ h => h)) (pa_cons (pe_op op_mulW (pe_ix ix_tup (pv 0) pe_int (fun _ _ => rfl)) (pe_ix ix_tup (pv 1) pe_int (fun _ _ => rfl))) (pa_cons (pe_op op_mulW (pe_ix ix_tup (pv 0) pe_int (fun _ _ => rfl)) (pe_ix ix_tup (pv 1) pe_int (fun _ _ => rfl))) pa_nil))))), ?_⟩
  walk_at "z"
  refine z_I (wide_mul ga.1 gb.1 (by decide) (by decide) (by decide)) ?_
  walk_at "z"
  refine z_I (wide_mul (nat190 ga.2) (nat190 gb.2) (by decide) (by decide) (by decide)) ?_
  walk_at "z"
  have q : RetD K H (qD (a * b)) Q := q
  rw [q_mul a b] at q
  exact ⟨_, _, rfl, q_dd a b, lt380 (Bl.mul ga.1 gb.1), lt380 (Bl.mul (nat190 ga.2) (nat190 gb.2)), q⟩

end
theorem lop {K : PySem.W.Frag} {f : Rat → Rat → Rat} {H : Hp} {v w : V} {a b : Rat} {Q : VK} {E : XK} (ha : Dp K H v (qD a)) (hb : Dp K H w (qD b)) (ga : Bl a) (gb : Bl b) (q : RetD K H (qD (f a b)) Q) : sp_lop K f [v, w] H Q E := ⟨v, w, a, b, rfl, ha, hb, ga, gb, q⟩
theorem opq {K : PySem.W.Frag} {A : Nat → Addr} {f : Rat → Rat → Rat} {H : Hp} {v w : V} {a b : Rat} {Q : VK} {E : XK} (ha : Dp K H v (qD a)) (hb : Dp K H w (qD b)) (ga : Bg a) (gb : Bg b) (hf : fitsQ (f a b)) (q : RetD K H (qD (f a b)) Q) : sp_op K A f [v, w] H Q E :=
  ⟨v, w, a, b, rfl, ha, hb, ga, gb, fun n => absurd hf n, fun _ => q⟩
/-- the point that a transform moves a point to -/
def aX (tx xx xy x y : Rat) : Rat := tx + (xx * x + xy * y)
def sp__law_applied (K : PySem.W.Frag) : Sp := fun vs H Q _ => ∃ (v w : V) (tx ty xx xy yx yy x y : Rat), vs = [v, w] ∧ Dp K H v (tD tx ty xx xy yx yy) ∧ Dp K H w (pD x y) ∧ Bl tx ∧ Bl ty ∧ Bl xx ∧ Bl xy ∧ Bl yx ∧ Bl yy ∧ Bl x ∧ Bl y ∧
  Bl (xx * x) ∧ Bl (xy * y) ∧ Bl (yx * x) ∧ Bl (yy * y) ∧ Bl (xx * x + xy * y) ∧ Bl (yx * x + yy * y) ∧ RetD K H (pD (aX tx xx xy x y) (aX ty yx yy x y)) Q
theorem dp_p {K : PySem.W.Frag} {H : Hp} {p : Addr} {v w : V} {x y : Rat} (h : H p = some (.tup [v, w])) (hx : Dp K H v (qD x)) (hy : Dp K H w (qD y)) : Dp K H (.ref p) (pD x y) := dp_mk h (.cons hx (.cons hy .nil))
section

end
/-! ### forms: terms as a list of unknowns with coefficients -/
abbrev Tms := List (Int × Rat)
abbrev Fm := Rat × Tms
def cf : Tms → Int → Rat
  | [], _ => 0
  | t :: r, u => if t.1 = u then t.2 else cf r u
structure Wf (ts : Tms) : Prop where
  asc : ts.Pairwise (fun a b => a.1 < b.1)
  nz : ∀ t ∈ ts, t.2 ≠ 0
theorem cf_none : ∀ {ts : Tms} {u : Int}, (∀ t ∈ ts, t.1 ≠ u) → cf ts u = 0
  | [], _, _ => rfl
  | t :: r, u, h => by
    unfold cf
    rw [if_neg (h t (.head _))]
    exact cf_none fun x hx => h x (.tail _ hx)
theorem cf_mem : ∀ {ts : Tms} {t : Int × Rat}, ts.Pairwise (fun a b => a.1 < b.1) → t ∈ ts → cf ts t.1 = t.2
  | s :: r, t, p, h => by
    rw [List.pairwise_cons] at p
    unfold cf
    rcases List.mem_cons.mp h with e | h
    · rw [e, if_pos rfl]
    · rw [if_neg (fun e => by have := p.1 t h; omega)]
      exact cf_mem p.2 h
theorem cf_fm {r : Int → Rat} {u : Int} : ∀ ys : List Int, cf (ys.filterMap fun y => if r y ≠ 0 then some (y, r y) else none) u = if u ∈ ys then r u else 0
  | [] => rfl
  | y :: ys => by
    have ih := cf_fm (r := r) (u := u) ys
    rw [List.filterMap_cons]
    by_cases e : y = u
    · subst e
      by_cases z : r y = 0
      · rw [if_neg (fun h => h z)]
        show cf (ys.filterMap _) y = _
        rw [ih, if_pos (List.mem_cons_self), z]
        split <;> rfl
      · rw [if_pos z, if_pos (List.mem_cons_self)]
        show (if y = y then r y else _) = r y
        rw [if_pos rfl]
    · have e2 : (if u ∈ y :: ys then r u else 0) = if u ∈ ys then r u else 0 := by
        simp only [List.mem_cons, show ¬ u = y from fun z => e z.symm, false_or]
      rw [e2, ← ih]
      by_cases z : r y = 0
      · rw [if_neg (fun h => h z)]
      · rw [if_pos z]
        show (if y = u then r y else _) = _
        rw [if_neg e]
theorem wf_fm {r : Int → Rat} {ys : List Int} (h : ys.Pairwise (· < ·)) : Wf (ys.filterMap fun y => if r y ≠ 0 then some (y, r y) else none) := by
  refine ⟨List.Pairwise.filterMap _ (fun a b hab x hx y hy => ?_) h, fun t ht => ?_⟩
  · split at hx
    · split at hy
      · cases hx
        cases hy
        exact hab
      · cases hy
    · cases hx
  · obtain ⟨y, _, e⟩ := List.mem_filterMap.mp ht
    split at e
    · rename_i z
      cases e
      exact z
    · cases e
theorem fm_mem {r : Int → Rat} {ys : List Int} {t : Int × Rat} (ht : t ∈ ys.filterMap fun y => if r y ≠ 0 then some (y, r y) else none) : t.1 ∈ ys ∧ t.2 = r t.1 := by
  obtain ⟨y, hy, e⟩ := List.mem_filterMap.mp ht
  split at e
  · cases e
    exact ⟨hy, rfl⟩
  · cases e
theorem cf_scale {q : Rat} {u : Int} : ∀ ts : Tms, cf (ts.filterMap fun t => if t.2 * q ≠ 0 then some (t.1, t.2 * q) else none) u = cf ts u * q ∨ ¬ ts.Pairwise (fun a b => a.1 < b.1)
  | [] => .inl (by show (0 : Rat) = 0 * q; rw [Rat.zero_mul])
  | t :: r => by
    rcases cf_scale (q := q) (u := u) r with ih | ih
    · by_cases pw : (t :: r).Pairwise (fun a b => a.1 < b.1)
      · left
        rw [List.filterMap_cons]
        by_cases e : t.1 = u
        · have n : cf r u = 0 := cf_none fun x hx => by
            have := (List.pairwise_cons.mp pw).1 x hx
            omega
          by_cases z : t.2 * q = 0
          · rw [if_neg (fun h => h z)]
            show cf (r.filterMap _) u = _
            rw [ih, n, Rat.zero_mul]
            show _ = (if t.1 = u then t.2 else _) * q
            rw [if_pos e, z]
          · rw [if_pos z]
            show (if t.1 = u then t.2 * q else _) = (if t.1 = u then t.2 else _) * q
            rw [if_pos e, if_pos e]
        · by_cases z : t.2 * q = 0
          · rw [if_neg (fun h => h z)]
            show cf (r.filterMap _) u = (if t.1 = u then t.2 else _) * q
            rw [if_neg e, ih]
          · rw [if_pos z]
            show (if t.1 = u then t.2 * q else _) = (if t.1 = u then t.2 else _) * q
            rw [if_neg e, if_neg e]
            exact ih
      · exact .inr pw
    · right
      intro z
      exact ih (List.pairwise_cons.mp z).2
theorem wf_scale {q : Rat} {ts : Tms} (h : ts.Pairwise (fun a b => a.1 < b.1)) : Wf (ts.filterMap fun t => if t.2 * q ≠ 0 then some (t.1, t.2 * q) else none) := by
  refine ⟨List.Pairwise.filterMap _ (fun a b hab x hx y hy => ?_) h, fun t ht => ?_⟩
  · split at hx
    · split at hy
      · cases hx
        cases hy
        exact hab
      · cases hy
    · cases hx
  · obtain ⟨y, _, e⟩ := List.mem_filterMap.mp ht
    split at e
    · rename_i z
      cases e
      exact z
    · cases e
theorem cf_without {u v : Int} : ∀ ts : Tms, cf (ts.filter fun t => decide (¬ t.1 = v)) u = if u = v then 0 else cf ts u
  | [] => by
    show (0 : Rat) = _
    split <;> rfl
  | t :: r => by
    have ih := cf_without (u := u) (v := v) r
    rw [List.filter_cons]
    by_cases e : t.1 = v
    · rw [if_neg (by simp [e])]
      rw [ih]
      by_cases z : u = v
      · rw [if_pos z, if_pos z]
      · rw [if_neg z, if_neg z]
        show _ = if t.1 = u then _ else _
        rw [if_neg (fun k => z (k.symm.trans e))]
    · rw [if_pos (by simp [e])]
      show (if t.1 = u then t.2 else _) = _
      by_cases z : u = v
      · rw [if_pos z, if_neg (fun k => e (k.trans z)), ih, if_pos z]
      · rw [if_neg z]
        show _ = if t.1 = u then t.2 else _
        rw [ih, if_neg z]
theorem wf_without {v : Int} {ts : Tms} (h : Wf ts) : Wf (ts.filter fun t => decide (¬ t.1 = v)) := ⟨h.asc.filter _, fun t ht => h.nz t (List.mem_filter.mp ht).1⟩
theorem cf_ne {ts : Tms} {u : Int} (h : cf ts u ≠ 0) : ∃ t ∈ ts, t.1 = u := by
  induction ts with
  | nil => exact absurd rfl h
  | cons t r ih =>
    by_cases e : t.1 = u
    · exact ⟨t, .head _, e⟩
    · unfold cf at h
      rw [if_neg e] at h
      obtain ⟨x, hx, ex⟩ := ih h
      exact ⟨x, .tail _ hx, ex⟩
theorem cf_in {ts : Tms} (u : Int) : cf ts u = 0 ∨ (u, cf ts u) ∈ ts := by
  induction ts with
  | nil => exact .inl rfl
  | cons t r ih =>
    unfold cf
    by_cases e : t.1 = u
    · rw [if_pos e]
      exact .inr (by rw [← e]; exact .head _)
    · rw [if_neg e]
      exact ih.imp id fun h => .tail _ h
/-- terms are determined by their coefficients -/
theorem wf_ext : ∀ {ts us : Tms}, Wf ts → Wf us → (∀ u, cf ts u = cf us u) → ts = us
  | [], [], _, _, _ => rfl
  | [], t :: r, _, h, e => by
    have := e t.1
    rw [cf_mem h.asc (.head _)] at this
    exact absurd this.symm (h.nz t (.head _))
  | t :: r, [], h, _, e => by
    have := e t.1
    rw [cf_mem h.asc (.head _)] at this
    exact absurd this (h.nz t (.head _))
  | t :: r, s :: q, h, k, e => by
    have pt := List.pairwise_cons.mp h.asc
    have ps := List.pairwise_cons.mp k.asc
    have a1 : t.1 = s.1 := by
      have e1 := e t.1
      have e2 := e s.1
      rw [cf_mem h.asc (.head _)] at e1
      rw [cf_mem k.asc (.head _)] at e2
      obtain ⟨x, hx, ex⟩ := cf_ne (e1 ▸ h.nz t (.head _))
      obtain ⟨y, hy, ey⟩ := cf_ne (e2.symm ▸ k.nz s (.head _))
      have b1 : s.1 ≤ t.1 := by
        rcases List.mem_cons.mp hx with z | z
        · rw [z] at ex; omega
        · have := ps.1 x z; omega
      have b2 : t.1 ≤ s.1 := by
        rcases List.mem_cons.mp hy with z | z
        · rw [z] at ey; omega
        · have := pt.1 y z; omega
      omega
    have a2 : t.2 = s.2 := by
      have e1 := e t.1
      rw [cf_mem h.asc (.head _), a1, cf_mem k.asc (.head _)] at e1
      exact e1
    have ih := wf_ext (ts := r) (us := q) ⟨pt.2, fun x hx => h.nz x (.tail _ hx)⟩ ⟨ps.2, fun x hx => k.nz x (.tail _ hx)⟩ fun u => by
      by_cases z : t.1 = u
      · rw [cf_none fun x hx => by have := pt.1 x hx; omega, cf_none fun x hx => by have := ps.1 x hx; omega]
      · have := e u
        unfold cf at this
        rw [if_neg z, if_neg (fun k => z (a1.trans k))] at this
        exact this
    rw [ih, Prod.ext a1 a2]
/-! ### forms as data -/
def tmD (t : Int × Rat) : PyData := .tuple [.int t.1, qD t.2]
def fmD (f : Fm) : PyData := .tuple [qD f.1, .tuple (f.2.map tmD)]
def FmAt (K : PySem.W.Frag) (H : Hp) (v : V) (f : Fm) : Prop := ∃ a cv t vs, v = .ref a ∧ SqT K H a [cv, .ref t] ∧ Dp K H cv (qD f.1) ∧ Dm.PlT H t vs ∧ DpAll K H vs (f.2.map tmD)
section
variable {K : PySem.W.Frag} {H H' : Hp}
theorem FmAt.dp {v : V} {f : Fm} (h : FmAt K H v f) : Dp K H v (fmD f) := by
  obtain ⟨a, cv, t, vs, rfl, h1, h2, h3, h4⟩ := h
  exact .tup h1 (.cons h2 (.cons (.tup h3.sq h4) .nil))
theorem FmAt.mono {v : V} {f : Fm} (s : Same H H') (h : FmAt K H v f) : FmAt K H' v f := by
  obtain ⟨a, cv, t, vs, rfl, h1, h2, h3, h4⟩ := h
  exact ⟨a, cv, t, vs, rfl, seqT s h1, dp_mono s h2, h3.mono s, dp_monoA s h4⟩
theorem tup_q (r : Rat) : tupOnly (qD r) = true := rfl
theorem tup_tms : ∀ ts : Tms, tupOnlyA (ts.map tmD) = true
  | [] => rfl
  | a :: r => by
    show (tupOnly (tmD a) && tupOnlyA (r.map tmD)) = true
    rw [tup_tms r]
    rfl
theorem FmAt.kp {v : V} {f : Fm} {p : Addr} {xs : List V} (k : Kp p H H') (hp : H p = some (.lst xs)) (h : FmAt K H v f) : FmAt K H' v f := by
  obtain ⟨a, cv, t, vs, rfl, h1, h2, h3, h4⟩ := h
  exact ⟨a, cv, t, vs, rfl, seqT_kp k hp h1, dp_kp k hp (tup_q _) h2, h3.kp k hp, dp_kpA k hp (tup_tms _) h4⟩
theorem dp_tm {v : V} {t : Int × Rat} (h : Dp K H v (tmD t)) : ∃ p w, v = .ref p ∧ SqT K H p [.int t.1, w] ∧ Dp K H w (qD t.2) := by
  obtain ⟨p, v1, v2, rfl, hS, d1, d2⟩ := dp_t2 h
  obtain rfl := dp_int d1
  exact ⟨p, v2, rfl, hS, d2⟩
theorem dpa_len' : ∀ {ds : List PyData} {vs : List V}, DpAll K H vs ds → vs.length = ds.length
  | _, _, .nil => rfl
  | _, _, .cons _ a => by rw [List.length_cons, List.length_cons, dpa_len' a]
theorem dpa_gev' : ∀ {ds : List PyData} {vs : List V} {i : Nat} {v : V}, DpAll K H vs ds → vs[i]? = some v → ∃ d, ds[i]? = some d ∧ Dp K H v d
  | _, _, _, _, .nil, e => by cases e
  | _, _, 0, _, .cons h _, e => by
    cases e
    exact ⟨_, rfl, h⟩
  | _, _, i + 1, _, .cons _ a, e => dpa_gev' (i := i) a (by simpa using e)
theorem dpa_snoc {d : PyData} {v : V} (k : Dp K H v d) : ∀ {ds : List PyData} {vs : List V}, DpAll K H vs ds → DpAll K H (vs ++ [v]) (ds ++ [d])
  | _, _, .nil => .cons k .nil
  | _, _, .cons h a => .cons h (dpa_snoc k a)
/-- the terms as a dict's pairs -/
theorem tms_pairs : ∀ {ts : Tms} {vs : List V}, DpAll K H vs (ts.map tmD) → ∃ (ps : List Addr) (kvs : List (Key × V)), vs = ps.map V.ref ∧ Paired (fun p kv => SqT K H p [kV kv.1, kv.2]) ps kvs ∧
    kvs.map (·.1) = ts.map (fun t => Sum.inl t.1) ∧ ∀ u, (valV kvs (.inl u) = none ∧ cf ts u = 0) ∨ ∃ w, valV kvs (.inl u) = some w ∧ Dp K H w (qD (cf ts u))
  | [], _, h => by
    rw [dpa_nil h]
    exact ⟨[], [], rfl, .nil, rfl, fun u => .inl ⟨rfl, rfl⟩⟩
  | t :: r, _, h => by
    obtain ⟨v, vs, rfl, h1, h2⟩ := dpa_cons h
    obtain ⟨ps, kvs, rfl, hp, hk, hv⟩ := tms_pairs h2
    obtain ⟨p, w, rfl, hS, d⟩ := dp_tm h1
    refine ⟨p :: ps, (.inl t.1, w) :: kvs, rfl, .cons hS hp, by rw [List.map_cons, hk]; rfl, fun u => ?_⟩
    by_cases e : t.1 = u
    · rw [valV_pos (by rw [e])]
      unfold cf
      rw [if_pos e]
      exact .inr ⟨w, rfl, d⟩
    · rw [valV_neg (fun z => e (by injection z))]
      unfold cf
      rw [if_neg e]
      exact hv u
end
/-! ### keys of a merged dict -/
theorem key_old {L : List (Key × V)} {k : Key} (v : V) (e : k ∈ L.map (·.1)) : (putK L k v).map (·.1) = L.map (·.1) := by
  unfold putK
  rw [if_pos ?_]
  · rw [List.map_map]
    apply List.map_congr_left
    intro x _
    show (if x.1 = k then (x.1, v) else x).1 = x.1
    split <;> rfl
  · rw [List.any_eq_true]
    obtain ⟨x, hx, ex⟩ := List.mem_map.mp e
    exact ⟨x, hx, decide_eq_true ex⟩
theorem key_new {L : List (Key × V)} {k : Key} (v : V) (e : ¬ k ∈ L.map (·.1)) : (putK L k v).map (·.1) = L.map (·.1) ++ [k] := by
  unfold putK
  rw [if_neg ?_]
  · rw [List.map_append]; rfl
  · rw [List.any_eq_true]
    rintro ⟨x, hx, ex⟩
    exact e (List.mem_map.mpr ⟨x, hx, of_decide_eq_true ex⟩)
theorem inl_mem {u : Int} {ks : List Int} : (Sum.inl u : Key) ∈ ks.map Sum.inl ↔ u ∈ ks := by
  rw [List.mem_map]
  exact ⟨fun ⟨x, hx, e⟩ => by injection e with e; rw [← e]; exact hx, fun h => ⟨u, h, rfl⟩⟩
theorem keys_merge : ∀ {R L : List (Key × V)} {ks rs : List Int}, L.map (·.1) = ks.map Sum.inl → ks.Nodup → R.map (·.1) = rs.map Sum.inl →
    ∃ ks' : List Int, (mergeK L R).map (·.1) = ks'.map Sum.inl ∧ ks'.Nodup ∧ ∀ u, u ∈ ks' ↔ u ∈ ks ∨ u ∈ rs
  | [], L, ks, rs, hL, hn, hR => by
    have : rs = [] := by
      cases rs with
      | nil => rfl
      | cons _ _ => cases hR
    subst this
    exact ⟨ks, hL, hn, fun u => by simp⟩
  | p :: R, L, ks, rs, hL, hn, hR => by
    match rs, hR with
    | r :: rs, hR =>
      rw [List.map_cons, List.map_cons] at hR
      injection hR with e1 e2
      by_cases c : r ∈ ks
      · obtain ⟨ks', h1, h2, h3⟩ := keys_merge (R := R) (L := putK L p.1 p.2) (ks := ks) (rs := rs) (by rw [key_old _ (by rw [hL, e1]; exact inl_mem.mpr c), hL]) hn e2
        refine ⟨ks', h1, h2, fun u => ?_⟩
        rw [h3, List.mem_cons]
        exact ⟨fun h => h.imp id .inr, fun h => h.elim .inl fun h => h.elim (fun z => .inl (z ▸ c)) .inr⟩
      · obtain ⟨ks', h1, h2, h3⟩ := keys_merge (R := R) (L := putK L p.1 p.2) (ks := ks ++ [r]) (rs := rs) (by rw [key_new _ (by rw [hL, e1]; exact fun z => c (inl_mem.mp z)), hL, e1, List.map_append]; rfl)
          (by rw [List.nodup_append]; exact ⟨hn, by simp, fun x hx y hy => by rw [List.mem_singleton.mp hy]; exact fun z => c (z ▸ hx)⟩) e2
        refine ⟨ks', h1, h2, fun u => ?_⟩
        rw [h3, List.mem_append, List.mem_singleton, List.mem_cons]
        exact ⟨fun h => h.elim (fun h => h.elim .inl fun h => .inr (.inl h)) fun h => .inr (.inr h), fun h => h.elim (fun h => .inl (.inl h)) fun h => h.elim (fun h => .inl (.inr h)) .inr⟩
theorem mergeK_nodup : ∀ {more acc : List (Key × V)}, ((acc ++ more).map (·.1)).Nodup → mergeK acc more = acc ++ more
  | [], acc, _ => by rw [List.append_nil]; rfl
  | p :: r, acc, h => by
    have f : valV acc p.1 = none := by
      have n : p.1 ∉ acc.map (·.1) := fun z => by
        rw [List.map_append, List.nodup_append] at h
        exact h.2.2 _ z _ (by rw [List.map_cons]; exact .head _) rfl
      have q := valV_any p.1 acc
      cases e : valV acc p.1 with
      | none => rfl
      | some x =>
        rw [e] at q
        obtain ⟨y, hy, ey⟩ := List.any_eq_true.mp (q.trans rfl)
        exact absurd (List.mem_map.mpr ⟨y, hy, of_decide_eq_true ey⟩) n
    show mergeK (putK acc p.1 p.2) r = _
    rw [putK_new _ f, mergeK_nodup (by simpa using h), List.append_assoc]
    rfl
theorem nodup_le : ∀ {xs ys : List Int}, xs.Nodup → (∀ x ∈ xs, x ∈ ys) → xs.length ≤ ys.length
  | [], _, _, _ => Nat.zero_le _
  | x :: xs, ys, h, s => by
    rw [List.nodup_cons] at h
    have hx := s x (.head _)
    have := nodup_le (xs := xs) (ys := ys.erase x) h.2 fun z hz => (List.mem_erase_of_ne (fun e => by subst e; exact h.1 hz)).mpr (s z (.tail _ hz))
    rw [List.length_erase_of_mem hx] at this
    have p := List.length_pos_of_mem hx
    rw [List.length_cons]
    omega
theorem lt_of_sorted : ∀ {ys : List Int}, ys.Pairwise (· ≤ ·) → ys.Nodup → ys.Pairwise (· < ·)
  | [], _, _ => .nil
  | y :: ys, h, n => by
    rw [List.pairwise_cons] at h
    rw [List.nodup_cons] at n
    exact .cons (fun z hz => by have := h.1 z hz; have : y ≠ z := fun e => n.1 (e ▸ hz); omega) (lt_of_sorted h.2 n.2)
theorem asc_nodup {ts : Tms} (h : ts.Pairwise (fun a b => a.1 < b.1)) : (ts.map (·.1)).Nodup := by
  rw [List.nodup_iff_pairwise_ne, List.pairwise_map]
  exact h.imp fun {a b} z => by omega
theorem inl_nodup {ks : List Int} (h : ks.Nodup) : (ks.map (Sum.inl : Int → Key)).Nodup := by
  rw [List.nodup_iff_pairwise_ne, List.pairwise_map]
  rw [List.nodup_iff_pairwise_ne] at h
  exact h.imp fun {a b} z e => z (by injection e)
/-- the operation that is handed to combine_forms -/
def IsOp (A : Nat → Addr) (fa : Addr) (op : Rat → Rat → Rat) : Prop := fa = (A 4) ∧ op = (· + ·)
theorem IsOp.zero {A : Nat → Addr} {fa : Addr} {op : Rat → Rat → Rat} (h : IsOp A fa op) : op 0 0 = 0 := by
  obtain ⟨_, rfl⟩ := h
  exact Rat.add_zero 0
theorem z_opL {K : PySem.W.Frag} {A : Nat → Addr} {fa : Addr} {op : Rat → Rat → Rat} {i : Nat} {σ : L2.St} {H : Hp} {Q : VK} {E : XK} {t : TA} (hop : IsOp A fa op) (hs : σ[i]? = some (some (.ref fa))) (h : t σ H fun vs H1 => sp_op K A op vs H1 Q E) :
    tCallL i (A 4) (sp_op K A (· + ·)) [] E t σ H Q := by
  have e0 : ∀ sp : Sp, (fun (vs : List V) (H1 : Hp) => sp (vs ++ []) H1 Q E) = fun vs H1 => sp vs H1 Q E := fun sp => by
    funext vs H1
    rw [List.append_nil]
  obtain ⟨rfl, rfl⟩ := hop
  refine ⟨hs, ?_⟩
  rw [e0]
  exact h
/-! ### the program's forms -/
def FitF (f : Fm) : Prop := fitsQ f.1 ∧ ∀ u, fitsQ (cf f.2 u)
def Keys (ts : Tms) (U : List Int) : Prop := ∀ t ∈ ts, t.1 ∈ U
theorem fits0 : fitsQ 0 := by unfold fitsQ lim; decide
theorem FitF.of {f : Fm} (h : fitsQ f.1) (k : ∀ t ∈ f.2, fitsQ t.2) : FitF f := ⟨h, fun u => by
  rcases cf_in (ts := f.2) u with e | e
  · rw [e]; exact fits0
  · exact k _ e⟩
theorem FitF.mem {f : Fm} (h : FitF f) (w : Wf f.2) {t : Int × Rat} (ht : t ∈ f.2) : fitsQ t.2 := by
  rw [← cf_mem w.asc ht]
  exact h.2 _
/-- a form is handed back, or TooGreat is raised -/
def RetF (K : PySem.W.Frag) (A : Nat → Addr) (c : Rat) (r : Int → Rat) (H : Hp) (Q : VK) (E : XK) : Prop :=
  ((fitsQ c ∧ ∀ u, fitsQ (r u)) → ∀ v ts H', Same H H' → FmAt K H' v (c, ts) → Wf ts → (∀ u, cf ts u = r u) → Q v H') ∧ (¬ (fitsQ c ∧ ∀ u, fitsQ (r u)) → ∀ H', Same H H' → E (.ref (A 1)) none H')
/-- a dict of the terms -/
def DcF (K : PySem.W.Frag) (H : Hp) (p : Addr) (ts : Tms) : Prop := ∃ kvs : List (Key × V), H p = some (.dK kvs) ∧ kvs.map (·.1) = ts.map (fun t => Sum.inl t.1) ∧
  ∀ u, (valV kvs (.inl u) = none ∧ cf ts u = 0) ∨ ∃ w, valV kvs (.inl u) = some w ∧ Dp K H w (qD (cf ts u))
section
variable {K : PySem.W.Frag} {H H' : Hp} {p : Addr} {ts us : Tms} {Q : VK}
theorem DcF.mono (s : Same H H') (h : DcF K H p ts) : DcF K H' p ts := by
  obtain ⟨kvs, e, hk, hv⟩ := h
  exact ⟨kvs, s _ _ e, hk, fun u => (hv u).imp id fun ⟨w, h1, h2⟩ => ⟨w, h1, dp_mono s h2⟩⟩
theorem DcF.kp {D : Addr} {xs : List V} (k : Kp D H H') (hp : H D = some (.lst xs)) (h : DcF K H p ts) : DcF K H' p ts := by
  obtain ⟨kvs, e, hk, hv⟩ := h
  refine ⟨kvs, k _ _ (fun z => ?_) e, hk, fun u => (hv u).imp id fun ⟨w, h1, h2⟩ => ⟨w, h1, dp_kp k hp (tup_q _) h2⟩⟩
  rw [z, hp] at e
  cases e
theorem DcF.keys {kvs : List (Key × V)} (hk : kvs.map (·.1) = ts.map (fun t => (Sum.inl t.1 : Key))) : kvs.map (·.1) = (ts.map (·.1)).map Sum.inl := by rw [hk, List.map_map]; rfl
theorem z_dictF {t : Addr} {vs : List V} (hp : Dm.PlT H t vs) (hd : DpAll K H vs (ts.map tmD)) (asc : ts.Pairwise (fun a b => a.1 < b.1)) (q : ∀ p H', H p = none → Same H H' → DcF K H' p ts → Q (.ref p) H') : Dm.rDictT K [.ref t] H Q := by
  obtain ⟨ps, kvs, rfl, hps, hk, hv⟩ := tms_pairs hd
  refine ⟨t, ps, kvs, rfl, hp, hps, fun p h0 => q p _ h0 (same_upd h0) ?_⟩
  have e : mergeK [] kvs = kvs := by
    have n : (([] ++ kvs : List (Key × V)).map (·.1)).Nodup := by
      rw [List.nil_append, DcF.keys hk]
      exact inl_nodup (asc_nodup asc)
    exact mergeK_nodup n
  rw [e]
  exact ⟨kvs, upd_same, hk, fun u => (hv u).imp id fun ⟨w, h1, h2⟩ => ⟨w, h1, dp_mono (same_upd h0) h2⟩⟩
theorem DcF.len {kvs : List (Key × V)} (hk : kvs.map (·.1) = ts.map (fun t => (Sum.inl t.1 : Key))) : kvs.length = ts.length := by
  have := congrArg List.length hk
  rwa [List.length_map, List.length_map] at this
theorem z_mrg {i j : Nat} {σ : L2.St} {a b : Addr} (hi : σ[i]? = some (some (.ref a))) (hj : σ[j]? = some (some (.ref b))) (ha : DcF K H a ts) (hb : DcF K H b us) (na : ts.Pairwise (fun a b => a.1 < b.1)) (la : ts.length ≤ 1000) (lb : us.length ≤ 1000)
    (q : ∀ p H' (M : List (Key × V)) (ks : List Int), H p = none → Same H H' → H' p = some (.dK M) → M.map (·.1) = ks.map Sum.inl → ks.Nodup → (∀ u, u ∈ ks ↔ u ∈ ts.map (·.1) ∨ u ∈ us.map (·.1)) → Q (.ref p) H') : Dm.tMrg2 (tVar i) (tVar j) σ H Q := by
  obtain ⟨L, eL, hL, _⟩ := ha
  obtain ⟨R, eR, hR, _⟩ := hb
  have lL := DcF.len hL
  have lR := DcF.len hR
  have mL : mergeK [] L = L := by
    have n : (([] ++ L : List (Key × V)).map (·.1)).Nodup := by
      rw [List.nil_append, DcF.keys hL]
      exact inl_nodup (asc_nodup na)
    exact mergeK_nodup n
  intro p h0
  have ap := ne_of_none eL h0
  have bp := ne_of_none eR h0
  refine ⟨_, hi, a, L, rfl, by rw [upd_ne ap]; exact eL, ap, upd_same, by omega, _, hj, b, R, rfl, by rw [upd_ne bp, upd_ne bp]; exact eR, bp, upd_same, by omega, ?_⟩
  rw [mL]
  obtain ⟨ks, h1, h2, h3⟩ := keys_merge (L := L) (R := R) (DcF.keys hL) (asc_nodup na) (DcF.keys hR)
  rw [show upd (upd (upd H p (.dK [])) p (.dK L)) p (.dK (mergeK L R)) = upd H p (.dK (mergeK L R)) by rw [upd_upd, upd_upd]]
  exact q p _ _ ks h0 (same_upd h0) upd_same h1 h2 h3
theorem z_sortD {a : Addr} {M : List (Key × V)} {ks U : List Int} (h : H a = some (.dK M)) (hk : M.map (·.1) = ks.map Sum.inl) (nd : ks.Nodup) (hU : U.length < 64) (kU : ∀ u ∈ ks, u ∈ U)
    (q : ∀ p H' (ys : List Int), H p = none → Same H H' → H' p = some (.lst (ys.map V.int)) → ys.Pairwise (· < ·) → (∀ u, u ∈ ys ↔ u ∈ ks) → ys.length < 64 → Q (.ref p) H') : Dm.rSortD [.ref a] H Q := by
  have hl := nodup_le nd kU
  refine ⟨a, M, ks, rfl, .inl h, hk, by omega, fun ys p pm pw h0 => q p _ ys h0 (same_upd h0) upd_same (lt_of_sorted pw (pm.nodup_iff.mpr nd)) (fun u => pm.mem_iff) (by rw [pm.length_eq]; omega)⟩
theorem z_get {i j : Nat} {σ : L2.St} {a : Addr} {u : Int} {z : V} (hi : σ[i]? = some (some (.ref a))) (hj : σ[j]? = some (some (.int u))) (ha : DcF K H a ts) (hz : Dp K H z (qD 0)) (q : ∀ w, Dp K H w (qD (cf ts u)) → Q w H) : tDGet2 (tVar i) (tVar j) (tC z) σ H Q := by
  obtain ⟨L, eL, hL, hv⟩ := ha
  refine ⟨_, hi, a, rfl, .inl ⟨L, .inl eL⟩, _, hj, _, DGet.k (k := .inl u) eL, ?_⟩
  rcases hv u with ⟨e, c⟩ | ⟨w, e, d⟩
  · rw [e]
    exact q z (by rw [c]; exact hz)
  · rw [e]
    exact q w d
theorem same_kpD {H0 : Hp} {D : Addr} (s : Same H0 H) (h0 : H0 D = none) (k : Kp D H H') : Same H0 H' := fun b x e => k _ _ (ne_of_none e h0) (s _ _ e)
end
def sp_combine (K : PySem.W.Frag) (A : Nat → Addr) : Sp := fun vs H Q E => ∃ (v w : V) (fa : Addr) (op : Rat → Rat → Rat) (f g : Fm) (U : List Int), vs = [v, w, .ref fa] ∧ IsOp A fa op ∧ FmAt K H v f ∧ FmAt K H w g ∧ Wf f.2 ∧ Wf g.2 ∧ FitF f ∧ FitF g ∧ U.length < 64 ∧ Keys f.2 U ∧ Keys g.2 U ∧
  RetF K A (op f.1 g.1) (fun u => op (cf f.2 u) (cf g.2 u)) H Q E
theorem keys_len {ts : Tms} {U : List Int} (w : Wf ts) (k : Keys ts U) : ts.length ≤ U.length := by
  have := nodup_le (asc_nodup w.asc) (ys := U) fun x hx => by
    obtain ⟨t, ht, rfl⟩ := List.mem_map.mp hx
    exact k t ht
  rwa [List.length_map] at this
section
theorem ok_combine_forms {P : Program} {w : World} {K : PySem.W.Frag} {mg : Str → Option Value} {base : Heap} {A : Nat → Addr} {D : Nat → FuncData} (T : Txt K mg A D) : FnOk P w K mg base (L2.CX P w) 3 (A 7) (D 7) ["a", "b", "operation"] (sp_combine K A) := by
  refine T.F_combine_forms.okX sc_combine_forms (fun vs H Q E h => ?_) (fun cdv A' outer s H vs Q E hr h => ?_)
  · obtain ⟨v, w', fa, op, f, g, U, rfl, _⟩ := h
    rfl
  obtain ⟨v, w', fa, op, f, g, U, rfl, hop, hf, hg, wf, wg, ff, fg, hU, kf, kg, q⟩ := h
  refine ⟨_, (pss_cons (ps_set (i := 3) sc_combine_forms.nd rfl (.inl rfl) (pe_callL (i := 2) (ok_add T) (hr.mono (by decide)) (by rfl) (.inl rfl) T.F_add.kp T.b_add .nil (passes_call (takes_of rfl rfl rfl rfl) (fun _ _ _ _ h => h)) (pa_cons (pe_ix ix_tup (pv 0) pe_int (fun _ _ => rfl)) (pa_cons (pe_ix ix_tup (pv 1) pe_int (fun _ _ => rfl)) pa_nil))))
  (pss_cons (ps_set (i := 4) sc_combine_forms.nd rfl (.inl rfl) (pe_callTy (Dm.call_dictT rfl) (by rfl) T.z_dict (by decide +kernel) (pa_cons (pe_ix ix_tup (pv 0) pe_int (fun _ _ => rfl)) pa_nil)))
  (pss_cons (ps_set (i := 5) sc_combine_forms.nd rfl (.inl rfl) (pe_callTy (Dm.call_dictT rfl) (by rfl) T.z_dict (by decide +kernel) (pa_cons (pe_ix ix_tup (pv 1) pe_int (fun _ _ => rfl)) pa_nil)))
  (pss_cons (ps_set (i := 6) sc_combine_forms.nd rfl (.inl rfl) (pe_lst pa_nil))
  (pss_cons (ps_for (passes_of rfl) rfl (pi_list (pe_callB (Dm.cr_sortD rfl) (by rfl) T.z_sorted (by decide +kernel) (pa_cons (Dm.pe_mrg2 (pv 4) (pv 5)) pa_nil))) (pg_name (i := 7) sc_combine_forms.nd rfl (.inl rfl))
  (pss_cons (ps_set (i := 8) sc_combine_forms.nd rfl (.inl rfl) (pe_callL (i := 2) (ok_add T) (hr.mono (by decide)) (by rfl) (.inl rfl) T.F_add.kp T.b_add .nil (passes_call (takes_of rfl rfl rfl rfl) (fun _ _ _ _ h => h)) (pa_cons (pe_dget2 (Nat.lt_of_le_of_lt (Nat.add_le_add_left (by decide) _) hr.units) (pv 4) (pv 7) (Z.pe_globR T.c_ZERO) ⟨rfl, rfl, rfl, rfl⟩) (pa_cons (pe_dget2 (Nat.lt_of_le_of_lt (Nat.add_le_add_left (by decide) _) hr.units) (pv 5) (pv 7) (Z.pe_globR T.c_ZERO) ⟨rfl, rfl, rfl, rfl⟩) pa_nil))))
  (pss_one (ps_if (pt_cmpR (op_neD hr.units) (pv 8) (Z.pe_globR T.c_ZERO) (nomark _))
  (pss_one (ps_expr (pe_bm PySem.F.plainAttrs_list PySem.F.slot_list_append PySem.F.type_list_append mt_append (pv 6) (pa_cons (pe_tup (pa_cons (pv 7) (pa_cons (pv 8) pa_nil))) pa_nil))))
  pss_nil))))
  (pss_one (ps_ret (pe_tup (pa_cons (pv 3) (pa_cons (pe_callTy Dm.c_tupOfF (by rfl) T.z_tuple (by decide +kernel) (pa_cons (pv 6) pa_nil)) pa_nil)))))))))), ?_⟩
  obtain ⟨a, ca, ta, va, rfl, sa, da, pa, la⟩ := hf
  obtain ⟨b, cb, tb, vb, rfl, sb, db, pb, lb⟩ := hg
  walk_at "z"
  refine z_opL hop rfl ?_
  walk_at "z"
  refine ⟨_, _, f.1, g.1, rfl, da, db, fits_bg ff.1, fits_bg fg.1, fun n => q.2 (fun z => n z.1) H (fun _ _ z => z), fun hc v1 H1 s1 d1 => ?_⟩
  walk_at "z"
  refine z_ixT (seqT s1 sa) (i := 1) rfl ?_
  walk_at "z"
  refine z_dictF (pa.mono s1) (dp_monoA s1 la) wf.asc fun p2 H2 f2 s2 e2 => ?_
  walk_at "z"
  refine z_ixT (seqT (s1.trans s2) sb) (i := 1) rfl ?_
  walk_at "z"
  refine z_dictF (pb.mono (s1.trans s2)) (dp_monoA (s1.trans s2) lb) wg.asc fun p3 H3 f3 s3 e3 => ?_
  walk_at "z"
  intro D H4 fD s4 hD
  walk_at "z"
  refine z_forE ?_
  walk_at "z"
  have kl1 := keys_len wf kf
  have kl2 := keys_len wg kg
  refine z_mrg rfl rfl ((e2.mono s3).mono s4) (e3.mono s4) wf.asc (by omega) (by omega) fun p5 H5 M ks f5 s5 h5 hM nd mk => ?_
  walk_at "z"
  refine z_sortD h5 hM nd hU (fun u hu => ?_) fun L H6 ys f6 s6 h6 pw my ly => ?_
  · rcases (mk u).mp hu with h | h
    · obtain ⟨t, ht, rfl⟩ := List.mem_map.mp h
      exact kf t ht
    · obtain ⟨t, ht, rfl⟩ := List.mem_map.mp h
      exact kg t ht
  have s46 := s5.trans s6
  have s16 := ((s2.trans s3).trans s4).trans s46
  have dL := ((e2.mono s3).mono s4).mono s46
  have dR := (e3.mono s4).mono s46
  have hD6 := s46 _ _ hD
  have d16 := dp_mono s16 d1
  have hDf : H D = none := fresh_of ((s1.trans s2).trans s3) fD
  have s06 := s1.trans s16
  unfold ForL
  refine z_forL (fun R q => q) (.inl (.inl h6)) (fun i σ' H' => Kp D H6 H' ∧ (∃ acc, H' D = some (.lst acc) ∧ DpAll K H' acc (((ys.take i).filterMap fun y => if op (cf f.2 y) (cf g.2 y) ≠ 0 then some (y, op (cf f.2 y) (cf g.2 y)) else none).map tmD)) ∧
      (∃ x1 x2, σ' = [some (.ref a), some (.ref b), some (.ref fa), some v1, some (.ref p2), some (.ref p3), some (.ref D), x1, x2]) ∧ ∀ y ∈ ys.take i, fitsQ (op (cf f.2 y) (cf g.2 y)))
    ⟨fun _ _ _ e => e, ⟨[], hD6, .nil⟩, ⟨_, _, rfl⟩, fun _ h => (by cases h)⟩ (fun i σ' H' _ h => .inl (.inl (h.1 _ _ (fun z => ?_) h6))) ?_ ?_
  · exact absurd z.symm (ne_of_none (s5 _ _ hD) f6)
  · rintro i x σ' H' hx ⟨k7, ⟨acc, h7, a7⟩, ⟨x1, x2, rfl⟩, fy⟩
    rw [List.getElem?_map] at hx
    cases hy : ys[i]? with
    | none => rw [hy] at hx; cases hx
    | some y =>
      rw [hy] at hx
      cases hx
      have dL7 := dL.kp k7 hD6
      have dR7 := dR.kp k7 hD6
      walk_at "z"
      refine z_opL hop rfl ?_
      walk_at "z"
      refine z_get rfl rfl dL7 (T.d_ZERO H') fun w1 dw1 => ?_
      walk_at "z"
      refine z_get rfl rfl dR7 (T.d_ZERO H') fun w2 dw2 => ?_
      walk_at "z"
      refine ⟨_, _, _, _, rfl, dw1, dw2, fits_bg (ff.2 y), fits_bg (fg.2 y), fun n => q.2 (fun z => n (z.2 y)) H' (same_kpD s06 hDf k7), fun hcy v8 H8 s8 d8 => ?_⟩
      have fy8 : ∀ z ∈ ys.take (i + 1), fitsQ (op (cf f.2 z) (cf g.2 z)) := fun z hz => by
        rw [List.take_add_one, hy] at hz
        rcases List.mem_append.mp hz with h | h
        · exact fy z h
        · cases List.mem_singleton.mp h
          exact hcy
      walk_at "z"
      refine z_neQ d8 (show Dp K H8 _ (qD 0) from T.d_ZERO H8) ?_
      walk_at "z"
      have e8 : (ys.take (i + 1)).filterMap (fun y => if op (cf f.2 y) (cf g.2 y) ≠ 0 then some (y, op (cf f.2 y) (cf g.2 y)) else none) = ((ys.take i).filterMap fun y => if op (cf f.2 y) (cf g.2 y) ≠ 0 then some (y, op (cf f.2 y) (cf g.2 y)) else none) ++ (if op (cf f.2 y) (cf g.2 y) ≠ 0 then [(y, op (cf f.2 y) (cf g.2 y))] else []) := by
        rw [List.take_add_one, hy, List.filterMap_append]
        congr 1
        by_cases c : op (cf f.2 y) (cf g.2 y) ≠ 0
        · rw [if_pos c]
          show List.filterMap _ [y] = _
          rw [List.filterMap_cons, if_pos c]
          rfl
        · rw [if_neg c]
          show List.filterMap _ [y] = _
          rw [List.filterMap_cons, if_neg c]
          rfl
      have la : acc.length < 1000 := by
        have := dpa_len' a7
        rw [List.length_map] at this
        have h2 := List.length_filterMap_le (fun y => if op (cf f.2 y) (cf g.2 y) ≠ 0 then some (y, op (cf f.2 y) (cf g.2 y)) else none) (ys.take i)
        have h3 : (ys.take i).length ≤ ys.length := by rw [List.length_take]; omega
        omega
      refine z_if (fun c => ?_) (fun c => ?_)
      · walk_at "z"
        refine z_bmL (fun R q => by walk_at "z"; exact q) (s8 _ _ h7) ?_
        walk_at "z"
        intro p9 H9 f9 s9 h9
        walk_at "z"
        have hD9 := s9 _ _ (s8 _ _ h7)
        refine z_append hD9 la ?_
        walk_at "z"
        have k9 : Kp D H9 (upd H9 D (.lst (acc ++ [.ref p9]))) := fun b x hb e => by rw [upd_ne hb]; exact e
        refine ⟨(k7.trans' (kp_of (s8.trans s9))).trans' k9, ⟨_, upd_same, ?_⟩, ⟨_, _, rfl⟩, fy8⟩
        rw [e8, if_pos c, List.map_append]
        exact dp_kpA k9 hD9 (by rw [← List.map_append]; exact tup_tms _) (dpa_snoc (dp_mk h9 (.cons (.int _) (.cons (dp_mono s9 d8) .nil))) (dp_monoA (s8.trans s9) a7))
      · walk_at "z"
        refine ⟨k7.trans' (kp_of s8), ⟨acc, s8 _ _ h7, ?_⟩, ⟨_, _, rfl⟩, fy8⟩
        rw [e8, if_neg c, List.append_nil]
        exact dp_monoA s8 a7
  · rintro σ' H' ⟨k7, ⟨acc, h7, a7⟩, ⟨x1, x2, rfl⟩, fy⟩
    rw [List.length_map, List.take_length] at a7 fy
    walk_at "z"
    have s07 := same_kpD s06 hDf k7
    refine ⟨D, acc, rfl, .inl (.inl h7), fun t o ft oc od => ?_⟩
    walk_at "z"
    intro p9 H9 f9 s9 h9
    have mz : ∀ u, ¬ u ∈ ys → op (cf f.2 u) (cf g.2 u) = 0 := fun u hu => by
      have h0 : ¬ (u ∈ f.2.map (·.1) ∨ u ∈ g.2.map (·.1)) := fun z => hu ((my u).mpr ((mk u).mpr z))
      rw [cf_none fun t ht e => h0 (.inl (List.mem_map.mpr ⟨t, ht, e⟩)), cf_none fun t ht e => h0 (.inr (List.mem_map.mpr ⟨t, ht, e⟩)), hop.zero]
    have ss := same_upd (o := .frz o (.tup acc)) ft
    refine q.1 ⟨hc, fun u => ?_⟩ _ (ys.filterMap fun y => if op (cf f.2 y) (cf g.2 y) ≠ 0 then some (y, op (cf f.2 y) (cf g.2 y)) else none) H9 ((s07.trans ss).trans s9) ?_ (wf_fm (r := fun y => op (cf f.2 y) (cf g.2 y)) pw) fun u => ?_
    · by_cases hu : u ∈ ys
      · exact fy u hu
      · show fitsQ (op _ _)
        rw [mz u hu]
        exact fits0
    · have d7 := dp_kp k7 hD6 (tup_q _) d16
      exact ⟨p9, v1, t, acc, rfl, .inl (.inl h9), dp_mono s9 (dp_mono ss d7), Dm.PlT.mono s9 ⟨o, upd_same, oc, od⟩, dp_monoA s9 (dp_monoA ss a7)⟩
    · rw [cf_fm (r := fun y => op (cf f.2 y) (cf g.2 y))]
      by_cases hu : u ∈ ys
      · rw [if_pos hu]
      · rw [if_neg hu]
        exact (mz u hu).symm
end
/-! ### comprehensions over a tuple, with a test -/
def LcTE (K : PySem.W.Frag) (g : TG) (tt : TT) (te : TE) (vs : List Nat) (σ : L2.St) (Q : VK) : VK := fun x H1 => tLc (iTup K (tC x)) g tt te vs σ H1 Q
def ForT (K : PySem.W.Frag) (g : TG) (tb : TS) (n : L2.St → Hp → Prop) (r : VK) (b c : L2.St → Hp → Prop) (σ : L2.St) : VK := fun x H1 => tFor (iTup K (tC x)) g tb ⟨n, r, b, c⟩ σ H1
section
variable {K : PySem.W.Frag} {H : Hp} {Q : VK} {σ : L2.St}
theorem z_lcTE {tl : TE} {g : TG} {tt : TT} {te : TE} {vs : List Nat} (h : tl σ H (LcTE K g tt te vs σ Q)) : tLc (iTup K tl) g tt te vs σ H Q := h
theorem z_forTE {tl : TE} {g : TG} {tb : TS} {n : L2.St → Hp → Prop} {r : VK} {b c : L2.St → Hp → Prop} (h : tl σ H (ForT K g tb n r b c σ)) : tFor (iTup K tl) g tb ⟨n, r, b, c⟩ σ H := h
theorem z_forTT {g : TG} {tb : TS} {n : L2.St → Hp → Prop} {r : VK} {b c : L2.St → Hp → Prop} {a : Addr} {xs : List V} (hx : SqT K H a xs) (Pv : Nat → L2.St → Hp → Prop) (h0 : Pv 0 σ H) (hl : ∀ i σ H, i ≤ xs.length → Pv i σ H → SqT K H a xs)
    (hs : ∀ i x σ H, xs[i]? = some x → Pv i σ H → g x σ H fun σ2 H2 => tb ⟨Pv (i + 1), r, n, Pv (i + 1)⟩ σ2 H2) (hd : ∀ σ H, Pv xs.length σ H → n σ H) : ForT K g tb n r b c σ (.ref a) H := z_forT (fun R q => q) hx Pv h0 hl hs hd
theorem tupOnly_at : ∀ {ds : List PyData} {i : Nat} {d : PyData}, tupOnlyA ds = true → ds[i]? = some d → tupOnly d = true
  | d0 :: r, 0, d, h, e => by
    have h' : (tupOnly d0 && tupOnlyA r) = true := h
    rw [Bool.and_eq_true] at h'
    cases e
    exact h'.1
  | d0 :: r, i + 1, d, h, e => by
    have h' : (tupOnly d0 && tupOnlyA r) = true := h
    rw [Bool.and_eq_true] at h'
    exact tupOnly_at (i := i) h'.2 (by simpa using e)
theorem tupOnly_all : ∀ {ds : List PyData}, (∀ d ∈ ds, tupOnly d = true) → tupOnlyA ds = true
  | [], _ => rfl
  | d :: r, h => by
    show (tupOnly d && tupOnlyA r) = true
    rw [h d (.head _), tupOnly_all fun x hx => h x (.tail _ hx)]
    rfl
theorem z_lcTT {g : TG} {tt : TT} {te : TE} {vs : List Nat} {a : Addr} {xs : List V} (es : List (Option PyData)) (hl : es.length = xs.length) (hm : xs.length ≤ 1000) (hx : SqT K H a xs) (ht : ∀ d, some d ∈ es → tupOnly d = true)
    (hs : ∀ (i : Nat) (x : V) (H' : Hp) (R : VK) (R0 : Hp → Prop), xs[i]? = some x → Same H H' → (∀ d, es[i]? = some (some d) → ∀ v H3, Same H' H3 → Dp K H3 v d → R v H3) → (es[i]? = some none → ∀ H3, Same H' H3 → R0 H3) → g x (wipe σ vs) H' fun σ2 H2 => wipe σ2 vs = wipe σ vs ∧ tt σ2 H2 fun b H3 => if b = true then te σ2 H3 R else R0 H3)
    (hd : ∀ D acc H', H D = none → Same H H' → H' D = some (.lst acc) → DpAll K H' acc (es.filterMap id) → Q (.ref D) H') : LcTE K g tt te vs σ Q (.ref a) H := by
  refine ⟨a, rfl, ⟨xs, hx⟩, fun D hD => ?_⟩
  have tk : ∀ i, tupOnlyA ((es.take i).filterMap id) = true := fun i => tupOnly_all fun d h => by
    obtain ⟨o, ho, e⟩ := List.mem_filterMap.mp h
    subst e
    exact ht d (List.mem_of_mem_take ho)
  refine lc_tup (xs := xs) (fun i H' => Same H H' ∧ ∃ acc, acc.length ≤ i ∧ H' D = some (.lst acc) ∧ DpAll K H' acc ((es.take i).filterMap id)) ⟨same_upd hD, [], Nat.le_refl _, upd_same, .nil⟩ (fun i H' _ h => seqT h.1 hx) (fun i x H' hi ⟨s', acc, la, hA, dA⟩ => ?_) (fun H' ⟨s', acc, la, hA, dA⟩ => ?_)
  · have hi' : i < xs.length := (List.getElem?_eq_some_iff.mp hi).1
    have h := hs i x H' (LcB D i (fun _ _ _ _ => True) fun H4 => Same H H4 ∧ ∃ acc, acc.length ≤ i + 1 ∧ H4 D = some (.lst acc) ∧ DpAll K H4 acc ((es.take (i + 1)).filterMap id))
      (fun H4 => Same H H4 ∧ ∃ acc, acc.length ≤ i + 1 ∧ H4 D = some (.lst acc) ∧ DpAll K H4 acc ((es.take (i + 1)).filterMap id)) hi s' (fun d ed v H3 s3 dv => ?_) (fun en H3 s3 => ?_)
    · exact h
    · refine ⟨acc, s3 _ _ hA, Nat.lt_of_lt_of_le (show acc.length < 1000 by omega) (by decide), fun b o e => ?_, acc ++ [v], by simp; omega, upd_same, ?_⟩
      · rw [upd_ne (ne_of_none e hD)]
        exact s3 _ _ (s' _ _ e)
      · have k5 : Kp D H3 (upd H3 D (.lst (acc ++ [v]))) := fun b o hb e => by rw [upd_ne hb]; exact e
        have e5 : (es.take (i + 1)).filterMap id = (es.take i).filterMap id ++ [d] := by
          rw [List.take_add_one, ed, List.filterMap_append]; rfl
        rw [e5]
        have td := ht d (List.mem_of_getElem? ed)
        refine dp_kpA k5 (s3 _ _ hA) ?_ (dpa_snoc dv (dp_monoA s3 dA))
        rw [← e5]
        exact tk _
    · have e5 : (es.take (i + 1)).filterMap id = (es.take i).filterMap id := by
        rw [List.take_add_one, en, List.filterMap_append]
        show _ ++ [] = _
        rw [List.append_nil]
      exact ⟨s'.trans s3, acc, by omega, s3 _ _ hA, by rw [e5]; exact dp_monoA s3 dA⟩
  · rw [← hl, List.take_length] at dA
    exact hd D acc H' hD s' hA dA
theorem z_newF {xs : List V} (hl : xs.length ≤ 1000) (q : ∀ p H', H p = none → Same H H' → Dm.PlT H' p xs → Q (.ref p) H') : Dm.NewF Q xs H := ⟨sz hl, fun p o hp oc od => q p _ hp (same_upd hp) ⟨o, upd_same, oc, od⟩⟩
theorem z_tupF {t : TA} (h : t σ H (Dm.NewF Q)) : Dm.tTupF t σ H Q := h
theorem z_tupOfF {p : Addr} {xs : List V} (h : SqL K H p xs) (q : ∀ a H', H a = none → Same H H' → Dm.PlT H' a xs → Q (.ref a) H') : Dm.rTupOfF K [.ref p] H Q := ⟨p, xs, rfl, h, fun l o hl oc od => q l _ hl (same_upd hl) ⟨o, upd_same, oc, od⟩⟩
end
theorem FmAt.mk {K : PySem.W.Frag} {H : Hp} {a t : Addr} {cv : V} {vs : List V} {f : Fm} (h : SqT K H a [cv, .ref t]) (d : Dp K H cv (qD f.1)) (p : Dm.PlT H t vs) (l : DpAll K H vs (f.2.map tmD)) : FmAt K H (.ref a) f := ⟨a, cv, t, vs, rfl, h, d, p, l⟩
local macro_rules | `(tactic| walk_at "z1") => `(tactic| first | with_reducible refine z_tupF ?_ | with_reducible refine z_lcTE ?_ | with_reducible refine z_forTE ?_)
def sp_form2 (K : PySem.W.Frag) (A : Nat → Addr) (op : Rat → Rat → Rat) : Sp := fun vs H Q E => ∃ (v w : V) (f g : Fm) (U : List Int), vs = [v, w] ∧ FmAt K H v f ∧ FmAt K H w g ∧ Wf f.2 ∧ Wf g.2 ∧ FitF f ∧ FitF g ∧ U.length < 64 ∧ Keys f.2 U ∧ Keys g.2 U ∧
  RetF K A (op f.1 g.1) (fun u => op (cf f.2 u) (cf g.2 u)) H Q E
section
theorem ok_add_forms {P : Program} {w : World} {K : PySem.W.Frag} {mg : Str → Option Value} {base : Heap} {A : Nat → Addr} {D : Nat → FuncData} (T : Txt K mg A D) : FnOk P w K mg base (L2.CX P w) 4 (A 6) (D 6) ["a", "b"] (sp_form2 K A (· + ·)) := by
  refine T.F_add_forms.okX sc_add_forms (fun vs H Q E h => ?_) (fun cdv A' outer s H vs Q E hr h => ?_)
  · obtain ⟨v, w', f, g, U, rfl, _⟩ := h
    rfl
  obtain ⟨v, w', f, g, U, rfl, hf, hg, wf, wg, ff, fg, hU, kf, kg, q⟩ := h
  refine ⟨_, (pss_one (ps_ret (pe_call (ok_combine_forms T) (hr.mono (by decide)) (by rfl) T.m_combine_forms T.F_combine_forms.kp T.b_combine_forms .nil (passes_call (takes_of rfl rfl rfl rfl) (fun _ _ _ _ h => h)) (pa_cons (pv 0) (pa_cons (pv 1) (pa_cons (Z.pe_globR T.m_add) pa_nil)))))), ?_⟩
  walk_at "z"
  exact ⟨v, w', _, (· + ·), f, g, U, rfl, ⟨rfl, rfl⟩, hf, hg, wf, wg, ff, fg, hU, kf, kg, q⟩
end

def sp_scale (K : PySem.W.Frag) (A : Nat → Addr) : Sp := fun vs H Q E => ∃ (v w : V) (f : Fm) (k : Rat), vs = [v, w] ∧ FmAt K H v f ∧ Dp K H w (qD k) ∧ Wf f.2 ∧ FitF f ∧ fitsQ k ∧ f.2.length ≤ 900 ∧ RetF K A (f.1 * k) (fun u => cf f.2 u * k) H Q E
section
theorem ok_scale_form {P : Program} {w : World} {K : PySem.W.Frag} {mg : Str → Option Value} {base : Heap} {A : Nat → Addr} {D : Nat → FuncData} (T : Txt K mg A D) : FnOk P w K mg base (L2.CX P w) 3 (A 8) (D 8) ["form", "number"] (sp_scale K A) := by
  refine T.F_scale_form.okX sc_scale_form (fun vs H Q E h => ?_) (fun cdv A' outer s H vs Q E hr h => ?_)
  · obtain ⟨v, w', f, k, rfl, _⟩ := h
    rfl
  obtain ⟨v, w', f, k, rfl, hf, hw, wf, ff, fk, fl, q⟩ := h
  refine ⟨_, (pss_cons (ps_set (i := 2) sc_scale_form.nd rfl (.inl rfl) (pe_call (ok_multiply T) (hr.mono (by decide)) (by rfl) T.m_multiply T.F_multiply.kp T.b_multiply .nil (passes_call (takes_of rfl rfl rfl rfl) (fun _ _ _ _ h => h)) (pa_cons (pe_ix ix_tup (pv 0) pe_int (fun _ _ => rfl)) (pa_cons (pv 1) pa_nil))))
  (pss_cons (ps_set (i := 3) sc_scale_form.nd rfl (.inl rfl) (pe_lst pa_nil))
  (pss_cons (ps_for (passes_of rfl) rfl (pi_tup (pe_ix ix_tup (pv 0) pe_int (fun _ _ => rfl))) (pg_tup (by rfl) (pgs_cons (pg_name (i := 4) sc_scale_form.nd rfl (.inl rfl)) (pgs_cons (pg_name (i := 5) sc_scale_form.nd rfl (.inl rfl)) pgs_nil)))
  (pss_cons (ps_set (i := 6) sc_scale_form.nd rfl (.inl rfl) (pe_call (ok_multiply T) (hr.mono (by decide)) (by rfl) T.m_multiply T.F_multiply.kp T.b_multiply .nil (passes_call (takes_of rfl rfl rfl rfl) (fun _ _ _ _ h => h)) (pa_cons (pv 5) (pa_cons (pv 1) pa_nil))))
  (pss_one (ps_if (pt_cmpR (op_neD hr.units) (pv 6) (Z.pe_globR T.c_ZERO) (nomark _))
  (pss_one (ps_expr (pe_bm PySem.F.plainAttrs_list PySem.F.slot_list_append PySem.F.type_list_append mt_append (pv 3) (pa_cons (pe_tup (pa_cons (pv 4) (pa_cons (pv 6) pa_nil))) pa_nil))))
  pss_nil))))
  (pss_one (ps_ret (pe_tup (pa_cons (pv 2) (pa_cons (pe_callTy Dm.c_tupOfF (by rfl) T.z_tuple (by decide +kernel) (pa_cons (pv 3) pa_nil)) pa_nil)))))))), ?_⟩
  obtain ⟨a, ca, ta, va, rfl, sa, da, pa, la⟩ := hf
  walk_at "z"
  refine ⟨_, _, f.1, k, rfl, da, hw, fits_bg ff.1, fits_bg fk, fun n => q.2 (fun z => n z.1) H (fun _ _ z => z), fun hc v1 H1 s1 d1 => ?_⟩
  walk_at "z"
  intro D H2 fD s2 hD
  walk_at "z"
  refine z_ixT (seqT (s1.trans s2) sa) (i := 1) rfl ?_
  have s02 := s1.trans s2
  have p2 := pa.mono s02
  have l2 := dp_monoA s02 la
  have w2 := dp_mono s02 hw
  have d2 := dp_mono s2 d1
  have hDf := fresh_of s1 fD
  have lv := dpa_len' la
  rw [List.length_map] at lv
  refine z_forTT p2.sq (fun i σ' H' => Kp D H2 H' ∧ (∃ acc, H' D = some (.lst acc) ∧ DpAll K H' acc (((f.2.take i).filterMap fun t => if t.2 * k ≠ 0 then some (t.1, t.2 * k) else none).map tmD)) ∧
      (∃ x1 x2 x3, σ' = [some (.ref a), some w', some v1, some (.ref D), x1, x2, x3]) ∧ ∀ t ∈ f.2.take i, fitsQ (t.2 * k))
    ⟨fun _ _ _ e => e, ⟨[], hD, .nil⟩, ⟨_, _, _, rfl⟩, fun _ h => (by cases h)⟩ (fun i σ' H' _ h => (p2.kp h.1 hD).sq) ?_ ?_
  · rintro i x σ' H' hx ⟨k7, ⟨acc, h7, a7⟩, ⟨x1, x2, x3, rfl⟩, fy⟩
    obtain ⟨d, hd, dx⟩ := dpa_gev' (dp_kpA k7 hD (tup_tms _) l2) hx
    rw [List.getElem?_map] at hd
    cases hy : f.2[i]? with
    | none => rw [hy] at hd; cases hd
    | some t =>
      rw [hy] at hd
      cases hd
      obtain ⟨px, wx, rfl, sx, dwx⟩ := dp_tm dx
      have mt := List.mem_of_getElem? hy
      walk_at "z"
      refine ⟨_, _, t.2, k, rfl, dwx, dp_kp k7 hD (tup_q _) w2, fits_bg (ff.mem wf mt), fits_bg fk, fun n => q.2 (fun z => n ?_) H' (same_kpD s02 hDf k7), fun hcy v8 H8 s8 d8 => ?_⟩
      · rw [← cf_mem wf.asc mt]
        exact z.2 t.1
      have fy8 : ∀ z ∈ f.2.take (i + 1), fitsQ (z.2 * k) := fun z hz => by
        rw [List.take_add_one, hy] at hz
        rcases List.mem_append.mp hz with h | h
        · exact fy z h
        · cases List.mem_singleton.mp h
          exact hcy
      walk_at "z"
      refine z_neQ d8 (show Dp K H8 _ (qD 0) from T.d_ZERO H8) ?_
      walk_at "z"
      have e8 : (f.2.take (i + 1)).filterMap (fun t => if t.2 * k ≠ 0 then some (t.1, t.2 * k) else none) = ((f.2.take i).filterMap fun t => if t.2 * k ≠ 0 then some (t.1, t.2 * k) else none) ++ (if t.2 * k ≠ 0 then [(t.1, t.2 * k)] else []) := by
        rw [List.take_add_one, hy, List.filterMap_append]
        congr 1
        by_cases c : t.2 * k ≠ 0
        · rw [if_pos c]
          show List.filterMap _ [t] = _
          rw [List.filterMap_cons, if_pos c]
          rfl
        · rw [if_neg c]
          show List.filterMap _ [t] = _
          rw [List.filterMap_cons, if_neg c]
          rfl
      have la : acc.length < 1000 := by
        have := dpa_len' a7
        rw [List.length_map] at this
        have h2 := List.length_filterMap_le (fun t : Int × Rat => if t.2 * k ≠ 0 then some (t.1, t.2 * k) else none) (f.2.take i)
        have h3 : (f.2.take i).length ≤ f.2.length := by rw [List.length_take]; omega
        omega
      refine z_if (fun c => ?_) (fun c => ?_)
      · walk_at "z"
        refine z_bmL (fun R q => by walk_at "z"; exact q) (s8 _ _ h7) ?_
        walk_at "z"
        intro p9 H9 f9 s9 h9
        walk_at "z"
        have hD9 := s9 _ _ (s8 _ _ h7)
        refine z_append hD9 la ?_
        walk_at "z"
        have k9 : Kp D H9 (upd H9 D (.lst (acc ++ [.ref p9]))) := fun b x hb e => by rw [upd_ne hb]; exact e
        refine ⟨(k7.trans' (kp_of (s8.trans s9))).trans' k9, ⟨_, upd_same, ?_⟩, ⟨_, _, _, rfl⟩, fy8⟩
        rw [e8, if_pos c, List.map_append]
        exact dp_kpA k9 hD9 (by rw [← List.map_append]; exact tup_tms _) (dpa_snoc (dp_mk h9 (.cons (.int _) (.cons (dp_mono s9 d8) .nil))) (dp_monoA (s8.trans s9) a7))
      · walk_at "z"
        refine ⟨k7.trans' (kp_of s8), ⟨acc, s8 _ _ h7, ?_⟩, ⟨_, _, _, rfl⟩, fy8⟩
        rw [e8, if_neg c, List.append_nil]
        exact dp_monoA s8 a7
  · rintro σ' H' ⟨k7, ⟨acc, h7, a7⟩, ⟨x1, x2, x3, rfl⟩, fy⟩
    rw [lv, List.take_length] at a7 fy
    walk_at "z"
    have s07 := same_kpD s02 hDf k7
    refine z_tupOfF (.inl (.inl h7)) fun t H8 ft s8 p8 => ?_
    walk_at "z"
    intro p9 H9 f9 s9 h9
    refine q.1 ⟨hc, fun u => ?_⟩ _ (f.2.filterMap fun t => if t.2 * k ≠ 0 then some (t.1, t.2 * k) else none) H9 ((s07.trans s8).trans s9) (.mk (.inl (.inl h9)) (dp_mono s9 (dp_mono s8 (dp_kp k7 hD (tup_q _) d2))) (p8.mono s9) (dp_monoA s9 (dp_monoA s8 a7))) (wf_scale wf.asc) fun u => (cf_scale f.2).resolve_right fun z => z wf.asc
    rcases cf_in (ts := f.2) u with e | e
    · show fitsQ (_ * _)
      rw [e, Rat.zero_mul]
      exact fits0
    · exact fy _ e
end
def sp_coefficient (K : PySem.W.Frag) : Sp := fun vs H Q _ => ∃ (v : V) (u : Int) (f : Fm), vs = [v, .int u] ∧ FmAt K H v f ∧ Wf f.2 ∧ ∀ w, Dp K H w (qD (cf f.2 u)) → Q w H
theorem cf_skip {ts : Tms} {i : Nat} {u : Int} {t : Int × Rat} (w : Wf ts) (e : ts[i]? = some t) (h : t.1 = u) : cf ts u = t.2 := by
  rw [← h]
  exact cf_mem w.asc (List.mem_of_getElem? e)
section
theorem ok_coefficient {P : Program} {w : World} {K : PySem.W.Frag} {mg : Str → Option Value} {base : Heap} {A : Nat → Addr} {D : Nat → FuncData} (T : Txt K mg A D) : FnOk P w K mg base (L2.CX P w) 1 (A 10) (D 10) ["form", "unknown"] (sp_coefficient K) := by
  refine T.F_coefficient.okX sc_coefficient (fun vs H Q E h => ?_) (fun cdv A' outer s H vs Q E hr h => ?_)
  · obtain ⟨v, u, f, rfl, _⟩ := h
    rfl
  obtain ⟨v, u, f, rfl, hf, wf, q⟩ := h
  refine ⟨_, (pss_cons (ps_for (passes_of rfl) rfl (pi_tup (pe_ix ix_tup (pv 0) pe_int (fun _ _ => rfl))) (pg_tup (by rfl) (pgs_cons (pg_name (i := 2) sc_coefficient.nd rfl (.inl rfl)) (pgs_cons (pg_name (i := 3) sc_coefficient.nd rfl (.inl rfl)) pgs_nil)))
  (pss_one (ps_if (pt_cmpR op_eq (pv 2) (pv 1) (nomark _))
  (pss_one (ps_ret (pv 3)))
  pss_nil)))
  (pss_one (ps_ret (Z.pe_globR T.c_ZERO)))), ?_⟩
  obtain ⟨a, ca, ta, va, rfl, sa, da, pa, la⟩ := hf
  walk_at "z"
  have lv := dpa_len' la
  rw [List.length_map] at lv
  refine z_forTT pa.sq (fun i σ' H' => H' = H ∧ (∃ x1 x2, σ' = [some (.ref a), some (.int u), x1, x2]) ∧ ∀ t ∈ f.2.take i, t.1 ≠ u) ⟨rfl, ⟨_, _, rfl⟩, fun _ h => (by cases h)⟩ (fun i σ' H' _ h => by rw [h.1]; exact pa.sq) ?_ ?_
  · rintro i x σ' H' hx ⟨rfl, ⟨x1, x2, rfl⟩, no⟩
    obtain ⟨d, hd, dx⟩ := dpa_gev' la hx
    rw [List.getElem?_map] at hd
    cases hy : f.2[i]? with
    | none => rw [hy] at hd; cases hd
    | some t =>
      rw [hy] at hd
      cases hd
      obtain ⟨px, wx, rfl, sx, dwx⟩ := dp_tm dx
      walk_at "z"
      refine z_if (fun c => ?_) (fun c => ?_)
      · walk_at "z"
        refine q _ ?_
        rw [cf_skip wf hy c]
        exact dwx
      · walk_at "z"
        refine ⟨rfl, ⟨_, _, rfl⟩, fun z hz => ?_⟩
        rw [List.take_add_one, hy] at hz
        rcases List.mem_append.mp hz with h | h
        · exact no z h
        · cases List.mem_singleton.mp h
          exact c
  · rintro σ' H' ⟨rfl, ⟨x1, x2, rfl⟩, no⟩
    rw [lv, List.take_length] at no
    walk_at "z"
    refine q _ ?_
    rw [cf_none no]
    exact T.d_ZERO _
end



def sp_replace (K : PySem.W.Frag) (A : Nat → Addr) : Sp := fun vs H Q E => ∃ (v w : V) (u : Int) (f g : Fm) (U : List Int), vs = [v, .int u, w] ∧ FmAt K H v f ∧ FmAt K H w g ∧ Wf f.2 ∧ Wf g.2 ∧ FitF f ∧ FitF g ∧ U.length < 64 ∧ Keys f.2 U ∧ Keys g.2 U ∧
  (cf f.2 u = 0 → Q v H) ∧ (cf f.2 u ≠ 0 → (¬ (fitsQ (g.1 * cf f.2 u) ∧ ∀ x, fitsQ (cf g.2 x * cf f.2 u)) → ∀ H', Same H H' → E (.ref (A 1)) none H') ∧
    ((fitsQ (g.1 * cf f.2 u) ∧ ∀ x, fitsQ (cf g.2 x * cf f.2 u)) → RetF K A (f.1 + g.1 * cf f.2 u) (fun x => (if x = u then 0 else cf f.2 x) + cf g.2 x * cf f.2 u) H Q E))
theorem RetF.mono {K : PySem.W.Frag} {A : Nat → Addr} {c : Rat} {r : Int → Rat} {H H' : Hp} {Q : VK} {E : XK} (s : Same H H') (h : RetF K A c r H Q E) : RetF K A c r H' Q E :=
  ⟨fun ok v ts H2 s2 => h.1 ok v ts H2 (s.trans s2), fun no H2 s2 => h.2 no H2 (s.trans s2)⟩
theorem without_map (u : Int) : ∀ ts : Tms, (ts.map fun t => if t.1 = u then none else some (tmD t)).filterMap id = (ts.filter fun t => decide (¬ t.1 = u)).map tmD
  | [] => rfl
  | t :: r => by
    have ih := without_map u r
    rw [List.map_cons, List.filter_cons]
    by_cases c : t.1 = u
    · rw [if_pos c, if_neg (by simp [c])]
      exact ih
    · rw [if_neg c, if_pos (by simp [c])]
      show tmD t :: _ = _
      rw [ih]
      rfl
section
theorem ok_replace_unknown {P : Program} {w : World} {K : PySem.W.Frag} {mg : Str → Option Value} {base : Heap} {A : Nat → Addr} {D : Nat → FuncData} (T : Txt K mg A D) : FnOk P w K mg base (L2.CX P w) 5 (A 9) (D 9) ["form", "unknown", "other"] (sp_replace K A) := by
  refine T.F_replace_unknown.okX sc_replace_unknown (fun vs H Q E h => ?_) (fun cdv A' outer s H vs Q E hr h => ?_)
  · obtain ⟨v, w', u, f, g, U, rfl, _⟩ := h
    rfl
  obtain ⟨v, w', u, f, g, U, rfl, hf, hg, wf, wg, ff, fg, hU, kf, kg, q0, q1⟩ := h
  refine ⟨_, (pss_cons (ps_set (i := 3) sc_replace_unknown.nd rfl (.inl rfl) (pe_call (ok_coefficient T) (hr.mono (by decide)) (by rfl) T.m_coefficient T.F_coefficient.kp T.b_coefficient .nil (passes_call (takes_of rfl rfl rfl rfl) (fun _ _ _ _ h => h)) (pa_cons (pv 0) (pa_cons (pv 1) pa_nil))))
  (pss_cons (ps_if (pt_cmpR (op_eqD hr.units) (pv 3) (Z.pe_globR T.c_ZERO) (nomark _))
  (pss_one (ps_ret (pv 0)))
  pss_nil)
  (pss_cons (ps_setLc (i := 4) (own := [("term", 5)]) (g := gName 5) rfl sc_replace_unknown.nd rfl rfl (sw_true rfl rfl rfl (by decide +kernel)) (pi_tup (pe_ix ix_tup (pv 0) pe_int (fun _ _ => rfl))) (blkOk_by (N := ["form", "unknown", "other", "factor", "terms", "term"]) (sc := defScope s_replace_unknown) (by decide +kernel)) (fun _ _ _ _ _ => pg_name (i := 5) sc_replace_unknown.nd rfl (Or.inl rfl)) (fun _ _ _ _ _ => (pts_one (pt_cmpR op_ne (pe_ix (show IxR _ (rIxT K) from ix_tup) (pv 5) pe_int (fun _ _ => rfl)) (pv 1) (nomark _)))) (fun _ _ _ _ _ => (pv 5)))
  (pss_one (ps_ret (pe_call (ok_add_forms T) (hr.mono (by decide)) (by rfl) T.m_add_forms T.F_add_forms.kp T.b_add_forms .nil (passes_call (takes_of rfl rfl rfl rfl) (fun _ _ _ _ h => h)) (pa_cons (pe_tup (pa_cons (pe_ix ix_tup (pv 0) pe_int (fun _ _ => rfl)) (pa_cons (pe_callTy Dm.c_tupOfF (by rfl) T.z_tuple (by decide +kernel) (pa_cons (pv 4) pa_nil)) pa_nil))) (pa_cons (pe_call (ok_scale_form T) (hr.mono (by decide)) (by rfl) T.m_scale_form T.F_scale_form.kp T.b_scale_form .nil (passes_call (takes_of rfl rfl rfl rfl) (fun _ _ _ _ h => h)) (pa_cons (pv 2) (pa_cons (pv 3) pa_nil))) pa_nil)))))))), ?_⟩
  walk_at "z"
  refine ⟨v, u, f, rfl, hf, wf, fun w1 d1 => ?_⟩
  walk_at "z"
  refine z_eqQ d1 (show Dp K H _ (qD 0) from T.d_ZERO H) ?_
  walk_at "z"
  refine z_if (fun c => ?_) (fun c => ?_)
  · walk_at "z"
    exact q0 c
  obtain ⟨qn, qy⟩ := q1 c
  have hf' := hf
  obtain ⟨a, ca, ta, va, rfl, sa, da, pa, la⟩ := hf
  walk_at "z"
  have lv := dpa_len' la
  rw [List.length_map] at lv
  have kl := keys_len wf kf
  have kl2 := keys_len wg kg
  refine z_lcTT (f.2.map fun t => if t.1 = u then none else some (tmD t)) (by rw [List.length_map, lv]) (by omega) pa.sq (fun d hd => ?_) (fun i x H' R R0 hx s' k1 k0 => ?_) fun D acc H2 fD s2 hD dA => ?_
  · obtain ⟨t, _, e⟩ := List.mem_map.mp hd
    split at e
    · cases e
    · cases e
      rfl
  · obtain ⟨d, hd, dx⟩ := dpa_gev' (dp_monoA s' la) hx
    rw [List.getElem?_map] at hd k1 k0
    cases hy : f.2[i]? with
    | none => rw [hy] at hd; cases hd
    | some t =>
      rw [hy] at hd k1 k0
      cases hd
      obtain ⟨px, wx, rfl, sx, dwx⟩ := dp_tm dx
      walk_at "z"
      refine ⟨rfl, ?_⟩
      walk_at "z"
      refine z_if (fun c2 => ?_) (fun c2 => ?_)
      · walk_at "z"
        exact k1 (tmD t) (by rw [Option.map_some, if_neg c2]) _ _ (fun _ _ e => e) dx
      · exact k0 (by rw [Option.map_some, if_pos (Decidable.of_not_not c2)]) _ (fun _ _ e => e)
  · rw [without_map] at dA
    walk_at "z"
    refine z_ixT (seqT s2 sa) (i := 0) rfl ?_
    walk_at "z"
    refine z_tupOfF (.inl (.inl hD)) fun t H3 f3 s3 p3 => ?_
    walk_at "z"
    intro p4 H4 f4 s4 h4
    walk_at "z"
    have s04 := (s2.trans s3).trans s4
    refine ⟨w', w1, g, cf f.2 u, rfl, hg.mono s04, dp_mono s04 d1, wg, fg, ff.2 u, by omega, fun ok v5 ts5 H5 s5 m5 w5 c5 => ?_, fun no H' s' => qn no H' (s04.trans s')⟩
    walk_at "z"
    have c5 : ∀ x, cf ts5 x = cf g.2 x * cf f.2 u := c5
    have ok : fitsQ (g.1 * cf f.2 u) ∧ ∀ x, fitsQ (cf g.2 x * cf f.2 u) := ok
    have s34 := s3.trans s4
    have e0 : FmAt K H5 (.ref p4) (f.1, f.2.filter fun t => decide (¬ t.1 = u)) := FmAt.mono s5 (.mk (.inl (.inl h4)) (dp_mono s04 da) (p3.mono s4) (dp_monoA s34 dA))
    have w0 := wf_without (v := u) wf
    have kk5 : Keys ts5 U := fun t ht => by
      have h1 := cf_mem w5.asc ht
      rw [c5] at h1
      have h2 : cf g.2 t.1 ≠ 0 := fun z => w5.nz t ht (by rw [← h1, z, Rat.zero_mul])
      obtain ⟨t2, ht2, e2⟩ := cf_ne h2
      rw [← e2]
      exact kg t2 ht2
    refine ⟨_, _, _, _, U, rfl, e0, m5, w0, w5, ⟨ff.1, fun x => ?_⟩, ⟨ok.1, fun x => by rw [c5]; exact ok.2 x⟩, hU, fun t ht => kf t (List.mem_filter.mp ht).1, kk5, ?_⟩
    · rw [cf_without]
      split
      · exact fits0
      · exact ff.2 x
    · have r := (qy ok).mono (s04.trans s5)
      have e : (fun x => (if x = u then 0 else cf f.2 x) + cf g.2 x * cf f.2 u) = fun x => cf (f.2.filter fun t => decide (¬ t.1 = u)) x + cf ts5 x := by
        funext x
        rw [cf_without, c5]
      rw [e] at r
      exact r
end

/-! ### streams and new lists -/
theorem kp_at {H : Hp} {D : Addr} {o : HO} : Kp D H (upd H D o) := fun b x hb e => by
  rw [upd_ne hb]
  exact e
theorem sd_updq {H0 H : Hp} {p q : Addr} {o : HO} (S : Sd H0 H p) (h0 : H0 q = none) (hq : q ≠ p) : Sd H0 (upd H q o) p := by
  obtain ⟨a, b, m, e⟩ := S.stm
  refine ⟨fun c x hc => ?_, S.fresh, a, b, m, by rw [upd_ne (Ne.symm hq)]; exact e⟩
  rw [upd_ne (ne_of_none hc h0)]
  exact S.same c x hc
theorem kp_updq {p q : Addr} {H H1 : Hp} {o : HO} (k : Kp p H H1) (h : H q = none) : Kp p H (upd H1 q o) := fun b x hb e => by
  rw [upd_ne (ne_of_none e h)]
  exact k b x hb e
theorem dpa_sdq {K : PySem.W.Frag} {H0 H H' : Hp} {p : Addr} {vs : List V} {ds : List PyData} (S : Sd H0 H p) (k : Kp p H H') (t : tupOnlyA ds = true) (h : DpAll K H vs ds) : DpAll K H' vs ds := by
  obtain ⟨a, b, m, e⟩ := S.stm
  exact dp_kpA k e t h
/-! ### the law's forms -/
def Bt (t : Int × Rat) : Prop := Bd t.2 99 12
def sp__law_small99 (K : PySem.W.Frag) : Sp := fun vs H Q _ => ∃ (p : Addr) (H0 : Hp), vs = [.ref p] ∧ Sd H0 H p ∧ ∀ (v : V) (r : Rat) (H' : Hp), Bd r 99 12 → Sd H0 H' p → Kp p H H' → Dp K H' v (qD r) → Q v H'
theorem qI (n : Int) : qD (n : Rat) = .tuple [.int n, .int 1] := by
  unfold qD
  rw [Rat.num_intCast, Rat.den_intCast]
  rfl
section
theorem ok__law_small {P : Program} {w : World} {K : PySem.W.Frag} {mg : Str → Option Value} {base : Heap} {A : Nat → Addr} {D : Nat → FuncData} (T : Txt K mg A D) : FnOk P w K mg base (L2.CX P w) 2 (A 17) (D 17) ["stream"] (sp__law_small99 K) := by
  refine T.F__law_small.okX sc__law_small (fun vs H Q E h => ?_) (fun cdv A' outer s H vs Q E hr h => ?_)
  · obtain ⟨p, H0, rfl, _⟩ := h
    rfl
  obtain ⟨p, H0, rfl, S, q⟩ := h
  refine ⟨_, (pss_cons (ps_if (pt_cmpR op_eq (pe_call (ok__law_next T) (hr.mono (by decide)) (by rfl) T.m__law_next T.F__law_next.kp T.b__law_next .nil (passes_call (takes_of rfl rfl rfl rfl) (fun _ _ _ _ h => h)) (pa_cons (pv 0) (pa_cons pe_int pa_nil))) pe_int (nomark _))
  (pss_one (ps_ret (pe_tup (pa_cons (pe_op op_sub (pe_call (ok__law_next T) (hr.mono (by decide)) (by rfl) T.m__law_next T.F__law_next.kp T.b__law_next .nil (passes_call (takes_of rfl rfl rfl rfl) (fun _ _ _ _ h => h)) (pa_cons (pv 0) (pa_cons pe_int pa_nil))) pe_int) (pa_cons pe_int pa_nil)))))
  pss_nil)
  (pss_one (ps_ret (pe_call (ok__law_ratio T) (hr.mono (by decide)) (by rfl) T.m__law_ratio T.F__law_ratio.kp T.b__law_ratio .nil (passes_call (takes_of rfl rfl rfl rfl) (fun _ _ _ _ h => h)) (pa_cons (pe_op op_sub (pe_call (ok__law_next T) (hr.mono (by decide)) (by rfl) T.m__law_next T.F__law_next.kp T.b__law_next .nil (passes_call (takes_of rfl rfl rfl rfl) (fun _ _ _ _ h => h)) (pa_cons (pv 0) (pa_cons pe_int pa_nil))) pe_int) (pa_cons (pe_op op_add (pe_call (ok__law_next T) (hr.mono (by decide)) (by rfl) T.m__law_next T.F__law_next.kp T.b__law_next .nil (passes_call (takes_of rfl rfl rfl rfl) (fun _ _ _ _ h => h)) (pa_cons (pv 0) (pa_cons pe_int pa_nil))) pe_int) pa_nil)))))), ?_⟩
  walk_at "z"
  refine nx S (by decide) (lt1000 (by decide)) fun k H1 k0 k1 S1 e1 => ?_
  walk_at "z"
  refine z_if (fun c => ?_) (fun c => ?_)
  · walk_at "z"
    refine nx S1 (by decide) (lt1000 (by decide)) fun n H2 n0 n1 S2 e2 => ?_
    walk_at "z"
    intro p9 H9 _ s9 h9
    refine q _ ((n - 9 : Int) : Rat) H9 ⟨?_, ?_⟩ (S2.mono s9) (((kp_eq e1).trans' (kp_eq e2)).trans' (kp_of s9)) ?_
    · rw [Rat.num_intCast]
      omega
    · rw [Rat.den_intCast]
      decide
    · rw [qI]
      exact dp_mk h9 (.cons (.int _) (.cons (.int _) .nil))
  · walk_at "z"
    refine nx S1 (by decide) (lt1000 (by decide)) fun n H2 n0 n1 S2 e2 => ?_
    walk_at "z"
    refine nx S2 (by decide) (lt1000 (by decide)) fun d H3 d0 d1 S3 e3 => ?_
    walk_at "z"
    refine ⟨_, _, rfl, by omega, lt400 (by omega), lt400 (by omega), fun v H9 s9 h9 => ?_⟩
    have hb := bd_divInt (n := n - 99) (d := d + 1) (by omega)
    exact q _ _ H9 (hb.le (by omega) (by omega)) (S3.mono s9) ((((kp_eq e1).trans' (kp_eq e2)).trans' (kp_eq e3)).trans' (kp_of s9)) h9
end
theorem FmAt.sd {K : PySem.W.Frag} {H0 H H' : Hp} {p : Addr} {v : V} {f : Fm} (S : Sd H0 H p) (k : Kp p H H') (h : FmAt K H v f) : FmAt K H' v f := by
  obtain ⟨a, b, m, e⟩ := S.stm
  exact h.kp k e
/-- what is drawn: terms below a size -/
structure Drw (size : Int) (f : Fm) : Prop where
  wf : Wf f.2
  at_ : ∀ t ∈ f.2, 0 ≤ t.1 ∧ t.1 < size ∧ Bd t.2 99 12
  c : Bd f.1 99 12
def sp__law_form (K : PySem.W.Frag) : Sp := fun vs H Q _ => ∃ (p : Addr) (size : Nat) (H0 : Hp), vs = [.ref p, .int (size : Int)] ∧ size ≤ 100 ∧ Sd H0 H p ∧ ∀ (v : V) (f : Fm) (H' : Hp), Drw size f → Sd H0 H' p → Kp p H H' → FmAt K H' v f → Q v H'
section
theorem ok__law_form {P : Program} {w : World} {K : PySem.W.Frag} {mg : Str → Option Value} {base : Heap} {A : Nat → Addr} {D : Nat → FuncData} (T : Txt K mg A D) : FnOk P w K mg base (L2.CX P w) 3 (A 18) (D 18) ["stream", "size"] (sp__law_form K) := by
  refine T.F__law_form.okX sc__law_form (fun vs H Q E h => ?_) (fun cdv A' outer s H vs Q E hr h => ?_)
  · obtain ⟨p, size, H0, rfl, _⟩ := h
    rfl
  obtain ⟨p, size, H0, rfl, hz, S, q⟩ := h
  refine ⟨_, (pss_cons (ps_set (i := 2) sc__law_form.nd rfl (.inl rfl) (pe_lst pa_nil))
  (pss_cons (ps_for (passes_of rfl) rfl (pi_range1 (by rfl) T.z_range (pa_cons (pv 1) pa_nil)) (pg_name (i := 3) sc__law_form.nd rfl (.inl rfl))
  (pss_cons (ps_set (i := 4) sc__law_form.nd rfl (.inl rfl) (pe_call (ok__law_small T) (hr.mono (by decide)) (by rfl) T.m__law_small T.F__law_small.kp T.b__law_small .nil (passes_call (takes_of rfl rfl rfl rfl) (fun _ _ _ _ h => h)) (pa_cons (pv 0) pa_nil)))
  (pss_one (ps_if (PW.pt (pw_and (pt_cmpR op_eq (pe_call (ok__law_next T) (hr.mono (by decide)) (by rfl) T.m__law_next T.F__law_next.kp T.b__law_next .nil (passes_call (takes_of rfl rfl rfl rfl) (fun _ _ _ _ h => h)) (pa_cons (pv 0) (pa_cons pe_int pa_nil))) pe_int (nomark _)) (pw_and1 (pt_cmpR op_ne (pe_ix ix_tup (pv 4) pe_int (fun _ _ => rfl)) pe_int (nomark _)))))
  (pss_one (ps_expr (pe_bm PySem.F.plainAttrs_list PySem.F.slot_list_append PySem.F.type_list_append mt_append (pv 2) (pa_cons (pe_tup (pa_cons (pv 3) (pa_cons (pv 4) pa_nil))) pa_nil))))
  pss_nil))))
  (pss_one (ps_ret (pe_tup (pa_cons (pe_call (ok__law_small T) (hr.mono (by decide)) (by rfl) T.m__law_small T.F__law_small.kp T.b__law_small .nil (passes_call (takes_of rfl rfl rfl rfl) (fun _ _ _ _ h => h)) (pa_cons (pv 0) pa_nil)) (pa_cons (pe_callTy Dm.c_tupOfF (by rfl) T.z_tuple (by decide +kernel) (pa_cons (pv 2) pa_nil)) pa_nil))))))), ?_⟩
  walk_at "z"
  intro D H1 fD s1 hD
  have hDp : D ≠ p := by
    obtain ⟨a, b, m, e⟩ := S.stm
    exact fun z => by rw [z, e] at fD; cases fD
  have hD0 : H0 D = none := S.same.free fD
  walk_at "z"
  refine z_forR1 size (by omega) (fun R q => by walk_at "z"; exact q) (fun i σ' H' => Sd H0 H' p ∧ Kp p H H' ∧ (∃ x1 x2, σ' = [some (.ref p), some (.int (size : Int)), some (.ref D), x1, x2]) ∧
      ∃ acc ts, H' D = some (.lst acc) ∧ DpAll K H' acc (ts.map tmD) ∧ Wf ts ∧ (∀ t ∈ ts, 0 ≤ t.1 ∧ t.1 < (i : Int) ∧ Bd t.2 99 12) ∧ acc.length ≤ i)
    ⟨S.mono s1, kp_of s1, ⟨_, _, rfl⟩, [], [], hD, .nil, ⟨.nil, fun _ h => by cases h⟩, fun _ h => (by cases h), Nat.le_refl _⟩ ?_ ?_
  · rintro i σ' H' hi ⟨S1, k1, ⟨x1, x2, rfl⟩, acc, ts, hA, dA, wf, ba, la⟩
    walk_at "z"
    refine ⟨p, H0, rfl, S1, fun v r H2 br S2 k2 hv => ?_⟩
    have hA2 := k2 _ _ hDp hA
    have dA2 := dpa_sdq S1 k2 (tup_tms _) dA
    walk_at "z"
    refine nx S2 (by decide) (lt1000 (by decide)) fun z H3 z0 z1 S3 e3 => ?_
    have k3 := kp_eq e3
    have hA3 := k3 _ _ hDp hA2
    have dA3 := dpa_sdq S2 k3 (tup_tms _) dA2
    have hv3 := kp_sd S2 k3 rfl hv
    have keep : Sd H0 H3 p ∧ Kp p H H3 ∧ (∃ y1 y2, ([some (.ref p), some (.int (size : Int)), some (.ref D), some (.int (i : Int)), some v] : L2.St) = [some (.ref p), some (.int (size : Int)), some (.ref D), y1, y2]) ∧
      ∃ acc ts, H3 D = some (.lst acc) ∧ DpAll K H3 acc (ts.map tmD) ∧ Wf ts ∧ (∀ t ∈ ts, 0 ≤ t.1 ∧ t.1 < ((i + 1 : Nat) : Int) ∧ Bd t.2 99 12) ∧ acc.length ≤ i + 1 :=
      ⟨S3, (k1.trans' k2).trans' k3, ⟨_, _, rfl⟩, acc, ts, hA3, dA3, wf, fun t ht => by have := ba t ht; exact ⟨this.1, by omega, this.2.2⟩, by omega⟩
    obtain ⟨pv, rfl, spv⟩ := dp_q hv3
    walk_at "z"
    refine z_if (fun c1 => ?_) (fun c1 => ?_)
    · walk_at "z"
      refine z_if (fun c2 => ?_) (fun c2 => ?_)
      · walk_at "z"
        refine z_bmL (fun R q => by walk_at "z"; exact q) hA3 ?_
        walk_at "z"
        intro p9 H9 f9 s9 h9
        walk_at "z"
        have hA9 := s9 _ _ hA3
        refine z_append hA9 (by omega) ?_
        walk_at "z"
        have k9 : Kp D H9 (upd H9 D (.lst (acc ++ [.ref p9]))) := kp_at
        have r0 : r ≠ 0 := fun z => c2 (by rw [z]; rfl)
        refine ⟨sd_updq (S3.mono s9) hD0 hDp, kp_updq (((k1.trans' k2).trans' k3).trans' (kp_of s9)) fD, ⟨_, _, rfl⟩, acc ++ [.ref p9], ts ++ [((i : Int), r)], upd_same, ?_, ⟨?_, ?_⟩, ?_, by simp; omega⟩
        · rw [List.map_append]
          exact dp_kpA k9 hA9 (by rw [← List.map_append]; exact tup_tms _) (dpa_snoc (dp_mk h9 (.cons (.int _) (.cons (dp_mono s9 hv3) .nil))) (dp_monoA s9 dA3))
        · rw [List.pairwise_append]
          refine ⟨wf.asc, List.pairwise_singleton _ _, fun a ha b hb => ?_⟩
          rw [List.mem_singleton.mp hb]
          exact (ba a ha).2.1
        · intro t ht
          rcases List.mem_append.mp ht with h | h
          · exact wf.nz t h
          · rw [List.mem_singleton.mp h]
            exact r0
        · intro t ht
          rcases List.mem_append.mp ht with h | h
          · have := ba t h
            exact ⟨this.1, by omega, this.2.2⟩
          · rw [List.mem_singleton.mp h]
            exact ⟨by show (0 : Int) ≤ (i : Int); omega, by show (i : Int) < _; omega, br⟩
      · walk_at "z"
        exact keep
    · walk_at "z"
      exact keep
  · rintro σ' H' ⟨S1, k1, ⟨x1, x2, rfl⟩, acc, ts, hA, dA, wf, ba, la⟩
    walk_at "z"
    refine ⟨p, H0, rfl, S1, fun v r H2 br S2 k2 hv => ?_⟩
    have hA2 := k2 _ _ hDp hA
    have dA2 := dpa_sdq S1 k2 (tup_tms _) dA
    walk_at "z"
    refine z_tupOfF (.inl (.inl hA2)) fun t H3 f3 s3 p3 => ?_
    walk_at "z"
    intro p4 H4 f4 s4 h4
    have s34 := s3.trans s4
    exact q _ (r, ts) H4 ⟨wf, ba, br⟩ (S2.mono s34) ((k1.trans' k2).trans' (kp_of s34)) (.mk (.inl (.inl h4)) (dp_mono s34 hv) (p3.mono s4) (dp_monoA s34 dA2))
end
def sp__law_factor (K : PySem.W.Frag) : Sp := fun vs H Q _ => ∃ (v x : V) (f : Fm), vs = [v, x] ∧ FmAt K H v f ∧ Wf f.2 ∧ ((x = .non ∧ ∀ w, Dp K H w (qD f.1) → Q w H) ∨ ∃ u, x = .int u ∧ ∀ w H', Same H H' → Dp K H' w (qD (cf f.2 u)) → Q w H')
section
theorem ok__law_factor {P : Program} {w : World} {K : PySem.W.Frag} {mg : Str → Option Value} {base : Heap} {A : Nat → Addr} {D : Nat → FuncData} (T : Txt K mg A D) : FnOk P w K mg base (L2.CX P w) 1 (A 19) (D 19) ["form", "unknown"] (sp__law_factor K) := by
  refine T.F__law_factor.okX sc__law_factor (fun vs H Q E h => ?_) (fun cdv A' outer s H vs Q E hr h => ?_)
  · obtain ⟨v, x, f, rfl, _⟩ := h
    rfl
  obtain ⟨v, x, f, rfl, hf, wf, q⟩ := h
  refine ⟨_, (pss_cons (ps_if (pt_cmpR Z.op_isN1 (pv 1) pe_non (nomark _))
  (pss_one (ps_ret (pe_ix ix_tup (pv 0) pe_int (fun _ _ => rfl))))
  pss_nil)
  (pss_cons (ps_for (passes_of rfl) rfl (pi_tup (pe_ix ix_tup (pv 0) pe_int (fun _ _ => rfl))) (pg_tup (by rfl) (pgs_cons (pg_name (i := 2) sc__law_factor.nd rfl (.inl rfl)) (pgs_cons (pg_name (i := 3) sc__law_factor.nd rfl (.inl rfl)) pgs_nil)))
  (pss_one (ps_if (pt_cmpR op_eq (pv 2) (pv 1) (nomark _))
  (pss_one (ps_ret (pv 3)))
  pss_nil)))
  (pss_one (ps_ret (pe_tup (pa_cons pe_int (pa_cons pe_int pa_nil))))))), ?_⟩
  obtain ⟨a, ca, ta, va, rfl, sa, da, pa, la⟩ := hf
  rcases q with ⟨rfl, q⟩ | ⟨u, rfl, q⟩
  · walk_at "z"
    exact q _ da
  walk_at "z"
  refine z_isNI ?_
  walk_at "z"
  have lv := dpa_len' la
  rw [List.length_map] at lv
  refine z_forTT pa.sq (fun i σ' H' => H' = H ∧ (∃ x1 x2, σ' = [some (.ref a), some (.int u), x1, x2]) ∧ ∀ t ∈ f.2.take i, t.1 ≠ u) ⟨rfl, ⟨_, _, rfl⟩, fun _ h => (by cases h)⟩ (fun i σ' H' _ h => by rw [h.1]; exact pa.sq) ?_ ?_
  · rintro i x σ' H' hx ⟨rfl, ⟨x1, x2, rfl⟩, no⟩
    obtain ⟨d, hd, dx⟩ := dpa_gev' la hx
    rw [List.getElem?_map] at hd
    cases hy : f.2[i]? with
    | none => rw [hy] at hd; cases hd
    | some t =>
      rw [hy] at hd
      cases hd
      obtain ⟨px, wx, rfl, sx, dwx⟩ := dp_tm dx
      walk_at "z"
      refine z_if (fun c => ?_) (fun c => ?_)
      · walk_at "z"
        refine q _ _ (fun _ _ e => e) ?_
        rw [cf_skip wf hy c]
        exact dwx
      · walk_at "z"
        refine ⟨rfl, ⟨_, _, rfl⟩, fun z hz => ?_⟩
        rw [List.take_add_one, hy] at hz
        rcases List.mem_append.mp hz with h | h
        · exact no z h
        · cases List.mem_singleton.mp h
          exact c
  · rintro σ' H' ⟨rfl, ⟨x1, x2, rfl⟩, no⟩
    rw [lv, List.take_length] at no
    walk_at "z"
    intro p9 H9 f9 s9 h9
    refine q _ H9 s9 ?_
    rw [cf_none no]
    exact dp_mk h9 (.cons (.int _) (.cons (.int _) .nil))
end
def sp__law_is_form (K : PySem.W.Frag) : Sp := fun vs H Q _ => ∃ (v : V) (size : Int) (f : Fm), vs = [v, .int size] ∧ FmAt K H v f ∧ Wf f.2 ∧ (∀ t ∈ f.2, 0 ≤ t.1 ∧ t.1 < size) ∧ Q (.bl true) H
section
theorem ok__law_is_form {P : Program} {w : World} {K : PySem.W.Frag} {mg : Str → Option Value} {base : Heap} {A : Nat → Addr} {D : Nat → FuncData} (T : Txt K mg A D) : FnOk P w K mg base (L2.CX P w) 3 (A 22) (D 22) ["actual", "size"] (sp__law_is_form K) := by
  refine T.F__law_is_form.okX sc__law_is_form (fun vs H Q E h => ?_) (fun cdv A' outer s H vs Q E hr h => ?_)
  · obtain ⟨v, size, f, rfl, _⟩ := h
    rfl
  obtain ⟨v, size, f, rfl, hf, wf, ra, q⟩ := h
  refine ⟨_, (pss_cons (ps_if (PW.pt (pw_or (pt_not (pt_val (pe_callB call_isi (by rfl) T.z_isinstance (by decide +kernel) (pa_cons (pv 0) (pa_cons (pe_bltn (v := .ty "tuple") (by rfl) T.z_tuple (by decide +kernel) rfl) pa_nil))))) (pw_or (pt_cmpR op_ne (pe_callB Z.c_len (by rfl) T.z_len (by decide +kernel) (pa_cons (pv 0) pa_nil)) pe_int (nomark _)) (pw_or1 (pt_not (pt_val (pe_call (ok__law_is_number T) (hr.mono (by decide)) (by rfl) T.m__law_is_number T.F__law_is_number.kp T.b__law_is_number .nil (passes_call (takes_of rfl rfl rfl rfl) (fun _ _ _ _ h => h)) (pa_cons (pe_ix ix_tup (pv 0) pe_int (fun _ _ => rfl)) pa_nil))))))))
  (pss_one (ps_ret pe_bl))
  pss_nil)
  (pss_cons (ps_if (pt_not (pt_val (pe_callB call_isi (by rfl) T.z_isinstance (by decide +kernel) (pa_cons (pe_ix ix_tup (pv 0) pe_int (fun _ _ => rfl)) (pa_cons (pe_bltn (v := .ty "tuple") (by rfl) T.z_tuple (by decide +kernel) rfl) pa_nil)))))
  (pss_one (ps_ret pe_bl))
  pss_nil)
  (pss_cons (ps_set (i := 2) sc__law_is_form.nd rfl (.inl rfl) (pe_un un_neg pe_int))
  (pss_cons (ps_for (passes_of rfl) rfl (pi_tup (pe_ix ix_tup (pv 0) pe_int (fun _ _ => rfl))) (pg_name (i := 3) sc__law_is_form.nd rfl (.inl rfl))
  (pss_cons (ps_if (PW.pt (pw_or (pt_not (pt_val (pe_callB call_isi (by rfl) T.z_isinstance (by decide +kernel) (pa_cons (pv 3) (pa_cons (pe_bltn (v := .ty "tuple") (by rfl) T.z_tuple (by decide +kernel) rfl) pa_nil))))) (pw_or (pt_cmpR op_ne (pe_callB Z.c_len (by rfl) T.z_len (by decide +kernel) (pa_cons (pv 3) pa_nil)) pe_int (nomark _)) (pw_or1 (pt_not (pt_val (pe_call (ok__law_is_integer T) (hr.mono (by decide)) (by rfl) T.m__law_is_integer T.F__law_is_integer.kp T.b__law_is_integer .nil (passes_call (takes_of rfl rfl rfl rfl) (fun _ _ _ _ h => h)) (pa_cons (pe_ix ix_tup (pv 3) pe_int (fun _ _ => rfl)) pa_nil))))))))
  (pss_one (ps_ret pe_bl))
  pss_nil)
  (pss_cons (ps_if (PW.pt (pw_or (pt_cmpR op_le (pe_ix ix_tup (pv 3) pe_int (fun _ _ => rfl)) (pv 2) (nomark _)) (pw_or (pt_cmpR op_ge (pe_ix ix_tup (pv 3) pe_int (fun _ _ => rfl)) (pv 1) (nomark _)) (pw_or (pt_not (pt_val (pe_call (ok__law_is_number T) (hr.mono (by decide)) (by rfl) T.m__law_is_number T.F__law_is_number.kp T.b__law_is_number .nil (passes_call (takes_of rfl rfl rfl rfl) (fun _ _ _ _ h => h)) (pa_cons (pe_ix ix_tup (pv 3) pe_int (fun _ _ => rfl)) pa_nil)))) (pw_or1 (pt_cmpR op_eq (pe_ix ix_tup (pe_ix ix_tup (pv 3) pe_int (fun _ _ => rfl)) pe_int (fun _ _ => rfl)) pe_int (nomark _)))))))
  (pss_one (ps_ret pe_bl))
  pss_nil)
  (pss_one (ps_set (i := 2) sc__law_is_form.nd rfl (.inl rfl) (pe_ix ix_tup (pv 3) pe_int (fun _ _ => rfl)))))))
  (pss_one (ps_ret pe_bl)))))), ?_⟩
  obtain ⟨a, ca, ta, va, rfl, sa, da, pa, la⟩ := hf
  have sp := pa.sq (K := K)
  walk_at "z"
  refine ⟨ca, f.1, rfl, da, ?_⟩
  walk_at "z"
  have lv := dpa_len' la
  rw [List.length_map] at lv
  refine z_forTT sp (fun i σ' H' => H' = H ∧ ∃ (b : Int) (x : Option V), σ' = [some (.ref a), some (.int size), some (.int b), x] ∧ ∀ t ∈ f.2.drop i, b < t.1) ⟨rfl, _, _, rfl, fun t ht => by have := (ra t ht).1; omega⟩ (fun i σ' H' _ h => by rw [h.1]; exact sp) ?_ ?_
  · rintro i x σ' H' hx ⟨rfl, b, x1, rfl, lb⟩
    obtain ⟨d, hd, dx⟩ := dpa_gev' la hx
    rw [List.getElem?_map] at hd
    cases hy : f.2[i]? with
    | none => rw [hy] at hd; cases hd
    | some t =>
      rw [hy] at hd
      cases hd
      obtain ⟨px, wx, rfl, sx, dwx⟩ := dp_tm dx
      have mt := List.mem_of_getElem? hy
      have ed : f.2.drop i = t :: f.2.drop (i + 1) := by
        obtain ⟨ii, e⟩ := List.getElem?_eq_some_iff.mp hy
        rw [List.drop_eq_getElem_cons ii, e]
      have c1 := lb t (by rw [ed]; exact .head _)
      have c2 := ra t mt
      obtain ⟨pw, rfl, spw⟩ := dp_q dwx
      have nz : ¬ t.2.num = 0 := fun z => wf.nz t mt (Rat.num_eq_zero.mp z)
      walk_at "z"
      refine z_if (fun c => by omega) (fun _ => ?_)
      walk_at "z"
      refine z_if (fun c => by omega) (fun _ => ?_)
      walk_at "z"
      refine ⟨_, t.2, rfl, dwx, ?_⟩
      walk_at "z"
      refine z_if (fun c => absurd c nz) (fun _ => ?_)
      walk_at "z"
      refine ⟨rfl, _, _, rfl, fun s hs => ?_⟩
      have pd := wf.asc.sublist (List.drop_sublist i f.2)
      rw [ed] at pd
      exact (List.pairwise_cons.mp pd).1 s hs
  · rintro σ' H' ⟨rfl, b, x1, rfl, lb⟩
    walk_at "z"
    exact q
end
def mvT (start stride : Int) (ts : Tms) : Tms := ts.map fun t => (start + stride * t.1, t.2)
theorem mv_wf {start stride : Int} {ts : Tms} (h : Wf ts) (hs : 1 ≤ stride) : Wf (mvT start stride ts) := by
  refine ⟨?_, fun t ht => ?_⟩
  · unfold mvT
    rw [List.pairwise_map]
    refine h.asc.imp fun {a b} z => ?_
    show start + stride * a.1 < start + stride * b.1
    have : stride * a.1 < stride * b.1 := Int.mul_lt_mul_of_pos_left z (by omega)
    omega
  · obtain ⟨s, hs2, rfl⟩ := List.mem_map.mp ht
    exact h.nz s hs2
def sp__law_moved (K : PySem.W.Frag) : Sp := fun vs H Q _ => ∃ (v : V) (start stride : Int) (f : Fm), vs = [v, .int start, .int stride] ∧ FmAt K H v f ∧ f.2.length ≤ 900 ∧ (∀ t ∈ f.2, 0 ≤ t.1 ∧ t.1 < 100) ∧ 0 ≤ stride ∧ stride < 1000 ∧ ∀ w H', Same H H' → FmAt K H' w (f.1, mvT start stride f.2) → Q w H'
section
theorem ok__law_moved {P : Program} {w : World} {K : PySem.W.Frag} {mg : Str → Option Value} {base : Heap} {A : Nat → Addr} {D : Nat → FuncData} (T : Txt K mg A D) : FnOk P w K mg base (L2.CX P w) 1 (A 23) (D 23) ["form", "start", "stride"] (sp__law_moved K) := by
  refine T.F__law_moved.okX sc__law_moved (fun vs H Q E h => ?_) (fun cdv A' outer s H vs Q E hr h => ?_)
  · obtain ⟨v, start, stride, f, rfl, _⟩ := h
    rfl
  obtain ⟨v, start, stride, f, rfl, hf, fl, ra, h0, h1, q⟩ := h
  refine ⟨_, (pss_one (ps_ret (pe_tup (pa_cons (pe_ix ix_tup (pv 0) pe_int (fun _ _ => rfl)) (pa_cons (pe_callTy Dm.c_tupOfF (by rfl) T.z_tuple (by decide +kernel) (pa_cons (pe_lc (own := [("index", 3), ("factor", 4)]) (g := gTup K 2 (gCons (gName 3) (gCons (gName 4) gNil))) (tt := tYes) rfl sc__law_moved.nd (pi_tup (pe_ix ix_tup (pv 0) pe_int (fun _ _ => rfl))) (blkOk_by (N := ["form", "start", "stride", "index", "factor"]) (sc := defScope s__law_moved) (by decide +kernel)) (fun _ _ _ _ _ => pg_tup (by rfl) (pgs_cons (pg_name (i := 3) sc__law_moved.nd rfl (Or.inl rfl)) (pgs_cons (pg_name (i := 4) sc__law_moved.nd rfl (Or.inl rfl)) pgs_nil))) (fun _ _ _ _ _ => pts_nil) (fun _ _ _ _ _ => (pe_tup (pa_cons (pe_op op_add (pv 1) (pe_op op_mulW (pv 2) (pv 3))) (pa_cons (pv 4) pa_nil))))) pa_nil)) pa_nil))))), ?_⟩
  obtain ⟨a, ca, ta, va, rfl, sa, da, pa, la⟩ := hf
  have sp := pa.sq (K := K)
  have lv := dpa_len' la
  rw [List.length_map] at lv
  walk_at "z"
  refine z_lcTT ((mvT start stride f.2).map fun t => some (tmD t)) (by unfold mvT; rw [List.length_map, List.length_map, lv]) (by omega) sp (fun d hd => ?_) (fun i x H' R R0 hx s' k1 k0 => ?_) fun D acc H2 fD s2 hD dA => ?_
  · obtain ⟨t, _, e⟩ := List.mem_map.mp hd
    cases e
    rfl
  · obtain ⟨d, hd, dx⟩ := dpa_gev' (dp_monoA s' la) hx
    rw [List.getElem?_map] at hd
    unfold mvT at k1
    rw [List.getElem?_map, List.getElem?_map] at k1
    cases hy : f.2[i]? with
    | none => rw [hy] at hd; cases hd
    | some t =>
      rw [hy] at hd k1
      cases hd
      obtain ⟨px, wx, rfl, sx, dwx⟩ := dp_tm dx
      have rt := ra t (List.mem_of_getElem? hy)
      walk_at "z"
      refine ⟨rfl, z_yes (z_ifT ?_)⟩
      walk_at "z"
      refine z_I (wide_mul (a := 32) (b := 32) (by omega) (by omega) (by decide) (by decide) (by decide)) ?_
      walk_at "z"
      intro p9 H9 f9 s9 h9
      exact k1 (tmD (start + stride * t.1, t.2)) rfl _ _ s9 (dp_mk h9 (.cons (.int _) (.cons (dp_mono s9 dwx) .nil)))
  · have e : ((mvT start stride f.2).map fun t => some (tmD t)).filterMap id = (mvT start stride f.2).map tmD := by
      rw [List.filterMap_map]
      show (mvT start stride f.2).filterMap (fun t => some (tmD t)) = _
      rw [List.filterMap_eq_map']
    rw [e] at dA
    walk_at "z"
    refine z_tupOfF (.inl (.inl hD)) fun t H3 f3 s3 p3 => ?_
    walk_at "z"
    intro p4 H4 f4 s4 h4
    have s34 := s3.trans s4
    exact q _ H4 (s2.trans s34) (.mk (.inl (.inl h4)) (dp_mono (s2.trans s34) da) (p3.mono s4) (dp_monoA s34 dA))
end
/-! ### what is drawn, moved -/
theorem sqL_mono {K : PySem.W.Frag} {H H' : Hp} {a : Addr} {xs : List V} (s : Same H H') (h : SqL K H a xs) : SqL K H' a xs := by
  rcases h with (h | ⟨o, h⟩) | h
  · exact .inl (.inl (s _ _ h))
  · exact .inl (.inr ⟨o, s _ _ h⟩)
  · exact .inr h
def LRg (Q : VK) : VK := fun x H1 => ∃ n, x = .int n ∧ RgOk 0 n ∧ ∀ q, H1 q = none → Q (.ref q) (upd H1 q (.lst (rgV 0 n)))
theorem z_lstRg {ta : TE} {σ : L2.St} {H : Hp} {Q : VK} (h : ta σ H (LRg Q)) : tLstRg (tRg1 ta) σ H Q := h
theorem z_lRg {H : Hp} {Q : VK} {n : Int} (h : RgOk 0 n) (q : ∀ p H', H p = none → Same H H' → H' p = some (.lst (rgV 0 n)) → Q (.ref p) H') : LRg Q (.int n) H := ⟨n, rfl, h, fun p f => q p _ f (same_upd f) upd_same⟩
local macro_rules | `(tactic| walk_at "z1") => `(tactic| with_reducible refine z_lstRg ?_)
theorem bd0 {p q : Nat} (h : 1 ≤ q) : Bd 0 p q := ⟨Nat.zero_le _, h⟩
/-- a form with bounds, unknowns in a range -/
structure Fb (size : Int) (f : Fm) : Prop where
  wf : Wf f.2
  rg : ∀ t ∈ f.2, 0 ≤ t.1 ∧ t.1 < size
  c : Bd f.1 99 12
  k : ∀ u, Bd (cf f.2 u) 99 12
theorem bd_cf {ts : Tms} {p q : Nat} (h1 : 1 ≤ q) (h : ∀ t ∈ ts, Bd t.2 p q) (u : Int) : Bd (cf ts u) p q := by
  rcases cf_in (ts := ts) u with e | e
  · rw [e]
    exact bd0 h1
  · exact h _ e
theorem Drw.fb {size : Int} {f : Fm} (h : Drw size f) : Fb size f := ⟨h.wf, fun t ht => ⟨(h.at_ t ht).1, (h.at_ t ht).2.1⟩, h.c, bd_cf (by decide) fun t ht => (h.at_ t ht).2.2⟩
theorem rg_len {size : Nat} {ts : Tms} (wf : Wf ts) (h : ∀ t ∈ ts, 0 ≤ t.1 ∧ t.1 < (size : Int)) : ts.length ≤ size := by
  have := keys_len (U := (List.range size).map fun (i : Nat) => (i : Int)) wf fun t ht => by
    obtain ⟨h0, h1⟩ := h t ht
    exact List.mem_map.mpr ⟨t.1.toNat, List.mem_range.mpr (by omega), by omega⟩
  rwa [List.length_map, List.length_range] at this
theorem Drw.len {size : Nat} {f : Fm} (h : Drw size f) : f.2.length ≤ size := rg_len h.wf fun t ht => ⟨(h.at_ t ht).1, (h.at_ t ht).2.1⟩
theorem Drw.mv {size : Int} {f : Fm} {start stride : Int} (h : Drw size f) (h0 : 0 ≤ start) (h1 : 1 ≤ stride) : Fb (start + stride * size) (f.1, mvT start stride f.2) := by
  refine ⟨mv_wf h.wf h1, fun t ht => ?_, h.c, bd_cf (by decide) fun t ht => ?_⟩
  · obtain ⟨s, hs, rfl⟩ := List.mem_map.mp ht
    have hb := h.at_ s hs
    have a1 : 0 ≤ stride * s.1 := Int.mul_nonneg (by omega) hb.1
    have a2 : stride * s.1 < stride * size := Int.mul_lt_mul_of_pos_left hb.2.1 (by omega)
    exact ⟨by show 0 ≤ start + stride * s.1; omega, by show start + stride * s.1 < _; omega⟩
  · obtain ⟨s, hs, rfl⟩ := List.mem_map.mp ht
    exact (h.at_ s hs).2.2
theorem mv_len (start stride : Int) (ts : Tms) : (mvT start stride ts).length = ts.length := by unfold mvT; rw [List.length_map]
theorem Fb.fit {size : Int} {f : Fm} (h : Fb size f) : FitF f := ⟨h.c.fits (by decide) (by decide), fun u => (h.k u).fits (by decide) (by decide)⟩
theorem bl99 {r : Rat} (h : Bd r 99 12) : Bl r := h.bl (by decide) (by decide)
theorem keysU {f g : Fm} : Keys f.2 (f.2.map (·.1) ++ g.2.map (·.1)) ∧ Keys g.2 (f.2.map (·.1) ++ g.2.map (·.1)) :=
  ⟨fun t ht => List.mem_append.mpr (.inl (List.mem_map.mpr ⟨t, ht, rfl⟩)), fun t ht => List.mem_append.mpr (.inr (List.mem_map.mpr ⟨t, ht, rfl⟩))⟩
/-- a coefficient other than zero stands at a key -/
theorem cf_rg {size : Int} {ts : Tms} {u : Int} (h : ∀ t ∈ ts, 0 ≤ t.1 ∧ t.1 < size) (n : cf ts u ≠ 0) : 0 ≤ u ∧ u < size := by
  obtain ⟨t, ht, e⟩ := cf_ne n
  rw [← e]
  exact h t ht
/-- the value that _law_factor gives -/
def cx (f : Fm) : Option Int → Rat
  | none => f.1
  | some u => cf f.2 u
def xV : Option Int → V
  | none => .non
  | some u => .int u
theorem lfac {K : PySem.W.Frag} {H : Hp} {v : V} {f : Fm} {x : Option Int} {Q : VK} {E : XK} (h : FmAt K H v f) (w : Wf f.2) (q : ∀ w H', Same H H' → Dp K H' w (qD (cx f x)) → Q w H') : sp__law_factor K [v, xV x] H Q E := by
  cases x with
  | none => exact ⟨v, _, f, rfl, h, w, .inl ⟨rfl, fun w d => q w H (fun _ _ e => e) d⟩⟩
  | some u => exact ⟨v, _, f, rfl, h, w, .inr ⟨u, rfl, q⟩⟩
theorem Fb.bx {size : Int} {f : Fm} (h : Fb size f) (x : Option Int) : Bd (cx f x) 99 12 := by
  cases x with
  | none => exact h.c
  | some u => exact h.k u
theorem rgV0 (n : Nat) : rgV 0 (n : Int) = (List.range n).map fun (i : Nat) => V.int (i : Int) := by
  unfold rgV
  rw [show ((n : Int) - 0).toNat = n by omega]
  apply List.map_congr_left
  intro i _
  rw [Int.zero_add]
theorem items_x {n i : Nat} {x : V} (h : ([V.non] ++ rgV 0 (n : Int))[i]? = some x) : ∃ o, x = xV o := by
  rw [rgV0] at h
  cases i with
  | zero =>
    cases h
    exact ⟨none, rfl⟩
  | succ i =>
    have h : ((List.range n).map fun (i : Nat) => V.int (i : Int))[i]? = some x := h
    rw [List.getElem?_map] at h
    cases e : (List.range n)[i]? with
    | none => rw [e] at h; cases h
    | some k =>
      rw [e] at h
      cases h
      exact ⟨some (k : Int), rfl⟩
theorem prod01 {a b : Int} (h0 : 0 ≤ a) (h1 : a < 2) (h2 : 0 ≤ b) (h3 : b < 100) : 0 ≤ a * b ∧ a * b < 100 := by
  rcases (by omega : a = 0 ∨ a = 1) with rfl | rfl
  · omega
  · omega
theorem prodS {a b : Int} (h0 : 1 ≤ a) (h1 : a ≤ 3) (h2 : 0 ≤ b) (h3 : b ≤ 30) : 0 ≤ a * b ∧ a * b ≤ 90 := by
  rcases (by omega : a = 1 ∨ a = 2 ∨ a = 3) with rfl | rfl | rfl
  · omega
  · omega
  · omega
theorem qm1 : qD (((-1 : Int) : Rat)) = .tuple [.int (-1), .int 1] := qI (-1)
def sp_law (K : PySem.W.Frag) : Sp := fun vs H Q _ => ∃ (a : Addr) (ns : List Int), vs = [.ref a] ∧ SqL K H a (ns.map V.int) ∧ ns.length ≤ 63 ∧ ∀ H', Q (.bl true) H'
theorem Fb.without {size : Int} {f : Fm} (u : Int) (h : Fb size f) : Fb size (f.1, f.2.filter fun t => decide (¬ t.1 = u)) := by
  refine ⟨wf_without h.wf, fun t ht => h.rg t (List.mem_filter.mp ht).1, h.c, fun x => ?_⟩
  show Bd (cf (f.2.filter _) x) _ _
  rw [cf_without]
  split
  · exact bd0 (by decide)
  · exact h.k x
theorem shaped_fm (f : Fm) : SeqAt.shaped (fmD f) = true := by
  have q1 : ∀ r : Rat, Fl 1 (qD r) := fun r => fl_tup fun d hd => by
    rcases List.mem_cons.mp hd with rfl | h
    · exact fl_int _
    · cases List.mem_singleton.mp h
      exact fl_int _
  have up : ∀ {d : PyData} {n : Nat}, Fl n d → Fl (n + 1) d := fun h => ⟨h.1, Nat.le_succ_of_le h.2⟩
  refine shaped_fl (n := 4) (fl_tup fun d hd => ?_) (by decide)
  rcases List.mem_cons.mp hd with rfl | h
  · exact up (up (q1 _))
  · cases List.mem_singleton.mp h
    refine fl_tup fun d hd => ?_
    obtain ⟨t, _, rfl⟩ := List.mem_map.mp hd
    refine fl_tup fun d hd => ?_
    rcases List.mem_cons.mp hd with rfl | h
    · exact up (fl_int _)
    · cases List.mem_singleton.mp h
      exact q1 _
theorem replU {K : PySem.W.Frag} {A : Nat → Addr} {H : Hp} {Q : VK} {E : XK} {v w : V} {u size : Int} {f g : Fm} (hf : FmAt K H v f) (hg : FmAt K H w g) (bf : Fb size f) (bg : Fb size g) (lf : f.2.length ≤ 30) (lg : g.2.length ≤ 30)
    (q : ∀ v' fa H', Same H H' → FmAt K H' v' fa → Wf fa.2 → fa.1 = f.1 + g.1 * cf f.2 u → (∀ x, cf fa.2 x = (if x = u then 0 else cf f.2 x) + cf g.2 x * cf f.2 u) → (cf f.2 u = 0 → v' = v ∧ fa = f) → Q v' H') : sp_replace K A [v, .int u, w] H Q E := by
  have b4 : ∀ {x y : Rat}, Bd x 99 12 → Bd y 99 12 → Bd (x * y) 9801 144 := fun h h' => (bd_mul h h').le (by decide) (by decide)
  have b5 : ∀ {x y : Rat}, Bd x 99 12 → Bd y 9801 144 → Bd (x + y) 200000 2000 := fun h h' => (bd_add h h').le (by decide) (by decide)
  have hU : (f.2.map (·.1) ++ g.2.map (·.1) : List Int).length < 64 := by
    rw [List.length_append, List.length_map, List.length_map]
    omega
  refine ⟨v, w, u, f, g, _, rfl, hf, hg, bf.wf, bg.wf, bf.fit, bg.fit, hU, keysU.1, keysU.2, fun c => ?_, fun c => ⟨fun no => absurd ⟨(b4 bg.c (bf.k u)).fits (by decide) (by decide), fun x => (b4 (bg.k x) (bf.k u)).fits (by decide) (by decide)⟩ no, fun _ => ⟨fun _ v' ts H' s m w c1 => ?_, fun no => absurd ⟨(b5 bf.c (b4 bg.c (bf.k u))).fits (by decide) (by decide), fun x => Bd.fits (p := 200000) (q := 2000) (b5 ?_ (b4 (bg.k x) (bf.k u))) (by decide) (by decide)⟩ no⟩⟩⟩
  · refine q v f H (fun _ _ e => e) hf bf.wf (by rw [c, Rat.mul_zero, Rat.add_zero]) (fun x => ?_) fun _ => ⟨rfl, rfl⟩
    rw [c, Rat.mul_zero, Rat.add_zero]
    split
    · rename_i e
      rw [e, c]
    · rfl
  · exact q v' _ H' s m w rfl c1 fun z => absurd z c
  · split
    · exact bd0 (by decide)
    · exact bf.k x
abbrev nn : Option V := none
section
theorem ok_law {P : Program} {w : World} {K : PySem.W.Frag} {mg : Str → Option Value} {base : Heap} {A : Nat → Addr} {D : Nat → FuncData} (T : Txt K mg A D) : FnOk P w K mg base CX0 6 (A 24) (D 24) ["script"] (sp_law K) := by
  refine T.F_law.ok sc_law (fun vs H Q E h => ?_) (fun cdv A' outer s H vs Q E hr h => ?_)
  · obtain ⟨l, ns, rfl, _⟩ := h
    rfl
  obtain ⟨l, ns, rfl, hS, _, q⟩ := h
  refine ⟨_, (pss_cons (ps_set (i := 1) sc_law.nd rfl (.inl rfl) (pe_call (ok__law_stream T) (hr.mono (by decide)) (by rfl) T.m__law_stream T.F__law_stream.kp T.b__law_stream .nil passL (pa_cons (pe_call (ok__law_cell T) (hr.mono (by decide)) (by rfl) T.m__law_cell T.F__law_cell.kp T.b__law_cell .nil passL (pa_cons (pv 0) (pa_cons pe_int pa_nil))) pa_nil)))
  (pss_cons (ps_set (i := 2) sc_law.nd rfl (.inl rfl) pe_int)
  (Evl.pss_cut (ps_if (pt_cmpR op_eq (pe_call (ok__law_next T) (hr.mono (by decide)) (by rfl) T.m__law_next T.F__law_next.kp T.b__law_next .nil passL (pa_cons (pv 1) (pa_cons pe_int pa_nil))) pe_int (nomark _))
  (pss_one (ps_set (i := 2) sc_law.nd rfl (.inl rfl) pe_int))
  pss_nil)
  (pss_cons (ps_set (i := 3) sc_law.nd rfl (.inl rfl) (pe_call (ok__law_form T) (hr.mono (by decide)) (by rfl) T.m__law_form T.F__law_form.kp T.b__law_form .nil passL (pa_cons (pv 1) (pa_cons (pv 2) pa_nil))))
  (pss_cons (ps_set (i := 4) sc_law.nd rfl (.inl rfl) (pe_call (ok__law_form T) (hr.mono (by decide)) (by rfl) T.m__law_form T.F__law_form.kp T.b__law_form .nil passL (pa_cons (pe_call (ok__law_stream T) (hr.mono (by decide)) (by rfl) T.m__law_stream T.F__law_stream.kp T.b__law_stream .nil passL (pa_cons (pe_call (ok__law_cell T) (hr.mono (by decide)) (by rfl) T.m__law_cell T.F__law_cell.kp T.b__law_cell .nil passL (pa_cons (pv 0) (pa_cons pe_int pa_nil))) pa_nil)) (pa_cons (pv 2) pa_nil))))
  (pss_cons (ps_set (i := 5) sc_law.nd rfl (.inl rfl) (pe_op op_mulW (pe_call (ok__law_next T) (hr.mono (by decide)) (by rfl) T.m__law_next T.F__law_next.kp T.b__law_next .nil passL (pa_cons (pv 1) (pa_cons pe_int pa_nil))) (pe_call (ok__law_next T) (hr.mono (by decide)) (by rfl) T.m__law_next T.F__law_next.kp T.b__law_next .nil passL (pa_cons (pv 1) (pa_cons pe_int pa_nil)))))
  (pss_cons (ps_set (i := 6) sc_law.nd rfl (.inl rfl) (pe_op op_add pe_int (pe_op op_mulW (pe_call (ok__law_next T) (hr.mono (by decide)) (by rfl) T.m__law_next T.F__law_next.kp T.b__law_next .nil passL (pa_cons (pv 1) (pa_cons pe_int pa_nil))) (pe_call (ok__law_next T) (hr.mono (by decide)) (by rfl) T.m__law_next T.F__law_next.kp T.b__law_next .nil passL (pa_cons (pv 1) (pa_cons pe_int pa_nil))))))
  (pss_cons (ps_set (i := 7) sc_law.nd rfl (.inr rfl) (pe_op op_add (pv 5) (pe_op op_mulW (pv 6) (pe_call (ok__law_next T) (hr.mono (by decide)) (by rfl) T.m__law_next T.F__law_next.kp T.b__law_next .nil passL (pa_cons (pv 1) (pa_cons (pv 2) pa_nil))))))
  (pss_cons (ps_set (i := 3) sc_law.nd rfl (.inl rfl) (pe_call (ok__law_moved T) (hr.mono (by decide)) (by rfl) T.m__law_moved T.F__law_moved.kp T.b__law_moved .nil passL (pa_cons (pv 3) (pa_cons (pv 5) (pa_cons (pv 6) pa_nil)))))
  (pss_cons (ps_set (i := 4) sc_law.nd rfl (.inl rfl) (pe_call (ok__law_moved T) (hr.mono (by decide)) (by rfl) T.m__law_moved T.F__law_moved.kp T.b__law_moved .nil passL (pa_cons (pv 4) (pa_cons (pv 5) (pa_cons (pv 6) pa_nil)))))
  (pss_cons (ps_set (i := 2) sc_law.nd rfl (.inl rfl) (pe_op op_add (pv 5) (pe_op op_mulW (pv 6) (pv 2))))
  (Evl.pss_cut (ps_if (pt_cmpR op_gt (pe_call (ok__law_next T) (hr.mono (by decide)) (by rfl) T.m__law_next T.F__law_next.kp T.b__law_next .nil passL (pa_cons (pv 1) (pa_cons pe_int pa_nil))) pe_int (nomark _))
  (pss_one (ps_set (i := 4) sc_law.nd rfl (.inl rfl) (pe_tup (pa_cons (pe_ix ix_tup (pv 4) pe_int (fun _ _ => rfl)) (pa_cons (pe_callTy Dm.c_tupOfF (by rfl) T.z_tuple (by decide +kernel) (pa_cons (pe_lc (own := [("term", 8)]) (g := gName 8) rfl sc_law.nd (pi_tup (pe_ix ix_tup (pv 4) pe_int (fun _ _ => rfl))) (blkOk_by (N := ["script", "stream", "size", "form", "other", "start", "stride", "replaced", "term", "actual", "factor", "unknown", "expected"]) (sc := defScope s_law) (by decide +kernel)) (fun _ _ _ _ _ => pg_name (i := 8) sc_law.nd rfl (Or.inl rfl)) (fun _ _ _ _ _ => (pts_one (pt_cmpR op_ne (pe_ix (show IxR _ (rIxT K) from ix_tup) (pv 8) pe_int (fun _ _ => rfl)) (pv 7) (nomark _)))) (fun _ _ _ _ _ => (pv 8))) pa_nil)) pa_nil)))))
  pss_nil)
  (pss_cons (ps_set (i := 9) sc_law.nd rfl (.inl rfl) (pe_call (ok_replace_unknown T) (hr.mono (by decide)) (by rfl) T.m_replace_unknown T.F_replace_unknown.kp T.b_replace_unknown .nil passL (pa_cons (pv 3) (pa_cons (pv 7) (pa_cons (pv 4) pa_nil)))))
  (pss_cons (ps_if (pt_not (pt_val (pe_call (ok__law_is_form T) (hr.mono (by decide)) (by rfl) T.m__law_is_form T.F__law_is_form.kp T.b__law_is_form .nil passL (pa_cons (pv 9) (pa_cons (pv 2) pa_nil)))))
  (pss_one (ps_ret pe_bl))
  pss_nil)
  (pss_cons (ps_set (i := 10) sc_law.nd rfl (.inl rfl) (pe_call (ok__law_factor T) (hr.mono (by decide)) (by rfl) T.m__law_factor T.F__law_factor.kp T.b__law_factor .nil passL (pa_cons (pv 3) (pa_cons (pv 7) pa_nil))))
  (pss_cons (ps_if (PW.pt (pw_and (pt_cmpR op_eq (pe_ix ix_tup (pv 10) pe_int (fun _ _ => rfl)) pe_int (nomark _)) (pw_and1 (pt_cmpR (op_neD hr.units) (pv 9) (pv 3) (nomark _)))))
  (pss_one (ps_ret pe_bl))
  pss_nil)
  (pss_cons (ps_for PassesOwn.never rfl (pi_list (pe_op op_cat (pe_lst (pa_cons pe_non pa_nil)) (pe_listRg rfl (by rfl) T.z_list (prg_1 (by rfl) T.z_range (pv 2))))) (pg_name (i := 11) sc_law.nd rfl (.inl rfl))
  (pss_cons (ps_set (i := 12) sc_law.nd rfl (.inl rfl) (pe_call (ok__law_product T) (hr.mono (by decide)) (by rfl) T.m__law_product T.F__law_product.kp T.b__law_product .nil passL (pa_cons (pv 10) (pa_cons (pe_call (ok__law_factor T) (hr.mono (by decide)) (by rfl) T.m__law_factor T.F__law_factor.kp T.b__law_factor .nil passL (pa_cons (pv 4) (pa_cons (pv 11) pa_nil))) pa_nil))))
  (Evl.pss_cut (ps_if (pt_cmpR op_ne (pv 11) (pv 7) (nomark _))
  (pss_one (ps_set (i := 12) sc_law.nd rfl (.inl rfl) (pe_call (ok__law_sum T) (hr.mono (by decide)) (by rfl) T.m__law_sum T.F__law_sum.kp T.b__law_sum .nil passL (pa_cons (pe_call (ok__law_factor T) (hr.mono (by decide)) (by rfl) T.m__law_factor T.F__law_factor.kp T.b__law_factor .nil passL (pa_cons (pv 3) (pa_cons (pv 11) pa_nil))) (pa_cons (pv 12) pa_nil)))))
  pss_nil)
  (pss_one (ps_if (pt_cmpR (op_neD hr.units) (pe_call (ok__law_factor T) (hr.mono (by decide)) (by rfl) T.m__law_factor T.F__law_factor.kp T.b__law_factor .nil passL (pa_cons (pv 9) (pa_cons (pv 11) pa_nil))) (pv 12) (nomark _))
  (pss_one (ps_ret pe_bl))
  pss_nil)))))
  (pss_one (ps_ret pe_bl))))))))))))))))))), ?_⟩
  walk_at "z"
  refine ⟨l, ns, 0, rfl, hS, fun v => ?_⟩
  walk_at "z"
  refine ⟨v, rfl, fun p H1 i1 j1 m hp s1 h1 => ?_⟩
  have S1 := Sd.mk0 hp s1 h1
  walk_at "z"
  refine z_cut (fun σ' H' => Sd H H' p ∧ ∃ size : Nat, 1 ≤ size ∧ size ≤ 30 ∧ σ' = [some (.ref l), some (.ref p), some (.int (size : Int)), nn, nn, nn, nn, nn, nn, nn, nn, nn, nn]) ?_ ?_
  · walk_at "z"
    refine nx S1 (by decide) (lt1000 (by decide)) fun k H2 k0 k1 S2 e2 => ?_
    walk_at "z"
    refine z_if (fun c => ?_) (fun c => ?_)
    · walk_at "z"
      exact ⟨S2, 30, by decide, by decide, rfl⟩
    · walk_at "z"
      exact ⟨S2, 5, by decide, by decide, rfl⟩
  rintro σ' H2 ⟨S2, size, hs1, hsz, rfl⟩
  walk_at "z"
  refine ⟨p, size, H, rfl, by omega, S2, fun va fa H3 da S3 k3 ha => ?_⟩
  walk_at "z"
  refine ⟨l, ns, 1, rfl, sqL_mono S3.same hS, fun v2 => ?_⟩
  walk_at "z"
  refine ⟨v2, rfl, fun p4 H4 i4 j4 m4 hp4 s4 h4 => ?_⟩
  have T4 := Sd.mk0 hp4 s4 h4
  walk_at "z"
  refine ⟨p4, size, H3, rfl, by omega, T4, fun vb fb H5 db T5 k5 hb => ?_⟩
  have S6 := S3.mono T5.same
  have ha6 := ha.mono T5.same
  walk_at "z"
  refine nx S6 (by decide) (lt1000 (by decide)) fun x1 H7 x10 x11 S7 e7 => ?_
  walk_at "z"
  refine nx S7 (by decide) (lt1000 (by decide)) fun x2 H8 x20 x21 S8 e8 => ?_
  walk_at "z"
  refine z_I (wide_mul (a := 32) (b := 32) (by omega) (by omega) (by decide) (by decide) (by decide)) ?_
  have p1 := prod01 x10 x11 x20 x21
  generalize x1 * x2 = start at p1
  walk_at "z"
  refine nx S8 (by decide) (lt1000 (by decide)) fun y1 H9 y10 y11 S9 e9 => ?_
  walk_at "z"
  refine nx S9 (by decide) (lt1000 (by decide)) fun y2 H10 y20 y21 S10 e10 => ?_
  walk_at "z"
  refine z_I (wide_mul (a := 32) (b := 32) (by omega) (by omega) (by decide) (by decide) (by decide)) ?_
  have p2 : 1 ≤ 1 + y1 * y2 ∧ 1 + y1 * y2 ≤ 3 := by
    rcases (by omega : y1 = 0 ∨ y1 = 1) with rfl | rfl
    · omega
    · omega
  walk_at "z"
  generalize 1 + y1 * y2 = stride at p2
  refine nx S10 (by omega) (lt1000 (Nat.lt_of_le_of_lt (show (size : Int).natAbs ≤ 30 by omega) (by decide))) fun x3 H11 x30 x31 S11 e11 => ?_
  walk_at "z"
  refine z_I (wide_mul (a := 32) (b := 32) (by omega) (by omega) (by decide) (by decide) (by decide)) ?_
  walk_at "z"
  have kk := ((((kp_eq e7).trans' (kp_eq e8)).trans' (kp_eq e9)).trans' (kp_eq e10)).trans' (kp_eq e11)
  have ha10 := ha6.sd S6 kk
  have hb10 := hb.sd S6 kk
  have la := da.len
  have lb := db.len
  generalize start + stride * x3 = rep
  refine ⟨va, start, stride, fa, rfl, ha10, by omega, fun t ht => ?_, by omega, by omega, fun wa H12 s12 ha11 => ?_⟩
  · have := da.at_ t ht
    omega
  walk_at "z"
  refine ⟨vb, start, stride, fb, rfl, hb10.mono s12, by omega, fun t ht => ?_, by omega, by omega, fun wb H13 s13 hb12 => ?_⟩
  · have := db.at_ t ht
    omega
  have ha12 := ha11.mono s13
  have fA := da.mv p1.1 p2.1
  have fB := db.mv p1.1 p2.1
  have lA : (mvT start stride fa.2).length ≤ 30 := by rw [mv_len]; omega
  have lB : (mvT start stride fb.2).length ≤ 30 := by rw [mv_len]; omega
  have S12 := S11.mono (s12.trans s13)
  generalize mvT start stride fa.2 = tA at fA lA ha12
  generalize mvT start stride fb.2 = tB at fB lB hb12
  walk_at "z"
  refine z_I (wide_mul (a := 32) (b := 32) (by omega) (by omega) (by decide) (by decide) (by decide)) ?_
  have p3 := prodS p2.1 p2.2 (Int.natCast_nonneg size) (by omega)
  walk_at "z"
  obtain ⟨N, hN⟩ : ∃ N : Nat, start + stride * (size : Int) = (N : Int) := ⟨(start + stride * (size : Int)).toNat, by omega⟩
  rw [hN] at fA fB
  rw [hN]
  have hN2 : N ≤ 190 := by omega
  clear ha10 hb10 ha11 ha6 hb
  refine z_cut (fun σ' H' => FmAt K H' wa (fa.1, tA) ∧ ∃ wb g, Fb N g ∧ g.2.length ≤ 30 ∧ FmAt K H' wb g ∧ σ' = [some (.ref l), some (.ref p), some (.int (N : Int)), some wa, some wb, some (.int start), some (.int stride), some (.int rep), nn, nn, nn, nn, nn]) ?_ ?_
  · walk_at "z"
    refine nx S12 (by decide) (lt1000 (by decide)) fun k H14 k0 k1 S14 e14 => ?_
    have ha14 := ha12.sd S12 (kp_eq e14)
    have hb14 := hb12.sd S12 (kp_eq e14)
    walk_at "z"
    refine z_if (fun c => ?_) (fun c => ?_)
    · obtain ⟨a, ca, ta, va', rfl, sa, da', pa, la'⟩ := hb14
      have lv := dpa_len' la'
      rw [List.length_map] at lv
      have lv : va'.length = tB.length := lv
      walk_at "z"
      refine z_lcTT (tB.map fun t => if t.1 = rep then none else some (tmD t)) (by rw [List.length_map, lv]) (by omega) pa.sq (fun d hd => ?_) (fun i x H' R R0 hx s' k1 k0 => ?_) fun D acc H2 fD s2 hD dA => ?_
      · obtain ⟨t, _, e⟩ := List.mem_map.mp hd
        split at e
        · cases e
        · cases e
          rfl
      · obtain ⟨d, hd, dx⟩ := dpa_gev' (dp_monoA s' la') hx
        have hd : (tB.map tmD)[i]? = some d := hd
        rw [List.getElem?_map] at hd k1 k0
        cases hy : tB[i]? with
        | none => rw [hy] at hd; cases hd
        | some t =>
          rw [hy] at hd k1 k0
          cases hd
          obtain ⟨px, wx, rfl, sx, dwx⟩ := dp_tm dx
          walk_at "z"
          refine ⟨rfl, ?_⟩
          walk_at "z"
          refine z_if (fun c2 => ?_) (fun c2 => ?_)
          · walk_at "z"
            exact k1 (tmD t) (by rw [Option.map_some, if_neg c2]) _ _ (fun _ _ e => e) dx
          · exact k0 (by rw [Option.map_some, if_pos (Decidable.of_not_not c2)]) _ (fun _ _ e => e)
      · rw [without_map] at dA
        walk_at "z"
        refine z_tupOfF (.inl (.inl hD)) fun t H3 f3 s3 p3 => ?_
        walk_at "z"
        intro p4 H4 f4 s4 h4
        walk_at "z"
        have s04 := (s2.trans s3).trans s4
        refine ⟨ha14.mono s04, _, _, fB.without rep, Nat.le_trans (List.length_filter_le _ _) lB, .mk (.inl (.inl h4)) (dp_mono s04 da') (p3.mono s4) (dp_monoA (s3.trans s4) dA), rfl⟩
    · walk_at "z"
      exact ⟨ha14, _, _, fB, lB, hb14, rfl⟩
  clear ha12 hb12 fB lB db lb
  rintro σ' H14 ⟨ha, wb, g, bg, lg, hb, rfl⟩
  walk_at "z"
  refine replU ha hb fA bg lA lg fun vt ft H15 s15 mt wt e1 e2 e3 => ?_
  have e2 : ∀ x, cf ft.2 x = (if x = rep then 0 else cf tA x) + cf g.2 x * cf tA rep := e2
  have e1 : ft.1 = fa.1 + g.1 * cf tA rep := e1
  have ha := ha.mono s15
  have hb := hb.mono s15
  walk_at "z"
  refine ⟨vt, (N : Int), ft, rfl, mt, wt, fun t ht => ?_, ?_⟩
  · have h := cf_mem wt.asc ht
    rw [e2] at h
    by_cases z : cf tA t.1 = 0
    · refine cf_rg bg.rg fun z2 => wt.nz t ht ?_
      rw [← h, z, z2, Rat.zero_mul, Rat.add_zero]
      split <;> rfl
    · exact cf_rg (ts := tA) fA.rg z
  walk_at "z"
  refine lfac (x := some rep) ha fA.wf fun vc H16 s16 dc => ?_
  have dc : Dp K H16 vc (qD (cf tA rep)) := dc
  obtain ⟨pc, rfl, spc⟩ := dp_q dc
  have bc := fA.k rep
  have s1 := s16
  have ha := ha.mono s16
  have hb := hb.mono s16
  have mt := mt.mono s16
  walk_at "z"
  refine z_andK (k' := false) (fun c R qr => ?_) ?_
  · have c := of_decide_eq_true c
    obtain ⟨rfl, rfl⟩ := e3 (Rat.num_eq_zero.mp c)
    walk_at "z"
    refine z_neSame ha.dp ha.dp (shaped_fm _) ?_
    exact ⟨false, rfl, qr⟩
  rw [Bool.and_false]
  walk_at "z"
  refine z_forE ?_
  walk_at "z"
  intro p18 H18 f18 s18 h18
  walk_at "z"
  refine z_lRg (RgOk.of_le (by omega) (by omega) (by omega) (by omega)) fun p19 H19 f19 s19 h19 => ?_
  refine z_cat (s19 _ _ h18) h19 (by rw [rgV_length]; simp; omega) fun p20 H20 f20 s20 h20 => ?_
  have s1720 := (s18.trans s19).trans s20
  have ha := ha.mono s1720
  have hb := hb.mono s1720
  have mt := mt.mono s1720
  have dc := dp_mono s1720 dc
  have b4 : ∀ {x y : Rat}, Bd x 99 12 → Bd y 99 12 → Bd (x * y) 9801 144 := fun h h' => (bd_mul h h').le (by decide) (by decide)
  refine z_forL (fun R q => q) (.inl (.inl h20)) (fun i σ' H' => Same H20 H' ∧ ∃ x1 x2, σ' = [some (.ref l), some (.ref p), some (.int (N : Int)), some wa, some wb, some (.int start), some (.int stride), some (.int rep), nn, some vt, some (.ref pc), x1, x2])
    ⟨fun _ _ e => e, _, _, rfl⟩ (fun i σ' H' _ h => .inl (.inl (h.1 _ _ h20))) ?_ ?_
  · rintro i x σ' H' hx ⟨s', x1, x2, rfl⟩
    obtain ⟨o, rfl⟩ := items_x hx
    walk_at "z"
    refine lfac (hb.mono s') bg.wf fun vq H21 s21 dq => ?_
    walk_at "z"
    have s2 := s'.trans s21
    have dc2 := dp_mono s2 dc
    have bB := bg.bx o
    have bA := fA.bx o
    refine lop dc2 dq (bl99 bc) (bl99 bB) fun u1 H22 s22 d1 => ?_
    walk_at "z"
    have s3 := s2.trans s22
    refine z_cut (fun σ' H' => Same H20 H' ∧ ∃ u2, Dp K H' u2 (qD (cx ft o)) ∧ σ' = [some (.ref l), some (.ref p), some (.int (N : Int)), some wa, some wb, some (.int start), some (.int stride), some (.int rep), nn, some vt, some (.ref pc), some (xV o), some u2]) ?_ ?_
    · walk_at "z"
      have yes : (∃ u, o = some u ∧ u = rep) → cx ft o = cf tA rep * cx g o := by
        rintro ⟨u, rfl, rfl⟩
        show cf ft.2 u = _ * cf g.2 u
        rw [e2, if_pos rfl, Rat.zero_add, Rat.mul_comm]
      have no : (¬ ∃ u, o = some u ∧ u = rep) → cx ft o = cx (fa.1, tA) o + cf tA rep * cx g o := by
        intro n
        cases o with
        | none =>
          show ft.1 = fa.1 + _ * g.1
          rw [e1, Rat.mul_comm]
        | some u =>
          show cf ft.2 u = cf tA u + _ * cf g.2 u
          rw [e2, if_neg (fun z => n ⟨u, rfl, z⟩), Rat.mul_comm (cf g.2 u)]
      cases o with
      | none =>
        refine ⟨rfl, z_bl ?_⟩
        refine z_ifT ?_
        walk_at "z"
        walk_at "z"
        refine lfac (ha.mono s3) fA.wf fun u3 H23 s23 d3 => ?_
        walk_at "z"
        refine lop d3 (dp_mono s23 d1) (bl99 bA) ((b4 bc bB).bl (by decide) (by decide)) fun u4 H24 s24 d4 => ?_
        walk_at "z"
        refine ⟨s3.trans (s23.trans s24), u4, ?_, rfl⟩
        rw [no fun ⟨u, e, _⟩ => by cases e]
        exact d4
      | some u =>
        refine z_neI ?_
        walk_at "z"
        refine z_if (fun c => ?_) (fun c => ?_)
        · walk_at "z"
          refine lfac (ha.mono s3) fA.wf fun u3 H23 s23 d3 => ?_
          walk_at "z"
          refine lop d3 (dp_mono s23 d1) (bl99 bA) ((b4 bc bB).bl (by decide) (by decide)) fun u4 H24 s24 d4 => ?_
          walk_at "z"
          refine ⟨s3.trans (s23.trans s24), u4, ?_, rfl⟩
          rw [no fun ⟨u, e, k⟩ => by cases e; exact c k]
          exact d4
        · walk_at "z"
          refine ⟨s3, u1, ?_, rfl⟩
          rw [yes ⟨u, rfl, Decidable.of_not_not c⟩]
          exact d1
    rintro σ' H5 ⟨s5, u2, d2, rfl⟩
    walk_at "z"
    refine lfac (mt.mono s5) wt fun u3 H6 s6 d3 => ?_
    walk_at "z"
    refine z_neQ d3 (dp_mono s6 d2) ?_
    rw [decide_eq_false (fun z => z rfl)]
    walk_at "z"
    exact ⟨s5.trans s6, _, _, rfl⟩
  · rintro σ' H' ⟨s', x1, x2, rfl⟩
    walk_at "z"
    exact q _
end

theorem all_mk {l : PySem.W.OpenLaw} {w : World} {K : PySem.W.Frag} {h : Heap} {mg : Str → Option Value} {fa : Addr} (X : K.In h) (G : h.Ns mainGlobals mg) (hfa : mg "law" = some (.ref fa))
    {a3 : Addr} {od3 an3 : Option Addr} {sl3 : Array (Option Value)} {oc3 kV3 dc3 pm3 cd3 ct3 : Value} {a4 : Addr} {od4 an4 : Option Addr} {sl4 : Array (Option Value)} {oc4 kV4 dc4 pm4 cd4 ct4 : Value} {a5 : Addr} {od5 an5 : Option Addr} {sl5 : Array (Option Value)} {oc5 kV5 dc5 pm5 cd5 ct5 : Value} {a6 : Addr} {od6 an6 : Option Addr} {sl6 : Array (Option Value)} {oc6 kV6 dc6 pm6 cd6 ct6 : Value} {a7 : Addr} {od7 an7 : Option Addr} {sl7 : Array (Option Value)} {oc7 kV7 dc7 pm7 cd7 ct7 : Value} {a8 : Addr} {od8 an8 : Option Addr} {sl8 : Array (Option Value)} {oc8 kV8 dc8 pm8 cd8 ct8 : Value} {a9 : Addr} {od9 an9 : Option Addr} {sl9 : Array (Option Value)} {oc9 kV9 dc9 pm9 cd9 ct9 : Value} {a10 : Addr} {od10 an10 : Option Addr} {sl10 : Array (Option Value)} {oc10 kV10 dc10 pm10 cd10 ct10 : Value} {a11 : Addr} {od11 an11 : Option Addr} {sl11 : Array (Option Value)} {oc11 kV11 dc11 pm11 cd11 ct11 : Value} {a12 : Addr} {od12 an12 : Option Addr} {sl12 : Array (Option Value)} {oc12 kV12 dc12 pm12 cd12 ct12 : Value} {a13 : Addr} {od13 an13 : Option Addr} {sl13 : Array (Option Value)} {oc13 kV13 dc13 pm13 cd13 ct13 : Value} {a14 : Addr} {od14 an14 : Option Addr} {sl14 : Array (Option Value)} {oc14 kV14 dc14 pm14 cd14 ct14 : Value} {a15 : Addr} {od15 an15 : Option Addr} {sl15 : Array (Option Value)} {oc15 kV15 dc15 pm15 cd15 ct15 : Value} {a16 : Addr} {od16 an16 : Option Addr} {sl16 : Array (Option Value)} {oc16 kV16 dc16 pm16 cd16 ct16 : Value} {a17 : Addr} {od17 an17 : Option Addr} {sl17 : Array (Option Value)} {oc17 kV17 dc17 pm17 cd17 ct17 : Value} {a18 : Addr} {od18 an18 : Option Addr} {sl18 : Array (Option Value)} {oc18 kV18 dc18 pm18 cd18 ct18 : Value} {a19 : Addr} {od19 an19 : Option Addr} {sl19 : Array (Option Value)} {oc19 kV19 dc19 pm19 cd19 ct19 : Value} {a20 : Addr} {od20 an20 : Option Addr} {sl20 : Array (Option Value)} {oc20 kV20 dc20 pm20 cd20 ct20 : Value} {a21 : Addr} {od21 an21 : Option Addr} {sl21 : Array (Option Value)} {oc21 kV21 dc21 pm21 cd21 ct21 : Value} {a22 : Addr} {od22 an22 : Option Addr} {sl22 : Array (Option Value)} {oc22 kV22 dc22 pm22 cd22 ct22 : Value} {a23 : Addr} {od23 an23 : Option Addr} {sl23 : Array (Option Value)} {oc23 kV23 dc23 pm23 cd23 ct23 : Value} {a24 : Addr} {od24 an24 : Option Addr} {sl24 : Array (Option Value)} {oc24 kV24 dc24 pm24 cd24 ct24 : Value} {a0 : Addr} {a1 : Addr} {a2 : Addr} {t_LIMIT : Tok} {a25 : Addr} {tZERO_0_0 : Tok} {tZERO_0_1 : Tok} {odZERO_0 : Option Addr} {nnZERO_0 : Nat} {slZERO_0 : Array (Option Value)}
    (n3 : PySem.W.nsIn K mainGlobals "ratio" = some (some (.ref a3)))
    (l3 : K.lookup a3 = some ⟨oc3, od3, .func (PySem.W.fnOf "ratio" "ratio" (defArgs s_ratio) (defBody s_ratio) (defScope s_ratio) .none kV3 dc3 pm3 an3 cd3 ct3), sl3⟩)
    (c3 : PySem.W.codeIn K cd3 "ratio" = true) (k3 : PySem.W.keepIn K (.ref a3) = true)
    (n4 : PySem.W.nsIn K mainGlobals "add" = some (some (.ref a4)))
    (l4 : K.lookup a4 = some ⟨oc4, od4, .func (PySem.W.fnOf "add" "add" (defArgs s_add) (defBody s_add) (defScope s_add) .none kV4 dc4 pm4 an4 cd4 ct4), sl4⟩)
    (c4 : PySem.W.codeIn K cd4 "add" = true) (k4 : PySem.W.keepIn K (.ref a4) = true)
    (n5 : PySem.W.nsIn K mainGlobals "multiply" = some (some (.ref a5)))
    (l5 : K.lookup a5 = some ⟨oc5, od5, .func (PySem.W.fnOf "multiply" "multiply" (defArgs s_multiply) (defBody s_multiply) (defScope s_multiply) .none kV5 dc5 pm5 an5 cd5 ct5), sl5⟩)
    (c5 : PySem.W.codeIn K cd5 "multiply" = true) (k5 : PySem.W.keepIn K (.ref a5) = true)
    (n6 : PySem.W.nsIn K mainGlobals "add_forms" = some (some (.ref a6)))
    (l6 : K.lookup a6 = some ⟨oc6, od6, .func (PySem.W.fnOf "add_forms" "add_forms" (defArgs s_add_forms) (defBody s_add_forms) (defScope s_add_forms) .none kV6 dc6 pm6 an6 cd6 ct6), sl6⟩)
    (c6 : PySem.W.codeIn K cd6 "add_forms" = true) (k6 : PySem.W.keepIn K (.ref a6) = true)
    (n7 : PySem.W.nsIn K mainGlobals "combine_forms" = some (some (.ref a7)))
    (l7 : K.lookup a7 = some ⟨oc7, od7, .func (PySem.W.fnOf "combine_forms" "combine_forms" (defArgs s_combine_forms) (defBody s_combine_forms) (defScope s_combine_forms) .none kV7 dc7 pm7 an7 cd7 ct7), sl7⟩)
    (c7 : PySem.W.codeIn K cd7 "combine_forms" = true) (k7 : PySem.W.keepIn K (.ref a7) = true)
    (n8 : PySem.W.nsIn K mainGlobals "scale_form" = some (some (.ref a8)))
    (l8 : K.lookup a8 = some ⟨oc8, od8, .func (PySem.W.fnOf "scale_form" "scale_form" (defArgs s_scale_form) (defBody s_scale_form) (defScope s_scale_form) .none kV8 dc8 pm8 an8 cd8 ct8), sl8⟩)
    (c8 : PySem.W.codeIn K cd8 "scale_form" = true) (k8 : PySem.W.keepIn K (.ref a8) = true)
    (n9 : PySem.W.nsIn K mainGlobals "replace_unknown" = some (some (.ref a9)))
    (l9 : K.lookup a9 = some ⟨oc9, od9, .func (PySem.W.fnOf "replace_unknown" "replace_unknown" (defArgs s_replace_unknown) (defBody s_replace_unknown) (defScope s_replace_unknown) .none kV9 dc9 pm9 an9 cd9 ct9), sl9⟩)
    (c9 : PySem.W.codeIn K cd9 "replace_unknown" = true) (k9 : PySem.W.keepIn K (.ref a9) = true)
    (n10 : PySem.W.nsIn K mainGlobals "coefficient" = some (some (.ref a10)))
    (l10 : K.lookup a10 = some ⟨oc10, od10, .func (PySem.W.fnOf "coefficient" "coefficient" (defArgs s_coefficient) (defBody s_coefficient) (defScope s_coefficient) .none kV10 dc10 pm10 an10 cd10 ct10), sl10⟩)
    (c10 : PySem.W.codeIn K cd10 "coefficient" = true) (k10 : PySem.W.keepIn K (.ref a10) = true)
    (n11 : PySem.W.nsIn K mainGlobals "_law_cell" = some (some (.ref a11)))
    (l11 : K.lookup a11 = some ⟨oc11, od11, .func (PySem.W.fnOf "_law_cell" "_law_cell" (defArgs s__law_cell) (defBody s__law_cell) (defScope s__law_cell) .none kV11 dc11 pm11 an11 cd11 ct11), sl11⟩)
    (c11 : PySem.W.codeIn K cd11 "_law_cell" = true) (k11 : PySem.W.keepIn K (.ref a11) = true)
    (n12 : PySem.W.nsIn K mainGlobals "_law_stream" = some (some (.ref a12)))
    (l12 : K.lookup a12 = some ⟨oc12, od12, .func (PySem.W.fnOf "_law_stream" "_law_stream" (defArgs s__law_stream) (defBody s__law_stream) (defScope s__law_stream) .none kV12 dc12 pm12 an12 cd12 ct12), sl12⟩)
    (c12 : PySem.W.codeIn K cd12 "_law_stream" = true) (k12 : PySem.W.keepIn K (.ref a12) = true)
    (n13 : PySem.W.nsIn K mainGlobals "_law_next" = some (some (.ref a13)))
    (l13 : K.lookup a13 = some ⟨oc13, od13, .func (PySem.W.fnOf "_law_next" "_law_next" (defArgs s__law_next) (defBody s__law_next) (defScope s__law_next) .none kV13 dc13 pm13 an13 cd13 ct13), sl13⟩)
    (c13 : PySem.W.codeIn K cd13 "_law_next" = true) (k13 : PySem.W.keepIn K (.ref a13) = true)
    (n14 : PySem.W.nsIn K mainGlobals "_law_is_integer" = some (some (.ref a14)))
    (l14 : K.lookup a14 = some ⟨oc14, od14, .func (PySem.W.fnOf "_law_is_integer" "_law_is_integer" (defArgs s__law_is_integer) (defBody s__law_is_integer) (defScope s__law_is_integer) .none kV14 dc14 pm14 an14 cd14 ct14), sl14⟩)
    (c14 : PySem.W.codeIn K cd14 "_law_is_integer" = true) (k14 : PySem.W.keepIn K (.ref a14) = true)
    (n15 : PySem.W.nsIn K mainGlobals "_law_ratio" = some (some (.ref a15)))
    (l15 : K.lookup a15 = some ⟨oc15, od15, .func (PySem.W.fnOf "_law_ratio" "_law_ratio" (defArgs s__law_ratio) (defBody s__law_ratio) (defScope s__law_ratio) .none kV15 dc15 pm15 an15 cd15 ct15), sl15⟩)
    (c15 : PySem.W.codeIn K cd15 "_law_ratio" = true) (k15 : PySem.W.keepIn K (.ref a15) = true)
    (n16 : PySem.W.nsIn K mainGlobals "_law_is_number" = some (some (.ref a16)))
    (l16 : K.lookup a16 = some ⟨oc16, od16, .func (PySem.W.fnOf "_law_is_number" "_law_is_number" (defArgs s__law_is_number) (defBody s__law_is_number) (defScope s__law_is_number) .none kV16 dc16 pm16 an16 cd16 ct16), sl16⟩)
    (c16 : PySem.W.codeIn K cd16 "_law_is_number" = true) (k16 : PySem.W.keepIn K (.ref a16) = true)
    (n17 : PySem.W.nsIn K mainGlobals "_law_small" = some (some (.ref a17)))
    (l17 : K.lookup a17 = some ⟨oc17, od17, .func (PySem.W.fnOf "_law_small" "_law_small" (defArgs s__law_small) (defBody s__law_small) (defScope s__law_small) .none kV17 dc17 pm17 an17 cd17 ct17), sl17⟩)
    (c17 : PySem.W.codeIn K cd17 "_law_small" = true) (k17 : PySem.W.keepIn K (.ref a17) = true)
    (n18 : PySem.W.nsIn K mainGlobals "_law_form" = some (some (.ref a18)))
    (l18 : K.lookup a18 = some ⟨oc18, od18, .func (PySem.W.fnOf "_law_form" "_law_form" (defArgs s__law_form) (defBody s__law_form) (defScope s__law_form) .none kV18 dc18 pm18 an18 cd18 ct18), sl18⟩)
    (c18 : PySem.W.codeIn K cd18 "_law_form" = true) (k18 : PySem.W.keepIn K (.ref a18) = true)
    (n19 : PySem.W.nsIn K mainGlobals "_law_factor" = some (some (.ref a19)))
    (l19 : K.lookup a19 = some ⟨oc19, od19, .func (PySem.W.fnOf "_law_factor" "_law_factor" (defArgs s__law_factor) (defBody s__law_factor) (defScope s__law_factor) .none kV19 dc19 pm19 an19 cd19 ct19), sl19⟩)
    (c19 : PySem.W.codeIn K cd19 "_law_factor" = true) (k19 : PySem.W.keepIn K (.ref a19) = true)
    (n20 : PySem.W.nsIn K mainGlobals "_law_sum" = some (some (.ref a20)))
    (l20 : K.lookup a20 = some ⟨oc20, od20, .func (PySem.W.fnOf "_law_sum" "_law_sum" (defArgs s__law_sum) (defBody s__law_sum) (defScope s__law_sum) .none kV20 dc20 pm20 an20 cd20 ct20), sl20⟩)
    (c20 : PySem.W.codeIn K cd20 "_law_sum" = true) (k20 : PySem.W.keepIn K (.ref a20) = true)
    (n21 : PySem.W.nsIn K mainGlobals "_law_product" = some (some (.ref a21)))
    (l21 : K.lookup a21 = some ⟨oc21, od21, .func (PySem.W.fnOf "_law_product" "_law_product" (defArgs s__law_product) (defBody s__law_product) (defScope s__law_product) .none kV21 dc21 pm21 an21 cd21 ct21), sl21⟩)
    (c21 : PySem.W.codeIn K cd21 "_law_product" = true) (k21 : PySem.W.keepIn K (.ref a21) = true)
    (n22 : PySem.W.nsIn K mainGlobals "_law_is_form" = some (some (.ref a22)))
    (l22 : K.lookup a22 = some ⟨oc22, od22, .func (PySem.W.fnOf "_law_is_form" "_law_is_form" (defArgs s__law_is_form) (defBody s__law_is_form) (defScope s__law_is_form) .none kV22 dc22 pm22 an22 cd22 ct22), sl22⟩)
    (c22 : PySem.W.codeIn K cd22 "_law_is_form" = true) (k22 : PySem.W.keepIn K (.ref a22) = true)
    (n23 : PySem.W.nsIn K mainGlobals "_law_moved" = some (some (.ref a23)))
    (l23 : K.lookup a23 = some ⟨oc23, od23, .func (PySem.W.fnOf "_law_moved" "_law_moved" (defArgs s__law_moved) (defBody s__law_moved) (defScope s__law_moved) .none kV23 dc23 pm23 an23 cd23 ct23), sl23⟩)
    (c23 : PySem.W.codeIn K cd23 "_law_moved" = true) (k23 : PySem.W.keepIn K (.ref a23) = true)
    (n24 : PySem.W.nsIn K mainGlobals "law" = some (some (.ref a24)))
    (l24 : K.lookup a24 = some ⟨oc24, od24, .func (PySem.W.fnOf "law" "law" (defArgs s_law) (defBody s_law) (defScope s_law) .none kV24 dc24 pm24 an24 cd24 ct24), sl24⟩)
    (c24 : PySem.W.codeIn K cd24 "law" = true) (k24 : PySem.W.keepIn K (.ref a24) = true)
    (xg0 : PySem.W.nsIn K mainGlobals "FontError" = some (some (.ref a0))) (xq0 : PySem.W.excIn K a0 [.type "ValueError", .type "Exception", .type "BaseException", .type "object"] "ValueError.__new__" = true) (xk0 : PySem.W.keepIn K (.ref a0) = true) (xt0 : PySem.W.typeIn K (.ref a0) = some (.type "type"))
    (xa0 : PySem.W.findIn K (.ref a0) "__getattribute__" = some (some (.builtin "BaseException.__getattribute__"))) (xb0 : PySem.W.findIn K (.ref a0) "__getattr__" = some none) (xc0 : PySem.W.subIn K (.ref a0) (.type "BaseException") = some true) (xd0 : PySem.W.hasDictIn K a0 = true)
    (xe0 : PySem.W.findIn K (.ref a0) "__class__" = some (some (.builtin "object.__class__"))) (xf0 : PySem.W.mroIn K a0 (.type "object") = some true) (xv0 : PySem.W.subIn K (.ref a0) (.type "ValueError") = some true)
    (xg1 : PySem.W.nsIn K mainGlobals "TooGreat" = some (some (.ref a1))) (xq1 : PySem.W.excIn K a1 [.type "ValueError", .type "Exception", .type "BaseException", .type "object"] "ValueError.__new__" = true) (xk1 : PySem.W.keepIn K (.ref a1) = true) (xt1 : PySem.W.typeIn K (.ref a1) = some (.type "type"))
    (xa1 : PySem.W.findIn K (.ref a1) "__getattribute__" = some (some (.builtin "BaseException.__getattribute__"))) (xb1 : PySem.W.findIn K (.ref a1) "__getattr__" = some none) (xc1 : PySem.W.subIn K (.ref a1) (.type "BaseException") = some true) (xd1 : PySem.W.hasDictIn K a1 = true)
    (xe1 : PySem.W.findIn K (.ref a1) "__class__" = some (some (.builtin "object.__class__"))) (xf1 : PySem.W.mroIn K a1 (.type "object") = some true) (xv1 : PySem.W.subIn K (.ref a1) (.type "ValueError") = some true)
    (xg2 : PySem.W.nsIn K mainGlobals "DivisionByZero" = some (some (.ref a2))) (xq2 : PySem.W.excIn K a2 [.type "ValueError", .type "Exception", .type "BaseException", .type "object"] "ValueError.__new__" = true) (xk2 : PySem.W.keepIn K (.ref a2) = true) (xt2 : PySem.W.typeIn K (.ref a2) = some (.type "type"))
    (xa2 : PySem.W.findIn K (.ref a2) "__getattribute__" = some (some (.builtin "BaseException.__getattribute__"))) (xb2 : PySem.W.findIn K (.ref a2) "__getattr__" = some none) (xc2 : PySem.W.subIn K (.ref a2) (.type "BaseException") = some true) (xd2 : PySem.W.hasDictIn K a2 = true)
    (xe2 : PySem.W.findIn K (.ref a2) "__class__" = some (some (.builtin "object.__class__"))) (xf2 : PySem.W.mroIn K a2 (.type "object") = some true) (xv2 : PySem.W.subIn K (.ref a2) (.type "ValueError") = some true)
    (xm : PySem.W.specialIn K (.builtin "object.__class__") "__get__" = some (some (.builtin "getset_descriptor.__get__"))) (xn : PySem.W.takesIn K (.builtin "object.__class__") = some true)
    (e0_0 : PySem.W.subIn K (.ref a0) (.ref a0) = some true)
    (e0_1 : PySem.W.subIn K (.ref a0) (.ref a1) = some false)
    (e0_2 : PySem.W.subIn K (.ref a0) (.ref a2) = some false)
    (e1_0 : PySem.W.subIn K (.ref a1) (.ref a0) = some true)
    (e1_1 : PySem.W.subIn K (.ref a1) (.ref a1) = some true)
    (e1_2 : PySem.W.subIn K (.ref a1) (.ref a2) = some false)
    (e2_0 : PySem.W.subIn K (.ref a2) (.ref a0) = some true)
    (e2_1 : PySem.W.subIn K (.ref a2) (.ref a1) = some false)
    (e2_2 : PySem.W.subIn K (.ref a2) (.ref a2) = some true)
    (z_abs : PySem.W.nsIn K mainGlobals "abs" = some none)
    (z_bool : PySem.W.nsIn K mainGlobals "bool" = some none)
    (z_dict : PySem.W.nsIn K mainGlobals "dict" = some none)
    (z_int : PySem.W.nsIn K mainGlobals "int" = some none)
    (z_isinstance : PySem.W.nsIn K mainGlobals "isinstance" = some none)
    (z_len : PySem.W.nsIn K mainGlobals "len" = some none)
    (z_list : PySem.W.nsIn K mainGlobals "list" = some none)
    (z_range : PySem.W.nsIn K mainGlobals "range" = some none)
    (z_sorted : PySem.W.nsIn K mainGlobals "sorted" = some none)
    (z_tuple : PySem.W.nsIn K mainGlobals "tuple" = some none)
    (l_gcd : PySem.W.nsIn K mainGlobals "gcd" = some (some (.builtin "math.gcd")))
    (c_LIMIT : PySem.W.nsIn K mainGlobals "LIMIT" = some (some (.int (1000000000000000000) t_LIMIT)))
    (ntZERO : PySem.W.nsIn K mainGlobals "ZERO" = some (some (.ref a25)))
    (ktZERO_0 : K.lookup a25 = some ⟨.type "tuple", odZERO_0, .seq (List.toArray [.int (0) tZERO_0_0, .int (1) tZERO_0_1]) nnZERO_0, slZERO_0⟩)
    : ∃ fd : FuncData, (∀ (s : Shared) (v : Value), BindsTo s fd ⟨[v], []⟩ [("script", v)]) ∧ ∀ base : Heap, K.In base → base.Ns mainGlobals mg → FnOk l.prog w K mg base CX0 6 fa fd ["script"] (sp_law K) := by
  have e := hfa.symm.trans (PySem.W.mg_of X G n24)
  cases e
  have F3 := fun_mk (st := s_ratio) l3 c3 k3
  have b3 := F3.binds (ps := ["n", "d"]) fun _ _ _ _ _ _ us hl => match us, hl with | [_, _], _ => rfl
  have F4 := fun_mk (st := s_add) l4 c4 k4
  have b4 := F4.binds (ps := ["a", "b"]) fun _ _ _ _ _ _ us hl => match us, hl with | [_, _], _ => rfl
  have F5 := fun_mk (st := s_multiply) l5 c5 k5
  have b5 := F5.binds (ps := ["a", "b"]) fun _ _ _ _ _ _ us hl => match us, hl with | [_, _], _ => rfl
  have F6 := fun_mk (st := s_add_forms) l6 c6 k6
  have b6 := F6.binds (ps := ["a", "b"]) fun _ _ _ _ _ _ us hl => match us, hl with | [_, _], _ => rfl
  have F7 := fun_mk (st := s_combine_forms) l7 c7 k7
  have b7 := F7.binds (ps := ["a", "b", "operation"]) fun _ _ _ _ _ _ us hl => match us, hl with | [_, _, _], _ => rfl
  have F8 := fun_mk (st := s_scale_form) l8 c8 k8
  have b8 := F8.binds (ps := ["form", "number"]) fun _ _ _ _ _ _ us hl => match us, hl with | [_, _], _ => rfl
  have F9 := fun_mk (st := s_replace_unknown) l9 c9 k9
  have b9 := F9.binds (ps := ["form", "unknown", "other"]) fun _ _ _ _ _ _ us hl => match us, hl with | [_, _, _], _ => rfl
  have F10 := fun_mk (st := s_coefficient) l10 c10 k10
  have b10 := F10.binds (ps := ["form", "unknown"]) fun _ _ _ _ _ _ us hl => match us, hl with | [_, _], _ => rfl
  have F11 := fun_mk (st := s__law_cell) l11 c11 k11
  have b11 := F11.binds (ps := ["script", "k"]) fun _ _ _ _ _ _ us hl => match us, hl with | [_, _], _ => rfl
  have F12 := fun_mk (st := s__law_stream) l12 c12 k12
  have b12 := F12.binds (ps := ["cell"]) fun _ _ _ _ _ _ us hl => match us, hl with | [_], _ => rfl
  have F13 := fun_mk (st := s__law_next) l13 c13 k13
  have b13 := F13.binds (ps := ["stream", "size"]) fun _ _ _ _ _ _ us hl => match us, hl with | [_, _], _ => rfl
  have F14 := fun_mk (st := s__law_is_integer) l14 c14 k14
  have b14 := F14.binds (ps := ["actual"]) fun _ _ _ _ _ _ us hl => match us, hl with | [_], _ => rfl
  have F15 := fun_mk (st := s__law_ratio) l15 c15 k15
  have b15 := F15.binds (ps := ["n", "d"]) fun _ _ _ _ _ _ us hl => match us, hl with | [_, _], _ => rfl
  have F16 := fun_mk (st := s__law_is_number) l16 c16 k16
  have b16 := F16.binds (ps := ["actual"]) fun _ _ _ _ _ _ us hl => match us, hl with | [_], _ => rfl
  have F17 := fun_mk (st := s__law_small) l17 c17 k17
  have b17 := F17.binds (ps := ["stream"]) fun _ _ _ _ _ _ us hl => match us, hl with | [_], _ => rfl
  have F18 := fun_mk (st := s__law_form) l18 c18 k18
  have b18 := F18.binds (ps := ["stream", "size"]) fun _ _ _ _ _ _ us hl => match us, hl with | [_, _], _ => rfl
  have F19 := fun_mk (st := s__law_factor) l19 c19 k19
  have b19 := F19.binds (ps := ["form", "unknown"]) fun _ _ _ _ _ _ us hl => match us, hl with | [_, _], _ => rfl
  have F20 := fun_mk (st := s__law_sum) l20 c20 k20
  have b20 := F20.binds (ps := ["a", "b"]) fun _ _ _ _ _ _ us hl => match us, hl with | [_, _], _ => rfl
  have F21 := fun_mk (st := s__law_product) l21 c21 k21
  have b21 := F21.binds (ps := ["a", "b"]) fun _ _ _ _ _ _ us hl => match us, hl with | [_, _], _ => rfl
  have F22 := fun_mk (st := s__law_is_form) l22 c22 k22
  have b22 := F22.binds (ps := ["actual", "size"]) fun _ _ _ _ _ _ us hl => match us, hl with | [_, _], _ => rfl
  have F23 := fun_mk (st := s__law_moved) l23 c23 k23
  have b23 := F23.binds (ps := ["form", "start", "stride"]) fun _ _ _ _ _ _ us hl => match us, hl with | [_, _, _], _ => rfl
  have F24 := fun_mk (st := s_law) l24 c24 k24
  have b24 := F24.binds (ps := ["script"]) fun _ _ _ _ _ _ us hl => match us, hl with | [_], _ => rfl
  let A : Nat → Addr := fun | 0 => a0 | 1 => a1 | 2 => a2 | 3 => a3 | 4 => a4 | 5 => a5 | 6 => a6 | 7 => a7 | 8 => a8 | 9 => a9 | 10 => a10 | 11 => a11 | 12 => a12 | 13 => a13 | 14 => a14 | 15 => a15 | 16 => a16 | 17 => a17 | 18 => a18 | 19 => a19 | 20 => a20 | 21 => a21 | 22 => a22 | 23 => a23 | 24 => fa | 25 => a25 | _ => 0
  let D : Nat → FuncData := fun | 3 => PySem.W.fnOf "ratio" "ratio" (defArgs s_ratio) (defBody s_ratio) (defScope s_ratio) .none kV3 dc3 pm3 an3 cd3 ct3 | 4 => PySem.W.fnOf "add" "add" (defArgs s_add) (defBody s_add) (defScope s_add) .none kV4 dc4 pm4 an4 cd4 ct4 | 5 => PySem.W.fnOf "multiply" "multiply" (defArgs s_multiply) (defBody s_multiply) (defScope s_multiply) .none kV5 dc5 pm5 an5 cd5 ct5 | 6 => PySem.W.fnOf "add_forms" "add_forms" (defArgs s_add_forms) (defBody s_add_forms) (defScope s_add_forms) .none kV6 dc6 pm6 an6 cd6 ct6 | 7 => PySem.W.fnOf "combine_forms" "combine_forms" (defArgs s_combine_forms) (defBody s_combine_forms) (defScope s_combine_forms) .none kV7 dc7 pm7 an7 cd7 ct7 | 8 => PySem.W.fnOf "scale_form" "scale_form" (defArgs s_scale_form) (defBody s_scale_form) (defScope s_scale_form) .none kV8 dc8 pm8 an8 cd8 ct8 | 9 => PySem.W.fnOf "replace_unknown" "replace_unknown" (defArgs s_replace_unknown) (defBody s_replace_unknown) (defScope s_replace_unknown) .none kV9 dc9 pm9 an9 cd9 ct9 | 10 => PySem.W.fnOf "coefficient" "coefficient" (defArgs s_coefficient) (defBody s_coefficient) (defScope s_coefficient) .none kV10 dc10 pm10 an10 cd10 ct10 | 11 => PySem.W.fnOf "_law_cell" "_law_cell" (defArgs s__law_cell) (defBody s__law_cell) (defScope s__law_cell) .none kV11 dc11 pm11 an11 cd11 ct11 | 12 => PySem.W.fnOf "_law_stream" "_law_stream" (defArgs s__law_stream) (defBody s__law_stream) (defScope s__law_stream) .none kV12 dc12 pm12 an12 cd12 ct12 | 13 => PySem.W.fnOf "_law_next" "_law_next" (defArgs s__law_next) (defBody s__law_next) (defScope s__law_next) .none kV13 dc13 pm13 an13 cd13 ct13 | 14 => PySem.W.fnOf "_law_is_integer" "_law_is_integer" (defArgs s__law_is_integer) (defBody s__law_is_integer) (defScope s__law_is_integer) .none kV14 dc14 pm14 an14 cd14 ct14 | 15 => PySem.W.fnOf "_law_ratio" "_law_ratio" (defArgs s__law_ratio) (defBody s__law_ratio) (defScope s__law_ratio) .none kV15 dc15 pm15 an15 cd15 ct15 | 16 => PySem.W.fnOf "_law_is_number" "_law_is_number" (defArgs s__law_is_number) (defBody s__law_is_number) (defScope s__law_is_number) .none kV16 dc16 pm16 an16 cd16 ct16 | 17 => PySem.W.fnOf "_law_small" "_law_small" (defArgs s__law_small) (defBody s__law_small) (defScope s__law_small) .none kV17 dc17 pm17 an17 cd17 ct17 | 18 => PySem.W.fnOf "_law_form" "_law_form" (defArgs s__law_form) (defBody s__law_form) (defScope s__law_form) .none kV18 dc18 pm18 an18 cd18 ct18 | 19 => PySem.W.fnOf "_law_factor" "_law_factor" (defArgs s__law_factor) (defBody s__law_factor) (defScope s__law_factor) .none kV19 dc19 pm19 an19 cd19 ct19 | 20 => PySem.W.fnOf "_law_sum" "_law_sum" (defArgs s__law_sum) (defBody s__law_sum) (defScope s__law_sum) .none kV20 dc20 pm20 an20 cd20 ct20 | 21 => PySem.W.fnOf "_law_product" "_law_product" (defArgs s__law_product) (defBody s__law_product) (defScope s__law_product) .none kV21 dc21 pm21 an21 cd21 ct21 | 22 => PySem.W.fnOf "_law_is_form" "_law_is_form" (defArgs s__law_is_form) (defBody s__law_is_form) (defScope s__law_is_form) .none kV22 dc22 pm22 an22 cd22 ct22 | 23 => PySem.W.fnOf "_law_moved" "_law_moved" (defArgs s__law_moved) (defBody s__law_moved) (defScope s__law_moved) .none kV23 dc23 pm23 an23 cd23 ct23 | _ => PySem.W.fnOf "law" "law" (defArgs s_law) (defBody s_law) (defScope s_law) .none kV24 dc24 pm24 an24 cd24 ct24
  have T : Txt K mg A D :=
    {F_ratio := F3,
     m_ratio := PySem.W.mg_of X G n3,
     b_ratio := b3,
     F_add := F4,
     m_add := PySem.W.mg_of X G n4,
     b_add := b4,
     F_multiply := F5,
     m_multiply := PySem.W.mg_of X G n5,
     b_multiply := b5,
     F_add_forms := F6,
     m_add_forms := PySem.W.mg_of X G n6,
     b_add_forms := b6,
     F_combine_forms := F7,
     m_combine_forms := PySem.W.mg_of X G n7,
     b_combine_forms := b7,
     F_scale_form := F8,
     m_scale_form := PySem.W.mg_of X G n8,
     b_scale_form := b8,
     F_replace_unknown := F9,
     m_replace_unknown := PySem.W.mg_of X G n9,
     b_replace_unknown := b9,
     F_coefficient := F10,
     m_coefficient := PySem.W.mg_of X G n10,
     b_coefficient := b10,
     F__law_cell := F11,
     m__law_cell := PySem.W.mg_of X G n11,
     b__law_cell := b11,
     F__law_stream := F12,
     m__law_stream := PySem.W.mg_of X G n12,
     b__law_stream := b12,
     F__law_next := F13,
     m__law_next := PySem.W.mg_of X G n13,
     b__law_next := b13,
     F__law_is_integer := F14,
     m__law_is_integer := PySem.W.mg_of X G n14,
     b__law_is_integer := b14,
     F__law_ratio := F15,
     m__law_ratio := PySem.W.mg_of X G n15,
     b__law_ratio := b15,
     F__law_is_number := F16,
     m__law_is_number := PySem.W.mg_of X G n16,
     b__law_is_number := b16,
     F__law_small := F17,
     m__law_small := PySem.W.mg_of X G n17,
     b__law_small := b17,
     F__law_form := F18,
     m__law_form := PySem.W.mg_of X G n18,
     b__law_form := b18,
     F__law_factor := F19,
     m__law_factor := PySem.W.mg_of X G n19,
     b__law_factor := b19,
     F__law_sum := F20,
     m__law_sum := PySem.W.mg_of X G n20,
     b__law_sum := b20,
     F__law_product := F21,
     m__law_product := PySem.W.mg_of X G n21,
     b__law_product := b21,
     F__law_is_form := F22,
     m__law_is_form := PySem.W.mg_of X G n22,
     b__law_is_form := b22,
     F__law_moved := F23,
     m__law_moved := PySem.W.mg_of X G n23,
     b__law_moved := b23,
     F_law := F24,
     m_law := PySem.W.mg_of X G n24,
     b_law := b24,
     x_FontError := ⟨PySem.W.mg_of X G xg0, xq0, xk0, xt0, ⟨xa0, xb0, xc0, xd0, xe0, xm, xn, xf0⟩, xv0⟩,
     x_TooGreat := ⟨PySem.W.mg_of X G xg1, xq1, xk1, xt1, ⟨xa1, xb1, xc1, xd1, xe1, xm, xn, xf1⟩, xv1⟩,
     x_DivisionByZero := ⟨PySem.W.mg_of X G xg2, xq2, xk2, xt2, ⟨xa2, xb2, xc2, xd2, xe2, xm, xn, xf2⟩, xv2⟩,
     e_FontError_FontError := e0_0,
     e_FontError_TooGreat := e0_1,
     e_FontError_DivisionByZero := e0_2,
     e_TooGreat_FontError := e1_0,
     e_TooGreat_TooGreat := e1_1,
     e_TooGreat_DivisionByZero := e1_2,
     e_DivisionByZero_FontError := e2_0,
     e_DivisionByZero_TooGreat := e2_1,
     e_DivisionByZero_DivisionByZero := e2_2,
     z_abs := PySem.W.mg_none_of X G z_abs,
     z_bool := PySem.W.mg_none_of X G z_bool,
     z_dict := PySem.W.mg_none_of X G z_dict,
     z_int := PySem.W.mg_none_of X G z_int,
     z_isinstance := PySem.W.mg_none_of X G z_isinstance,
     z_len := PySem.W.mg_none_of X G z_len,
     z_list := PySem.W.mg_none_of X G z_list,
     z_range := PySem.W.mg_none_of X G z_range,
     z_sorted := PySem.W.mg_none_of X G z_sorted,
     z_tuple := PySem.W.mg_none_of X G z_tuple,
     l_gcd := PySem.W.mg_of X G l_gcd,
     c_ZERO := PySem.W.mg_of X G ntZERO,
     d_ZERO := fun H => (Z.dpk (vs := [.int (0), .int (1)]) ktZERO_0 (Nat.le_of_ble_eq_true rfl) (.cons ⟨_, rfl⟩ (.cons ⟨_, rfl⟩ .nil)) (.cons (.int _) (.cons (.int _) .nil))),
     c_LIMIT := ⟨_, PySem.W.mg_of X G c_LIMIT, _, rfl⟩}
  exact ⟨_, fun s v => .of_eq rfl, fun base _ _ => ok_law T⟩
end G
open PySem PySem.W PyProof.Rows
set_option maxRecDepth 100000 in
set_option maxHeartbeats 0 in
theorem PySem.Challenge.cw_fontwinding_k05_replaced_unknown_holds : PySem.Challenge.rw_fontwinding_k05_replaced_unknown.Holds := by
  w_on; o_law; k_head; (case hw => w_witness2)
  k_fill
  refine L2.walk_of (l := PySem.Challenge.rw_fontwinding_k05_replaced_unknown) (n := 63) (k := 6) (x := "script") (CX := fun _ => L2.CX0) (sp := fun w => G.sp_law _) rfl (by decide) rfl ⟨rfl, by decide, by decide⟩ (fun w h Y => PySem.W.kIn_of Y) ?F (fun _ _ a ns hl _ hS => ⟨a, ns, rfl, hS, hl, fun _ => rfl⟩) (fun _ _ _ _ _ h => h)
  case F =>
    intro w mg fa h KX G0 hmg
    refine' G.all_mk KX G0 hmg ?n3 ?l3 ?c3 ?k3 ?n4 ?l4 ?c4 ?k4 ?n5 ?l5 ?c5 ?k5 ?n6 ?l6 ?c6 ?k6 ?n7 ?l7 ?c7 ?k7 ?n8 ?l8 ?c8 ?k8 ?n9 ?l9 ?c9 ?k9 ?n10 ?l10 ?c10 ?k10 ?n11 ?l11 ?c11 ?k11 ?n12 ?l12 ?c12 ?k12 ?n13 ?l13 ?c13 ?k13 ?n14 ?l14 ?c14 ?k14 ?n15 ?l15 ?c15 ?k15 ?n16 ?l16 ?c16 ?k16 ?n17 ?l17 ?c17 ?k17 ?n18 ?l18 ?c18 ?k18 ?n19 ?l19 ?c19 ?k19 ?n20 ?l20 ?c20 ?k20 ?n21 ?l21 ?c21 ?k21 ?n22 ?l22 ?c22 ?k22 ?n23 ?l23 ?c23 ?k23 ?n24 ?l24 ?c24 ?k24 ?xg0 ?xq0 ?xk0 ?xt0 ?xa0 ?xb0 ?xc0 ?xd0 ?xe0 ?xf0 ?xv0 ?xg1 ?xq1 ?xk1 ?xt1 ?xa1 ?xb1 ?xc1 ?xd1 ?xe1 ?xf1 ?xv1 ?xg2 ?xq2 ?xk2 ?xt2 ?xa2 ?xb2 ?xc2 ?xd2 ?xe2 ?xf2 ?xv2 ?xm ?xn ?e0_0 ?e0_1 ?e0_2 ?e1_0 ?e1_1 ?e1_2 ?e2_0 ?e2_1 ?e2_2 ?z_abs ?z_bool ?z_dict ?z_int ?z_isinstance ?z_len ?z_list ?z_range ?z_sorted ?z_tuple ?l_gcd ?c_LIMIT ?ntZERO ?ktZERO_0
    (case n3 => k_is)
    (case l3 => k_is)
    (case c3 => k_is)
    (case k3 => k_is)
    (case n4 => k_is)
    (case l4 => k_is)
    (case c4 => k_is)
    (case k4 => k_is)
    (case n5 => k_is)
    (case l5 => k_is)
    (case c5 => k_is)
    (case k5 => k_is)
    (case n6 => k_is)
    (case l6 => k_is)
    (case c6 => k_is)
    (case k6 => k_is)
    (case n7 => k_is)
    (case l7 => k_is)
    (case c7 => k_is)
    (case k7 => k_is)
    (case n8 => k_is)
    (case l8 => k_is)
    (case c8 => k_is)
    (case k8 => k_is)
    (case n9 => k_is)
    (case l9 => k_is)
    (case c9 => k_is)
    (case k9 => k_is)
    (case n10 => k_is)
    (case l10 => k_is)
    (case c10 => k_is)
    (case k10 => k_is)
    (case n11 => k_is)
    (case l11 => k_is)
    (case c11 => k_is)
    (case k11 => k_is)
    (case n12 => k_is)
    (case l12 => k_is)
    (case c12 => k_is)
    (case k12 => k_is)
    (case n13 => k_is)
    (case l13 => k_is)
    (case c13 => k_is)
    (case k13 => k_is)
    (case n14 => k_is)
    (case l14 => k_is)
    (case c14 => k_is)
    (case k14 => k_is)
    (case n15 => k_is)
    (case l15 => k_is)
    (case c15 => k_is)
    (case k15 => k_is)
    (case n16 => k_is)
    (case l16 => k_is)
    (case c16 => k_is)
    (case k16 => k_is)
    (case n17 => k_is)
    (case l17 => k_is)
    (case c17 => k_is)
    (case k17 => k_is)
    (case n18 => k_is)
    (case l18 => k_is)
    (case c18 => k_is)
    (case k18 => k_is)
    (case n19 => k_is)
    (case l19 => k_is)
    (case c19 => k_is)
    (case k19 => k_is)
    (case n20 => k_is)
    (case l20 => k_is)
    (case c20 => k_is)
    (case k20 => k_is)
    (case n21 => k_is)
    (case l21 => k_is)
    (case c21 => k_is)
    (case k21 => k_is)
    (case n22 => k_is)
    (case l22 => k_is)
    (case c22 => k_is)
    (case k22 => k_is)
    (case n23 => k_is)
    (case l23 => k_is)
    (case c23 => k_is)
    (case k23 => k_is)
    (case n24 => k_is)
    (case l24 => k_is)
    (case c24 => k_is)
    (case k24 => k_is)
    (case xg0 => k_is)
    (case xq0 => k_exc)
    (case xk0 => k_is)
    (case xt0 => k_is)
    (case xa0 => k_is)
    (case xb0 => k_is)
    (case xc0 => k_is)
    (case xd0 => k_is)
    (case xe0 => k_is)
    (case xf0 => k_is)
    (case xv0 => k_is)
    (case xg1 => k_is)
    (case xq1 => k_exc)
    (case xk1 => k_is)
    (case xt1 => k_is)
    (case xa1 => k_is)
    (case xb1 => k_is)
    (case xc1 => k_is)
    (case xd1 => k_is)
    (case xe1 => k_is)
    (case xf1 => k_is)
    (case xv1 => k_is)
    (case xg2 => k_is)
    (case xq2 => k_exc)
    (case xk2 => k_is)
    (case xt2 => k_is)
    (case xa2 => k_is)
    (case xb2 => k_is)
    (case xc2 => k_is)
    (case xd2 => k_is)
    (case xe2 => k_is)
    (case xf2 => k_is)
    (case xv2 => k_is)
    (case xm => k_is)
    (case xn => k_is)
    (case e0_0 => k_is)
    (case e0_1 => k_is)
    (case e0_2 => k_is)
    (case e1_0 => k_is)
    (case e1_1 => k_is)
    (case e1_2 => k_is)
    (case e2_0 => k_is)
    (case e2_1 => k_is)
    (case e2_2 => k_is)
    (case z_abs => k_is)
    (case z_bool => k_is)
    (case z_dict => k_is)
    (case z_int => k_is)
    (case z_isinstance => k_is)
    (case z_len => k_is)
    (case z_list => k_is)
    (case z_range => k_is)
    (case z_sorted => k_is)
    (case z_tuple => k_is)
    (case l_gcd => k_is)
    (case c_LIMIT => k_is)
    (case ntZERO => k_is)
    (case ktZERO_0 => k_is)
