import PyProof.Rows.All
import Wide.All
import OpenK.AllK
import Wide.FinOn
import HandS.ForMost
import HandS.ForExc
import HandS.Wide
import HandS.Gcd
import HandS.IsInst
import HandS.ExcIs
import HandS.TryMany
import HandS.Evl
import PySem.Challenge.RW_fontwinding_k14_points_at_times
set_option Elab.async false
set_option linter.all false
set_option maxRecDepth 100000
set_option maxHeartbeats 4000000
namespace Z
open PySem PySem.Spec PyProof.Rows L2

/-! ### operators -/
section
variable {X : Cx}
def CFd (_ j : Int) : Prop := j ≠ 0 ∧ j.natAbs.log2 < 9000
theorem op_fdivZ : OpR X (binaryOp .FloorDiv) (rI CFd fun i j => .int (i.fdiv j)) := opI fun i j _ _ _ _ _ hc q => floordiv_int hc.1 q (.inl (PyProof.noPylong_of_log2 hc.2))
theorem pe_globE {x : Str} {pos : Pos} {v : V} (h : ∃ u, X.mg x = some u ∧ RelV v u) (hg : Gl X x := by rfl) (hdb : (x == ("__debug__" : Str)) = false := by decide) : PE X (.Name x pos) (tC v) := by
  obtain ⟨u, h1, h2⟩ := h
  exact pe_glob hg h1 h2 hdb
theorem pe_globR {x : Str} {pos : Pos} {a : Addr} (h : X.mg x = some (.ref a)) (hg : Gl X x := by rfl) (hdb : (x == ("__debug__" : Str)) = false := by decide) : PE X (.Name x pos) (tC (.ref a)) := pe_glob hg h rfl hdb
end
/-- an own error class over ValueError -/
structure ExcX (K : PySem.W.Frag) (mg : Str → Option Value) (x : Str) (C : Addr) : Prop where
  g : mg x = some (.ref C)
  q : PySem.W.excIn K C [.type "ValueError", .type "Exception", .type "BaseException", .type "object"] "ValueError.__new__" = true
  k : PySem.W.keepIn K (.ref C) = true
  t : PySem.W.typeIn K (.ref C) = some (.type "type")
  c : ExcC K C
  v : PySem.W.subIn K (.ref C) (.type "ValueError") = some true
section
variable {X : Cx} {C D : Addr} {K : PySem.W.Frag} {mg : Str → Option Value} {x y : Str} {b : Bool}
theorem pmk {m : Str} {j : Nat} {p p2 pos : Pos} (E : ExcX X.K X.mg x C) (hg : Gl X x) (hdb : (x == ("__debug__" : Str)) = false := by decide) :
    PMk X (.Call (.Name x p) [.Constant (.str m) j p2] [] pos) (fun _ H Q => Q (.ref C) none H) := pmk_own PySem.F.excBase_ValueError E.q E.g E.k (raises_own E.c.hs E.t) hg hdb
theorem exm (E : ExcX K mg x C) (h : PySem.W.subIn K (.ref D) (.ref C) = some b) : PySem.W.exmOne K (.ref D) (.ref C) = some b := PySem.W.exm_ref E.c.hs E.c.hd E.t h
theorem kit_own (E : ExcX K mg x C) (h : PySem.W.subIn K (.ref D) (.ref C) = some b) (hs : PySem.W.subIn K (.ref C) (.ref C) = some true) : PySem.W.kitOne K (.ref D) (.ref C) = some b := by
  unfold PySem.W.kitOne
  by_cases e : D = C
  · subst e
    rw [hs] at h
    cases h
    rw [if_pos (by simp)]
  · rw [if_neg (by simpa using e)]
    unfold PySem.W.kitCls
    obtain ⟨cd, hc, _⟩ := PySem.W.any_some E.c.hd
    have e2 : ((PySem.W.clsIn K C).isSome && PySem.W.typeIn K (.ref C) == some (.type "type")) = true := by rw [hc, E.t] <;> rfl
    show (if _ then _ else _) = _
    rw [if_pos e2, h]
theorem kit_ve (E : ExcX K mg x D) : PySem.W.kitOne K (.ref D) (.type "ValueError") = some true := by
  unfold PySem.W.kitOne
  rw [if_neg (by simp)]
  unfold PySem.W.kitCls
  show (if _ then _ else _) = _
  rw [if_pos (by decide +kernel), E.v]
/-- isinstance of the error that a suite holds -/
def rIsEx (K : PySem.W.Frag) (cls : Value) (d : Option Addr) (a : Addr) : List V → Hp → VK → Prop := fun xs H Q => ∃ D, cls = .ref D ∧ d = none ∧ ExcC K D ∧ rIsE K D a xs H Q
theorem call_isE {a : Addr} {oe : Obj} {cls : Value} {d : Option Addr} {pn : List (Addr × Obj)} (hz : Zc cls d oe) (hf : ∃ vs, oe.data = .fields vs) : CallR (X.suite a ((a, oe) :: pn)) (.builtin "isinstance") (rIsEx X.K cls d a) := by
  intro pins s σ H xs us Q I r h
  obtain ⟨D, e1, e2, c, h⟩ := h
  subst e1
  subst e2
  exact L2.call_isE c hz hf pins s σ H xs us Q I r h
end

/-! ### heaps -/
theorem same_upd {H : Hp} {p : Addr} {o : HO} (h : H p = none) : Same H (upd H p o) := fun b x e => by
  rw [upd_ne (ne_of_none e h)]
  exact e
theorem Same.seqT {K : PySem.W.Frag} {H H' : Hp} {a : Addr} {xs : List V} (e : Same H H') (h : SqT K H a xs) : SqT K H' a xs := by
  rcases h with (h | ⟨o, h⟩) | h
  · exact .inl (.inl (e _ _ h))
  · exact .inl (.inr ⟨o, e _ _ h⟩)
  · exact .inr h
theorem seqT {K : PySem.W.Frag} {H H' : Hp} {a : Addr} {xs : List V} (e : Same H H') (h : SqT K H a xs) : SqT K H' a xs := Same.seqT e h
theorem sz {n : Nat} (h : n ≤ 1000) : n ≤ sizeLine := Nat.le_trans h (by decide)

/-! ### readings, step by step -/
def NewT (Q : VK) : List V → Hp → Prop := fun xs H1 => xs.length ≤ sizeLine ∧ ∀ p, H1 p = none → Q (.ref p) (upd H1 p (.tup xs))
def NewL (Q : VK) : List V → Hp → Prop := fun xs H1 => xs.length ≤ sizeLine ∧ ∀ p, H1 p = none → Q (.ref p) (upd H1 p (.lst xs))
section
variable {σ : L2.St} {H : Hp} {n : L2.St → Hp → Prop} {r : VK} {b c : L2.St → Hp → Prop} {t u : TS} {te ta tb : TE} {tt tu : TT} {Q : VK} {QB : Bool → Hp → Prop} {v w x y : V} {i j : Int} {K : PySem.W.Frag}
theorem z_seq (h : t ⟨u ⟨n, r, b, c⟩, r, b, c⟩ σ H) : tSeq t u ⟨n, r, b, c⟩ σ H := h
theorem z_asg {k : Nat} (h : te σ H fun x H1 => n (σ.set k (some x)) H1) : tAsg te (gName k) ⟨n, r, b, c⟩ σ H := h
theorem z_asgS {to ti : TE} {st : TSet} (h : te σ H fun v H0 => to σ H0 fun o H1 => ti σ H1 fun k H2 => st o k v H2 fun H3 => n σ H3) : tAsg te (gSub to ti st) ⟨n, r, b, c⟩ σ H := h
theorem z_drop (h : te σ H fun _ H1 => n σ H1) : tDrop te ⟨n, r, b, c⟩ σ H := h
theorem z_ret (h : te σ H r) : tRet te ⟨n, r, b, c⟩ σ H := h
theorem z_retN (h : r .non H) : tRetN ⟨n, r, b, c⟩ σ H := h
theorem z_next (h : n σ H) : tNext ⟨n, r, b, c⟩ σ H := h
theorem z_brk (h : b σ H) : tBreak ⟨n, r, b, c⟩ σ H := h
theorem z_cont (h : c σ H) : tCont ⟨n, r, b, c⟩ σ H := h
theorem z_ifs (h : tt σ H fun k H1 => if k = true then t ⟨n, r, b, c⟩ σ H1 else u ⟨n, r, b, c⟩ σ H1) : tIfS tt t u ⟨n, r, b, c⟩ σ H := h
theorem z_par {p q : Nat} {tl : TA} (h : tl σ H fun vs H1 => ∃ v w, vs = [v, w] ∧ n ((σ.set p (some v)).set q (some w)) H1) : tPar p q tl ⟨n, r, b, c⟩ σ H := h
theorem z_two {R : V → V → Prop} (h : R v w) : ∃ v' w', [v, w] = [v', w'] ∧ R v' w' := ⟨v, w, rfl, h⟩
theorem z_aug {k : Nat} {ti : TIp} (h : σ[k]? = some (some x)) (q : te σ H fun y H1 => ti x y H1 fun z H2 => n (σ.set k (some z)) H2) : tAug k te ti ⟨n, r, b, c⟩ σ H := ⟨x, h, q⟩
theorem z_ipI {f : Int → Int → Int} (q : Q (.int (f i j)) H) : ipI f (.int i) (.int j) H Q := ⟨i, j, rfl, rfl, q⟩
theorem z_var {k : Nat} (h : σ[k]? = some (some v)) (q : Q v H) : tVar k σ H Q := ⟨v, h, q⟩
theorem z_c (q : Q v H) : tC v σ H Q := q
theorem z_op {g : R2} (h : ta σ H fun x H1 => tb σ H1 fun y H2 => g x y H2 Q) : tOp g ta tb σ H Q := h
theorem z_un {g : V → Hp → VK → Prop} (h : ta σ H fun x H1 => g x H1 Q) : tUn g ta σ H Q := h
theorem z_I0 {g : Int → Int → V} (q : Q (g i j) H) : rI0 g (.int i) (.int j) H Q := ⟨i, j, rfl, rfl, q⟩
theorem z_I {C : Int → Int → Prop} {g : Int → Int → V} (hc : C i j) (q : Q (g i j) H) : rI C g (.int i) (.int j) H Q := ⟨i, j, rfl, rfl, hc, q⟩
theorem z_U {g : Int → V} (q : Q (g i) H) : rU g (.int i) H Q := ⟨i, rfl, q⟩
theorem z_eqI (q : Q (.bl (decide (i = j))) H) : rEq (.int i) (.int j) H Q := ⟨rfl, by rw [show decide (V.int i = V.int j) = decide (i = j) by simp]; exact q⟩
theorem z_neI (q : Q (.bl (decide (¬ i = j))) H) : rNe (.int i) (.int j) H Q := ⟨rfl, by rw [show (!decide (V.int i = V.int j)) = decide (¬ i = j) by simp]; exact q⟩
theorem z_eq (h : scal x y = true) (q : Q (.bl (decide (x = y))) H) : rEq x y H Q := ⟨h, q⟩
theorem z_test (h : te σ H fun x H1 => ∃ k, x = .bl k ∧ QB k H1) : tTest te σ H QB := h
theorem z_tB (h : te σ H fun x H1 => ∃ k, x = .bl k ∧ QB k H1) : tB te σ H QB := h
theorem z_bl {k : Bool} {R : Bool → Prop} (q : R k) : ∃ k', V.bl k = V.bl k' ∧ R k' := ⟨k, rfl, q⟩
theorem z_notT (h : tt σ H fun k H1 => QB (!k) H1) : tNot tt σ H QB := h
theorem z_andT (h : tt σ H fun k H1 => if k = true then tu σ H1 QB else QB false H1) : tAnd tt tu σ H QB := h
theorem z_orT (h : tt σ H fun k H1 => if k = true then QB true H1 else tu σ H1 QB) : tOr tt tu σ H QB := h
theorem z_andV (h : ta σ H fun x H1 => ∃ k, x = .bl k ∧ if k = true then tb σ H1 Q else Q (.bl false) H1) : tAndV ta tb σ H Q := h
theorem z_orV (h : ta σ H fun x H1 => ∃ k, x = .bl k ∧ if k = true then Q (.bl true) H1 else tb σ H1 Q) : tOrV ta tb σ H Q := h
theorem z_notV (h : ta σ H fun x H1 => ∃ k, x = .bl k ∧ Q (.bl (!k)) H1) : tNotV ta σ H Q := h
theorem z_ifE (h : tt σ H fun k H1 => if k = true then ta σ H1 Q else tb σ H1 Q) : tIf tt ta tb σ H Q := h
theorem z_chain {g g' : R2} {tc : TE} (h : ta σ H fun x H1 => tb σ H1 fun y H2 => g x y H2 fun z H3 => ∃ k, z = .bl k ∧ (if k = true then tc σ H3 fun w' H4 => g' y w' H4 Q else Q (.bl false) H3)) : tChain g g' ta tb tc σ H Q := h
theorem z_nil {R : List V → Hp → Prop} (q : R [] H) : tNil σ H R := q
theorem z_cons {tr : TA} {R : List V → Hp → Prop} (h : ta σ H fun x H1 => tr σ H1 fun xs H2 => R (x :: xs) H2) : tCons ta tr σ H R := h
theorem z_tup {tl : TA} (h : tl σ H (NewT Q)) : tTup tl σ H Q := h
theorem z_lst {tl : TA} (h : tl σ H (NewL Q)) : tLst tl σ H Q := h
theorem z_newT {xs : List V} (hl : xs.length ≤ 1000) (q : ∀ p H', H p = none → Same H H' → H' p = some (.tup xs) → Q (.ref p) H') : NewT Q xs H := ⟨sz hl, fun p hp => q p _ hp (same_upd hp) upd_same⟩
theorem z_newL {xs : List V} (hl : xs.length ≤ 1000) (q : ∀ p H', H p = none → Same H H' → H' p = some (.lst xs) → Q (.ref p) H') : NewL Q xs H := ⟨sz hl, fun p hp => q p _ hp (same_upd hp) upd_same⟩
theorem z_cb {g : List V → Hp → VK → Prop} {tl : TA} (h : tl σ H fun vs H1 => g vs H1 Q) : tCB g tl σ H Q := h
theorem z_call {sp : Sp} {E : XK} {tl : TA} (h : tl σ H fun vs H1 => sp vs H1 Q E) : tCall sp [] E tl σ H Q := by
  unfold tCall
  simpa only [List.append_nil] using h
theorem z_callS {sp : Sp} {E : L2.St → XK} {tl : TA} (h : tl σ H fun vs H1 => sp vs H1 Q (E σ)) : tCallS sp E tl σ H Q := h
theorem z_ixL {p : Addr} {xs : List V} (h : SqL K H p xs) (ha : atI xs i = some v) (q : Q v H) : rIxL K (.ref p) (.int i) H Q := ⟨p, xs, i, v, rfl, rfl, h, ha, q⟩
theorem z_ixT {p : Addr} {xs : List V} (h : SqT K H p xs) (ha : atI xs i = some v) (q : Q v H) : rIxT K (.ref p) (.int i) H Q := ⟨p, xs, i, v, rfl, rfl, h, ha, q⟩
theorem z_setL {p : Addr} {xs : List V} {k : Nat} {R : Hp → Prop} (h : H p = some (.lst xs)) (hk : ixN xs.length i = some k) (q : R (upd H p (.lst (xs.set k v)))) : rSetL (.ref p) (.int i) v H R := ⟨p, xs, i, k, rfl, rfl, h, hk, q⟩
theorem z_if {p : Prop} [Decidable p] {A B : Prop} (h1 : p → A) (h2 : ¬ p → B) : if decide p = true then A else B := by
  by_cases h : p
  · rw [if_pos (decide_eq_true h)]
    exact h1 h
  · rw [if_neg (by simpa using h)]
    exact h2 h
theorem z_ifB {k : Bool} {A B : Prop} (h1 : k = true → A) (h2 : k = false → B) : if k = true then A else B := by
  cases k with
  | true => exact h1 rfl
  | false => exact h2 rfl
/-- and, or, not of a test whose answer is known, the heap as it was -/
theorem z_andK {k k' : Bool} (h : k = true → ∀ R : Bool → Hp → Prop, R k' H → tu σ H R) (q : QB (k && k') H) : if k = true then tu σ H QB else QB false H := by
  cases k with
  | true => exact h rfl QB q
  | false => exact q
theorem z_orK {k k' : Bool} (h : k = false → ∀ R : Bool → Hp → Prop, R k' H → tu σ H R) (q : QB (k || k') H) : if k = true then QB true H else tu σ H QB := by
  cases k with
  | true => exact q
  | false => exact h rfl QB q
theorem z_andKV {k k' : Bool} (h : k = true → ∀ R : VK, R (.bl k') H → tb σ H R) (q : Q (.bl (k && k')) H) : if k = true then tb σ H Q else Q (.bl false) H := by
  cases k with
  | true => exact h rfl Q q
  | false => exact q
theorem z_orKV {k k' : Bool} (h : k = false → ∀ R : VK, R (.bl k') H → tb σ H R) (q : Q (.bl (k || k')) H) : if k = true then Q (.bl true) H else tb σ H Q := by
  cases k with
  | true => exact q
  | false => exact h rfl Q q
/-- the second comparison of a chain -/
theorem z_chK {k k' : Bool} {tc : TE} {g' : R2} (h : k = true → ∀ R : VK, R (.bl k') H → tc σ H fun w' H4 => g' y w' H4 R) (q : Q (.bl (k && k')) H) :
    if k = true then tc σ H fun w' H4 => g' y w' H4 Q else Q (.bl false) H := by
  cases k with
  | true => exact h rfl Q q
  | false => exact q
theorem z_ty {x : V} {t : String} {T : String} {k : Bool} {H : Hp} {Q : VK} (h : TyX K H x (.type t)) (e : kitB t T = some k) (q : Q (.bl k) H) : rIsi K [x, .ty T] H Q := ⟨x, .ty T, .type t, .type T, k, rfl, .ty T, h, kit_ty e, q⟩
end
end Z
namespace Z
open PySem PySem.Spec PyProof.Rows L2
theorem pe_powc {X : Cx} {a b v : Int} {j1 j2 : Nat} {p1 p2 pos : Pos} (h0 : CPow a b) (hv : a ^ b.toNat = v) : PE X (.BinOp (.Constant (.int a) j1 p1) .Pow (.Constant (.int b) j2 p2) pos) (tC (.int v)) := by
  subst hv
  exact ⟨fun pins s σ H Q I h => (pe_op op_pow pe_int pe_int).run pins s σ H Q I ⟨a, b, rfl, rfl, h0, h⟩⟩
def rInt1 : List V → Hp → VK → Prop := fun xs H Q => (∃ i, xs = [.int i] ∧ Q (.int i) H) ∨ ∃ k, xs = [.bl k] ∧ Q (.int (if k then 1 else 0)) H
def rAbs : List V → Hp → VK → Prop := fun xs H Q => ∃ i, xs = [.int i] ∧ Q (.int (if i < 0 then -i else i)) H
def rLen (K : PySem.W.Frag) : List V → Hp → VK → Prop := fun xs H Q => ∃ p ys, xs = [.ref p] ∧ (SqL K H p ys ∨ SqT K H p ys) ∧ Q (.int ys.length) H
theorem c_int {X : Cx} : CallR X (.type "int") rInt1 := call_int1
theorem c_abs {X : Cx} : CallR X (.builtin "abs") rAbs := call_abs
theorem c_len {X : Cx} : CallR X (.builtin "len") (rLen X.K) := call_len_seq
section
variable {H : Hp} {Q : VK} {i j : Int} {v : V} {R : Prop}
theorem z_int1 (q : Q (.int i) H) : rInt1 [.int i] H Q := .inl ⟨i, rfl, q⟩
theorem z_int1b {k : Bool} (q : Q (.int (if k then 1 else 0)) H) : rInt1 [.bl k] H Q := .inr ⟨k, rfl, q⟩
theorem z_abs (q : Q (.int (if i < 0 then -i else i)) H) : rAbs [.int i] H Q := ⟨i, rfl, q⟩
theorem z_gcd (q : Q (.int ((Nat.gcd i.natAbs j.natAbs : Nat) : Int)) H) : rGcd [.int i, .int j] H Q := ⟨i, j, rfl, q⟩
theorem z_lenL {K : PySem.W.Frag} {p : Addr} {xs : List V} (h : SqL K H p xs) (q : Q (.int (xs.length : Int)) H) : rLen K [.ref p] H Q := ⟨p, xs, rfl, .inl h, q⟩
theorem z_lenT {K : PySem.W.Frag} {p : Addr} {xs : List V} (h : SqT K H p xs) (q : Q (.int (xs.length : Int)) H) : rLen K [.ref p] H Q := ⟨p, xs, rfl, .inr h, q⟩
theorem z_isII {K : PySem.W.Frag} (q : Q (.bl true) H) : rIsi K [.int i, .ty "int"] H Q := z_ty (.base (.int i)) (by decide +kernel) q
theorem z_isIB {K : PySem.W.Frag} (q : Q (.bl false) H) : rIsi K [.int i, .ty "bool"] H Q := z_ty (.base (.int i)) (by decide +kernel) q
theorem z_isBB {K : PySem.W.Frag} {k : Bool} (q : Q (.bl true) H) : rIsi K [.bl k, .ty "bool"] H Q := z_ty (.base (.bl k)) (by decide +kernel) q
theorem z_isTT {K : PySem.W.Frag} {p : Addr} {xs : List V} (h : H p = some (.tup xs)) (q : Q (.bl true) H) : rIsi K [.ref p, .ty "tuple"] H Q := z_ty (.base (.tup h)) (by decide +kernel) q
theorem z_isLL {K : PySem.W.Frag} {p : Addr} {xs : List V} (h : H p = some (.lst xs)) (q : Q (.bl true) H) : rIsi K [.ref p, .ty "list"] H Q := z_ty (.base (.lst h)) (by decide +kernel) q
theorem z_new {xs : List V} {F : Addr → Prop} (h : xs.length ≤ 1000) (q : ∀ p, H p = none → F p) : xs.length ≤ sizeLine ∧ ∀ p, H p = none → F p := ⟨sz h, q⟩
end
end Z
namespace Z
open PySem PySem.Spec PyProof.Rows L2
section
variable {σ : L2.St} {H : Hp} {n : L2.St → Hp → Prop} {r : VK} {b c : L2.St → Hp → Prop} {tb : TS} {K : PySem.W.Frag}
/-- for k in range(m) -/
theorem z_forR1 {ta : TA} {k : Nat} (m : Nat) (hm : m < 2 ^ 62) (ha : ∀ R : List V → Hp → Prop, R [.int (m : Int)] H → ta σ H R) (Pv : Nat → L2.St → Hp → Prop) (h0 : Pv 0 σ H)
    (hs : ∀ i σ H, i < m → Pv i σ H → tb ⟨Pv (i + 1), r, n, Pv (i + 1)⟩ (σ.set k (some (.int (i : Int)))) H) (hd : ∀ σ H, Pv m σ H → n σ H) : tFor (iRng1 ta) (gName k) tb ⟨n, r, b, c⟩ σ H := by
  refine ha _ ⟨(m : Int), rfl, by omega, by omega, ?_⟩
  refine for_range (lo := 0) (n := (m : Int).toNat) Pv h0 (fun i σ' H' hi p => ?_) (fun σ' H' p => hd σ' H' (by simpa using p))
  have e : (0 : Int) + (i : Int) = (i : Int) := Int.zero_add _
  show tb _ (σ'.set k (some (.int ((0 : Int) + (i : Int))))) H'
  rw [e]
  exact hs i σ' H' (by simpa using hi) p
/-- for k in range(lo, hi) -/
theorem z_forR2 {ta : TA} {k : Nat} (lo : Int) (m : Nat) (hl : -(2 ^ 61) ≤ lo ∧ lo < 2 ^ 61) (hm : m < 2 ^ 61) (ha : ∀ R : List V → Hp → Prop, R [.int lo, .int (lo + (m : Int))] H → ta σ H R) (Pv : Nat → L2.St → Hp → Prop) (h0 : Pv 0 σ H)
    (hs : ∀ i σ H, i < m → Pv i σ H → tb ⟨Pv (i + 1), r, n, Pv (i + 1)⟩ (σ.set k (some (.int (lo + (i : Int))))) H) (hd : ∀ σ H, Pv m σ H → n σ H) : tFor (iRng2 ta) (gName k) tb ⟨n, r, b, c⟩ σ H := by
  refine ha _ ⟨lo, lo + (m : Int), rfl, by omega, ?_⟩
  have en : (lo + (m : Int) - lo).toNat = m := by omega
  rw [en]
  exact for_range (lo := lo) (n := m) Pv h0 hs hd
/-- for x in a list, in a tuple -/
theorem z_forL {tl : TE} {g : TG} {a : Addr} {xs : List V} (ha : ∀ R : VK, R (.ref a) H → tl σ H R) (hx : SqL K H a xs) (Pv : Nat → L2.St → Hp → Prop) (h0 : Pv 0 σ H) (hl : ∀ i σ H, i ≤ xs.length → Pv i σ H → SqL K H a xs)
    (hs : ∀ i x σ H, xs[i]? = some x → Pv i σ H → g x σ H fun σ2 H2 => tb ⟨Pv (i + 1), r, n, Pv (i + 1)⟩ σ2 H2) (hd : ∀ σ H, Pv xs.length σ H → n σ H) : tFor (iList K tl) g tb ⟨n, r, b, c⟩ σ H :=
  ha _ ⟨a, rfl, ⟨xs, hx⟩, for_list Pv h0 hl hs hd⟩
theorem z_forT {tl : TE} {g : TG} {a : Addr} {xs : List V} (ha : ∀ R : VK, R (.ref a) H → tl σ H R) (hx : SqT K H a xs) (Pv : Nat → L2.St → Hp → Prop) (h0 : Pv 0 σ H) (hl : ∀ i σ H, i ≤ xs.length → Pv i σ H → SqT K H a xs)
    (hs : ∀ i x σ H, xs[i]? = some x → Pv i σ H → g x σ H fun σ2 H2 => tb ⟨Pv (i + 1), r, n, Pv (i + 1)⟩ σ2 H2) (hd : ∀ σ H, Pv xs.length σ H → n σ H) : tFor (iTup K tl) g tb ⟨n, r, b, c⟩ σ H :=
  ha _ ⟨a, rfl, ⟨xs, hx⟩, for_tup Pv h0 hl hs hd⟩
theorem z_gName {k : Nat} {v : V} {R : L2.St → Hp → Prop} (q : R (σ.set k (some v)) H) : gName k v σ H R := q
end
end Z
namespace Z
section
variable {A B : Prop}
theorem z_ifT (q : A) : if true = true then A else B := by
  rw [if_pos rfl]
  exact q
theorem z_ifF (q : B) : if false = true then A else B := by
  rw [if_neg Bool.false_ne_true]
  exact q
theorem z_ifNF (q : A) : if (!false) = true then A else B := z_ifT q
theorem z_ifNT (q : B) : if (!true) = true then A else B := z_ifF q
theorem z_ifN {p : Prop} [Decidable p] (h1 : ¬ p → A) (h2 : p → B) : if (!decide p) = true then A else B := by
  by_cases h : p
  · rw [if_neg (by simpa using h)]
    exact h2 h
  · rw [if_pos (by simpa using h)]
    exact h1 h
end
end Z
namespace Z
theorem z_ifYes {A B : Prop} {k : Bool} (h : k = true) (q : A) : if k = true then A else B := by
  rw [if_pos h]
  exact q
theorem z_ifNo {A B : Prop} {k : Bool} (h : k = false) (q : B) : if k = true then A else B := by
  rw [if_neg (by rw [h]; exact Bool.false_ne_true)]
  exact q
end Z
namespace Z
open PySem PySem.Spec PyProof.Rows L2
theorem z_exc {K : PySem.W.Frag} {cv cls : Value} {i : Nat} {ts : Addr → Value → Option Addr → TS} {Wout : WX} {n : L2.St → Hp → Prop} {r : VK} {b c : L2.St → Hp → Prop} {d : Option Addr} {σ : L2.St} {H : Hp} (e : PySem.W.exmOne K cls cv = some true)
    (h : ∀ a, H a = none → ts a cls d ⟨fun σ' H' => n (σ'.set i none) H', r, fun σ' H' => b (σ'.set i none) H', fun σ' H' => c (σ'.set i none) H'⟩ (σ.set i (some (.ref a))) H) : WE (wAs K cv i ts Wout ⟨n, r, b, c⟩) σ cls d H :=
  ⟨true, e, fun _ a ha => h a ha, fun z => Bool.noConfusion z⟩
theorem z_excO {K : PySem.W.Frag} {cv cls : Value} {ts : Addr → Value → Option Addr → TS} {Wout : WX} {D : Ends} {d : Option Addr} {σ : L2.St} {H : Hp} (e : PySem.W.exmOne K cls cv = some true)
    (h : ∀ a, H a = none → ts a cls d D σ H) : WE (wOnly K cv ts Wout D) σ cls d H :=
  ⟨true, e, fun _ a ha => h a ha, fun z => Bool.noConfusion z⟩
theorem z_isEr {K : PySem.W.Frag} {a C D : Addr} {k : Bool} {H : Hp} {Q : VK} (x : ExcC K D) (e : PySem.W.kitOne K (.ref D) (.ref C) = some k) (q : Q (.bl k) H) : rIsEx K (.ref D) none a [.ref a, .ref C] H Q :=
  ⟨D, rfl, rfl, x, .ref C, .ref C, k, rfl, fun u h => h, e, q⟩
theorem z_isEt {K : PySem.W.Frag} {a D : Addr} {t : String} {k : Bool} {H : Hp} {Q : VK} (x : ExcC K D) (e : PySem.W.kitOne K (.ref D) (.type t) = some k) (q : Q (.bl k) H) : rIsEx K (.ref D) none a [.ref a, .ty t] H Q :=
  ⟨D, rfl, rfl, x, .ty t, .type t, k, rfl, fun u h => h, e, q⟩
/-- two lists, tuples of flat things compared -/
theorem z_eqD {K : PySem.W.Frag} {x y : V} {d e : PyData} {H : Hp} {Q : VK} (h1 : Dp K H x d) (h2 : Dp K H y e) (s1 : SeqAt.shaped d = true) (s2 : SeqAt.shaped e = true) (q : Q (.bl (PyData.eqv d e)) H) : rEqD K x y H Q := ⟨d, e, h1, h2, s1, s2, q⟩
end Z
namespace Z
open PySem PySem.Spec PyProof.Rows L2
theorem z_eqSame {K : PySem.W.Frag} {x y : V} {d : PyData} {H : Hp} {Q : VK} (h1 : Dp K H x d) (h2 : Dp K H y d) (s : SeqAt.shaped d = true) (q : Q (.bl true) H) : rEqD K x y H Q :=
  ⟨d, d, h1, h2, s, s, by rw [SeqAt.eqv_refl d (SeqAt.canLay_of_shaped s)]; exact q⟩
theorem dpT2 {K : PySem.W.Frag} {H : Hp} {p : Addr} {n d : Int} (h : H p = some (.tup [.int n, .int d])) : Dp K H (.ref p) (.tuple [.int n, .int d]) := .tup (.inl (.inl h)) (.cons (.int n) (.cons (.int d) .nil))
theorem dpB3 {K : PySem.W.Frag} {H : Hp} {p : Addr} {a b c : Bool} (h : H p = some (.lst [.bl a, .bl b, .bl c])) : Dp K H (.ref p) (.list [.bool a, .bool b, .bool c]) := .lst (.inl (.inl h)) (.cons (.bl a) (.cons (.bl b) (.cons (.bl c) .nil)))
end Z
namespace Z
open PySem PySem.Spec PyProof.Rows L2
theorem z_cut {t u : TS} {n : L2.St → Hp → Prop} {r : VK} {b c : L2.St → Hp → Prop} {σ : L2.St} {H : Hp} (Mid : L2.St → Hp → Prop) (h : t ⟨Mid, r, b, c⟩ σ H) (k : ∀ σ' H', Mid σ' H' → u ⟨n, r, b, c⟩ σ' H') : Evl.tCut t u ⟨n, r, b, c⟩ σ H := ⟨Mid, h, k⟩
end Z
namespace Z
open PySem PySem.Spec PyProof.Rows L2
section
variable {σ : L2.St} {H : Hp} {n : L2.St → Hp → Prop} {r : VK} {b c : L2.St → Hp → Prop} {te : TE} {K : PySem.W.Frag} {a : Addr} {xs : List V} {gs : TGs} {m : Nat} {v : V}
theorem z_asgT (h : te σ H fun x H1 => ∃ a xs, x = .ref a ∧ SqT K H1 a xs ∧ xs.length = m ∧ gs xs σ H1 n) : tAsg te (gTup K m gs) ⟨n, r, b, c⟩ σ H := h
theorem z_asgL (h : te σ H fun x H1 => ∃ a xs, x = .ref a ∧ SqL K H1 a xs ∧ xs.length = m ∧ gs xs σ H1 n) : tAsg te (gLst K m gs) ⟨n, r, b, c⟩ σ H := h
theorem z_up (h : SqT K H a xs) (hm : xs.length = m) (q : gs xs σ H n) : ∃ a' xs', V.ref a = .ref a' ∧ SqT K H a' xs' ∧ xs'.length = m ∧ gs xs' σ H n := ⟨a, xs, rfl, h, hm, q⟩
theorem z_upL (h : SqL K H a xs) (hm : xs.length = m) (q : gs xs σ H n) : ∃ a' xs', V.ref a = .ref a' ∧ SqL K H a' xs' ∧ xs'.length = m ∧ gs xs' σ H n := ⟨a, xs, rfl, h, hm, q⟩
theorem z_gT (h : SqT K H a xs) (hm : xs.length = m) (q : gs xs σ H n) : gTup K m gs (.ref a) σ H n := ⟨a, xs, rfl, h, hm, q⟩
theorem z_gcons {t : TG} {u : TGs} {R : L2.St → Hp → Prop} (h : t v σ H fun σ' H' => u xs σ' H' R) : gCons t u (v :: xs) σ H R := ⟨v, xs, rfl, h⟩
theorem z_gnil {R : L2.St → Hp → Prop} (h : R σ H) : gNil [] σ H R := ⟨rfl, h⟩
end
end Z
namespace Z
open PySem PySem.Spec PyProof.Rows L2
section
variable {K : PySem.W.Frag} {Wout : WX} {D : Ends} {c cls : Value} {ts : Addr → Value → Option Addr → TS} {l : List (Value × (Addr → Value → Option Addr → TS))} {σ : L2.St} {H : Hp} {d : Option Addr}
theorem z_many1 (e : PySem.W.exmOne K cls c = some true) (h : ∀ a, H a = none → ts a cls d D σ H) : WE (wMany K Wout D ((c, ts) :: l)) σ cls d H := ⟨true, e, fun _ a ha => h a ha, fun z => Bool.noConfusion z⟩
theorem z_many0 (e : PySem.W.exmOne K cls c = some false) (h : WE (wMany K Wout D l) σ cls d H) : WE (wMany K Wout D ((c, ts) :: l)) σ cls d H := ⟨false, e, fun z => Bool.noConfusion z, fun _ => h⟩
theorem z_eqS {x : Str} {Q : VK} (q : Q (.bl true) H) : rEq (.str x) (.str x) H Q := ⟨rfl, by rw [decide_eq_true rfl]; exact q⟩
end
end Z
/-! ### data: what a value stands for -/
namespace Z
open PySem PySem.Spec PyProof.Rows L2
section
variable {K : PySem.W.Frag} {H H' : Hp} {v : V} {d d1 d2 d3 d4 d5 d6 : PyData}
mutual
theorem dp_mono (s : Same H H') : ∀ {d : PyData} {v : V}, Dp K H v d → Dp K H' v d
  | _, _, .non => .non
  | _, _, .bl b => .bl b
  | _, _, .int i => .int i
  | _, _, .str x => .str x
  | _, _, .lst h a => .lst (s.seq h) (dp_monoA s a)
  | _, _, .tup h a => .tup (seqT s h) (dp_monoA s a)
theorem dp_monoA (s : Same H H') : ∀ {ds : List PyData} {vs : List V}, DpAll K H vs ds → DpAll K H' vs ds
  | _, _, .nil => .nil
  | _, _, .cons h a => .cons (dp_mono s h) (dp_monoA s a)
end
mutual
def tupOnly : PyData → Bool
  | .list _ => false
  | .dict _ => false
  | .tuple ds => tupOnlyA ds
  | .none => true
  | .bool _ => true
  | .int _ => true
  | .str _ => true
def tupOnlyA : List PyData → Bool
  | [] => true
  | d :: ds => tupOnly d && tupOnlyA ds
end
def Kp (p : Addr) (H H' : Hp) : Prop := ∀ b o, b ≠ p → H b = some o → H' b = some o
theorem seqT_kp {p a : Addr} {xs ys : List V} (k : Kp p H H') (hp : H p = some (.lst xs)) (h : SqT K H a ys) : SqT K H' a ys := by
  rcases h with (h | ⟨o, h⟩) | h
  · exact .inl (.inl (k _ _ (ne_of h hp (by intro z; cases z)) h))
  · exact .inl (.inr ⟨o, k _ _ (ne_of h hp (by intro z; cases z)) h⟩)
  · exact .inr h
mutual
theorem dp_kp {p : Addr} {xs : List V} (k : Kp p H H') (hp : H p = some (.lst xs)) : ∀ {d : PyData} {v : V}, tupOnly d = true → Dp K H v d → Dp K H' v d
  | _, _, _, .non => .non
  | _, _, _, .bl b => .bl b
  | _, _, _, .int i => .int i
  | _, _, _, .str x => .str x
  | _, _, t, .lst h a => by simp [tupOnly] at t
  | _, _, t, .tup h a => .tup (seqT_kp k hp h) (dp_kpA k hp (by simpa [tupOnly] using t) a)
theorem dp_kpA {p : Addr} {xs : List V} (k : Kp p H H') (hp : H p = some (.lst xs)) : ∀ {ds : List PyData} {vs : List V}, tupOnlyA ds = true → DpAll K H vs ds → DpAll K H' vs ds
  | _, _, _, .nil => .nil
  | _, _, t, .cons h a => by
    have t' : (tupOnly _ && tupOnlyA _) = true := t
    rw [Bool.and_eq_true] at t'
    exact .cons (dp_kp k hp t'.1 h) (dp_kpA k hp t'.2 a)
end
theorem dp_int {i : Int} (h : Dp K H v (.int i)) : v = .int i := by
  cases h
  rfl
theorem dp_non (h : Dp K H v .none) : v = .non := by
  cases h
  rfl
theorem dp_bool {b : Bool} (h : Dp K H v (.bool b)) : v = .bl b := by
  cases h
  rfl
theorem dp_str {b : Str} (h : Dp K H v (.str b)) : v = .str b := by
  cases h
  rfl
theorem dp_tup {ds : List PyData} (h : Dp K H v (.tuple ds)) : ∃ p vs, v = .ref p ∧ SqT K H p vs ∧ DpAll K H vs ds := by
  cases h with
  | tup h a => exact ⟨_, _, rfl, h, a⟩
theorem dpa_nil {vs : List V} (h : DpAll K H vs []) : vs = [] := by
  cases h
  rfl
theorem dpa_cons {vs : List V} {ds : List PyData} (h : DpAll K H vs (d :: ds)) : ∃ v r, vs = v :: r ∧ Dp K H v d ∧ DpAll K H r ds := by
  cases h with
  | cons a b => exact ⟨_, _, rfl, a, b⟩
theorem dp_t1 (h : Dp K H v (.tuple [d1])) : ∃ p v1, v = .ref p ∧ SqT K H p [v1] ∧ Dp K H v1 d1 := by
  obtain ⟨p, vs, e, hS, a⟩ := dp_tup h
  obtain ⟨v1, _, rfl, h1, a⟩ := dpa_cons a
  obtain rfl := dpa_nil a
  exact ⟨p, v1, e, hS, h1⟩
theorem dp_t2 (h : Dp K H v (.tuple [d1, d2])) : ∃ p v1 v2, v = .ref p ∧ SqT K H p [v1, v2] ∧ Dp K H v1 d1 ∧ Dp K H v2 d2 := by
  obtain ⟨p, vs, e, hS, a⟩ := dp_tup h
  obtain ⟨v1, _, rfl, h1, a⟩ := dpa_cons a
  obtain ⟨v2, _, rfl, h2, a⟩ := dpa_cons a
  obtain rfl := dpa_nil a
  exact ⟨p, v1, v2, e, hS, h1, h2⟩
theorem dp_t3 (h : Dp K H v (.tuple [d1, d2, d3])) : ∃ p v1 v2 v3, v = .ref p ∧ SqT K H p [v1, v2, v3] ∧ Dp K H v1 d1 ∧ Dp K H v2 d2 ∧ Dp K H v3 d3 := by
  obtain ⟨p, vs, e, hS, a⟩ := dp_tup h
  obtain ⟨v1, _, rfl, h1, a⟩ := dpa_cons a
  obtain ⟨v2, _, rfl, h2, a⟩ := dpa_cons a
  obtain ⟨v3, _, rfl, h3, a⟩ := dpa_cons a
  obtain rfl := dpa_nil a
  exact ⟨p, v1, v2, v3, e, hS, h1, h2, h3⟩
theorem dp_t6 (h : Dp K H v (.tuple [d1, d2, d3, d4, d5, d6])) : ∃ p v1 v2 v3 v4 v5 v6, v = .ref p ∧ SqT K H p [v1, v2, v3, v4, v5, v6] ∧ Dp K H v1 d1 ∧ Dp K H v2 d2 ∧ Dp K H v3 d3 ∧ Dp K H v4 d4 ∧ Dp K H v5 d5 ∧ Dp K H v6 d6 := by
  obtain ⟨p, vs, e, hS, a⟩ := dp_tup h
  obtain ⟨v1, _, rfl, h1, a⟩ := dpa_cons a
  obtain ⟨v2, _, rfl, h2, a⟩ := dpa_cons a
  obtain ⟨v3, _, rfl, h3, a⟩ := dpa_cons a
  obtain ⟨v4, _, rfl, h4, a⟩ := dpa_cons a
  obtain ⟨v5, _, rfl, h5, a⟩ := dpa_cons a
  obtain ⟨v6, _, rfl, h6, a⟩ := dpa_cons a
  obtain rfl := dpa_nil a
  exact ⟨p, v1, v2, v3, v4, v5, v6, e, hS, h1, h2, h3, h4, h5, h6⟩
theorem dp_mk {p : Addr} {vs : List V} {ds : List PyData} (h : H p = some (.tup vs)) (a : DpAll K H vs ds) : Dp K H (.ref p) (.tuple ds) := .tup (.inl (.inl h)) a
end
/-! ### numbers -/
def qD (r : Rat) : PyData := .tuple [.int r.num, .int (r.den : Int)]
theorem dp_q {K : PySem.W.Frag} {H : Hp} {v : V} {r : Rat} (h : Dp K H v (qD r)) : ∃ p, v = .ref p ∧ SqT K H p [.int r.num, .int (r.den : Int)] := by
  obtain ⟨p, v1, v2, e, hS, h1, h2⟩ := dp_t2 h
  rw [dp_int h1, dp_int h2] at hS
  exact ⟨p, e, hS⟩
theorem dp_mkq {K : PySem.W.Frag} {H : Hp} {p : Addr} {r : Rat} (h : H p = some (.tup [.int r.num, .int (r.den : Int)])) : Dp K H (.ref p) (qD r) := dp_mk h (.cons (.int _) (.cons (.int _) .nil))
theorem dp_seqq {K : PySem.W.Frag} {H : Hp} {p : Addr} {r : Rat} (h : SqT K H p [.int r.num, .int (r.den : Int)]) : Dp K H (.ref p) (qD r) := .tup h (.cons (.int _) (.cons (.int _) .nil))
/-- numerator and denominator at most so great -/
def Bd (r : Rat) (p q : Nat) : Prop := r.num.natAbs ≤ p ∧ r.den ≤ q
theorem bd_divInt {n d : Int} (h : d ≠ 0) : Bd (Rat.divInt n d) n.natAbs d.natAbs := by
  unfold Bd
  rw [Rat.num_divInt, Rat.den_divInt, if_neg h]
  refine ⟨Nat.le_trans (Int.natAbs_ediv_le_natAbs _ _) ?_, Nat.div_le_self _ _⟩
  rw [Int.natAbs_mul]
  have : d.sign.natAbs ≤ 1 := by
    rcases Int.lt_trichotomy d 0 with z | z | z
    · rw [Int.sign_eq_neg_one_of_neg z]; decide
    · exact absurd z h
    · rw [Int.sign_eq_one_of_pos z]; decide
  calc d.sign.natAbs * n.natAbs ≤ 1 * n.natAbs := Nat.mul_le_mul_right _ this
    _ = n.natAbs := Nat.one_mul _
theorem q_self (r : Rat) : Rat.divInt r.num (r.den : Int) = r := Rat.num_divInt_den r
end Z
namespace Z
open PySem PySem.Spec PyProof.Rows L2
def gd (n d : Int) : Int := ((Nat.gcd n.natAbs d.natAbs : Nat) : Int)
def rn (n d : Int) : Int := (if d < 0 then -n else n) / gd n d
def rd (n d : Int) : Int := (if d < 0 then -d else d) / gd n d
theorem rn_q {n d : Int} (h : d ≠ 0) : rn n d = (Rat.divInt n d).num := by
  rw [Rat.num_divInt]
  unfold rn gd
  have e : d.gcd n = Nat.gcd n.natAbs d.natAbs := Nat.gcd_comm _ _
  rw [e]
  congr 1
  split
  · rename_i z
    rw [Int.sign_eq_neg_one_of_neg z]
    omega
  · rename_i z
    rw [Int.sign_eq_one_of_pos (by omega)]
    omega
theorem rd_q {n d : Int} (h : d ≠ 0) : rd n d = ((Rat.divInt n d).den : Int) := by
  rw [Rat.den_divInt, if_neg h]
  unfold rd gd
  have e : d.gcd n = Nat.gcd n.natAbs d.natAbs := Nat.gcd_comm _ _
  rw [e]
  rw [Int.natCast_ediv]
  congr 1
  split <;> omega
def lim : Int := 1000000000000000000
def fitsQ (r : Rat) : Prop := -lim ≤ r.num ∧ r.num ≤ lim ∧ (r.den : Int) ≤ lim
theorem bd_add {a b : Rat} {p q p' q' : Nat} (h : Bd a p q) (h' : Bd b p' q') : Bd (a + b) (p * q' + p' * q) (q * q') := by
  have ha := a.den_nz
  have hb := b.den_nz
  have e : a + b = Rat.divInt (a.num * b.den + b.num * a.den) ((a.den : Int) * b.den) := by
    rw [← Rat.divInt_add_divInt _ _ (by omega) (by omega), Rat.num_divInt_den, Rat.num_divInt_den]
  rw [e]
  have hd : ((a.den : Int) * b.den) ≠ 0 := Int.mul_ne_zero (by omega) (by omega)
  have k := bd_divInt (n := a.num * b.den + b.num * a.den) hd
  refine ⟨Nat.le_trans k.1 (Nat.le_trans (Int.natAbs_add_le _ _) ?_), Nat.le_trans k.2 ?_⟩
  · rw [Int.natAbs_mul, Int.natAbs_mul]
    exact Nat.add_le_add (Nat.mul_le_mul h.1 h'.2) (Nat.mul_le_mul h'.1 h.2)
  · rw [Int.natAbs_mul]
    exact Nat.mul_le_mul h.2 h'.2
theorem bd_mul {a b : Rat} {p q p' q' : Nat} (h : Bd a p q) (h' : Bd b p' q') : Bd (a * b) (p * p') (q * q') := by
  have ha := a.den_nz
  have hb := b.den_nz
  have e : a * b = Rat.divInt (a.num * b.num) ((a.den : Int) * b.den) := by
    rw [← Rat.divInt_mul_divInt, Rat.num_divInt_den, Rat.num_divInt_den]
  rw [e]
  have hd : ((a.den : Int) * b.den) ≠ 0 := Int.mul_ne_zero (by omega) (by omega)
  have k := bd_divInt (n := a.num * b.num) hd
  refine ⟨Nat.le_trans k.1 ?_, Nat.le_trans k.2 ?_⟩
  · rw [Int.natAbs_mul]
    exact Nat.mul_le_mul h.1 h'.1
  · rw [Int.natAbs_mul]
    exact Nat.mul_le_mul h.2 h'.2
theorem bd_neg {a : Rat} {p q : Nat} (h : Bd a p q) : Bd (-a) p q := by
  unfold Bd
  rw [Rat.neg_num, Rat.neg_den, Int.natAbs_neg]
  exact h
theorem bd_sub {a b : Rat} {p q p' q' : Nat} (h : Bd a p q) (h' : Bd b p' q') : Bd (a - b) (p * q' + p' * q) (q * q') := by
  rw [Rat.sub_eq_add_neg]
  exact bd_add h (bd_neg h')
theorem q_div (a b : Rat) (h : b ≠ 0) : a / b = Rat.divInt (a.num * b.den) ((a.den : Int) * b.num) := by
  rw [Rat.div_def, ← Rat.num_divInt_den b, Rat.inv_divInt]
  conv => lhs; lhs; rw [← Rat.num_divInt_den a]
  rw [Rat.divInt_mul_divInt, Rat.num_divInt_den]
theorem bd_div {a b : Rat} {p q p' q' : Nat} (hb : b ≠ 0) (h : Bd a p q) (h' : Bd b p' q') : Bd (a / b) (p * q') (q * p') := by
  have ha := a.den_nz
  rw [q_div a b hb]
  have hn : b.num ≠ 0 := fun z => hb (Rat.num_eq_zero.mp z)
  have hd : ((a.den : Int) * b.num) ≠ 0 := Int.mul_ne_zero (by omega) hn
  have k := bd_divInt (n := a.num * b.den) hd
  refine ⟨Nat.le_trans k.1 ?_, Nat.le_trans k.2 ?_⟩
  · rw [Int.natAbs_mul]
    exact Nat.mul_le_mul h.1 h'.2
  · rw [Int.natAbs_mul]
    exact Nat.mul_le_mul h.2 h'.1
theorem Bd.le {a : Rat} {p q p' q' : Nat} (h : Bd a p q) (h1 : p ≤ p') (h2 : q ≤ q') : Bd a p' q' := ⟨Nat.le_trans h.1 h1, Nat.le_trans h.2 h2⟩
theorem Bd.fits {a : Rat} {p q : Nat} (h : Bd a p q) (h1 : p ≤ 1000000000000000000) (h2 : q ≤ 1000000000000000000) : fitsQ a := by
  have a1 := h.1
  have a2 := h.2
  unfold fitsQ lim
  omega
theorem q_add (a b : Rat) : a + b = Rat.divInt (a.num * b.den + b.num * a.den) ((a.den : Int) * b.den) := by
  have ha := a.den_nz
  have hb := b.den_nz
  rw [← Rat.divInt_add_divInt _ _ (by omega) (by omega), Rat.num_divInt_den, Rat.num_divInt_den]
theorem q_sub (a b : Rat) : a - b = Rat.divInt (a.num * b.den - b.num * a.den) ((a.den : Int) * b.den) := by
  have ha := a.den_nz
  have hb := b.den_nz
  rw [← Rat.divInt_sub_divInt _ _ (by omega) (by omega), Rat.num_divInt_den, Rat.num_divInt_den]
theorem q_mul (a b : Rat) : a * b = Rat.divInt (a.num * b.num) ((a.den : Int) * b.den) := by
  rw [← Rat.divInt_mul_divInt, Rat.num_divInt_den, Rat.num_divInt_den]
theorem q_dd (a b : Rat) : ((a.den : Int) * b.den) ≠ 0 := by
  have ha := a.den_nz
  have hb := b.den_nz
  exact Int.mul_ne_zero (by omega) (by omega)
end Z
namespace Z
open PySem PySem.Spec PyProof.Rows L2
theorem tyx_T {K : PySem.W.Frag} {H : Hp} {a : Addr} {xs : List V} (h : SqT K H a xs) : TyX K H (.ref a) (.type "tuple") := by
  rcases h with (h | ⟨o, h⟩) | ⟨o, its, n, h, c, _⟩
  · exact .base (.tup h)
  · exact .fTuple h
  · exact .kTuple h c
theorem z_isT {K : PySem.W.Frag} {H : Hp} {Q : VK} {p : Addr} {xs : List V} (h : SqT K H p xs) (q : Q (.bl true) H) : rIsi K [.ref p, .ty "tuple"] H Q := z_ty (tyx_T h) (by decide +kernel) q
end Z
namespace Z
open PySem PySem.Spec PyProof.Rows L2
/-- a tuple of the module's own -/
theorem dpk {K : PySem.W.Frag} {H : Hp} {a : Addr} {od : Option Addr} {its : List Value} {n : Nat} {sl : Array (Option Value)} {vs : List V} {ds : List PyData} (h : K.lookup a = some ⟨.type "tuple", od, .seq its.toArray n, sl⟩)
    (hs : its.length ≤ 1000) (r : Vals vs its) (d : DpAll K H vs ds) : Dp K H (.ref a) (.tuple ds) :=
  .tup (.inr ⟨_, its.toArray, n, h, rfl, rfl, by rw [List.size_toArray]; exact sz hs, by simpa using r⟩) d
/-- a tuple and a tuple -/
theorem z_catT {K : PySem.W.Frag} {H : Hp} {Q : VK} {p q : Addr} {xs ys : List V} (h1 : SqT K H p xs) (h2 : SqT K H q ys) (hx : xs ≠ []) (hl : xs.length + ys.length ≤ 1000) (hy : ys ≠ [])
    (k : ∀ p H', H p = none → Same H H' → H' p = some (.tup (xs ++ ys)) → Q (.ref p) H') : rCatT K (.ref p) (.ref q) H Q := by
  refine ⟨p, q, xs, ys, rfl, rfl, h1, h2, hx, sz hl, fun z => absurd z hy, fun _ a ha => k a _ ha (same_upd ha) upd_same⟩
end Z
namespace Z
open PySem PySem.Spec PyProof.Rows L2
def rTupOf (K : PySem.W.Frag) : List V → Hp → VK → Prop := fun xs H Q => ∃ p ys, xs = [.ref p] ∧ ((SqL K H p ys ∧ ∀ l, H l = none → Q (.ref l) (upd H l (.tup ys))) ∨ (SqT K H p ys ∧ Q (.ref p) H))
def rListOf (K : PySem.W.Frag) : List V → Hp → VK → Prop := fun xs H Q => ∃ p ys, xs = [.ref p] ∧ (SqL K H p ys ∨ SqT K H p ys) ∧ ∀ l, H l = none → Q (.ref l) (upd H l (.lst ys))
theorem c_tupOf {X : Cx} : CallR X (.type "tuple") (rTupOf X.K) := call_tuple_of
theorem c_listOf {X : Cx} : CallR X (.type "list") (rListOf X.K) := call_list_of
section
variable {K : PySem.W.Frag} {H : Hp} {Q : VK} {p : Addr} {xs : List V} {σ : L2.St}
theorem z_tupOf (h : SqL K H p xs) (q : ∀ a H', H a = none → Same H H' → H' a = some (.tup xs) → Q (.ref a) H') : rTupOf K [.ref p] H Q := ⟨p, xs, rfl, .inl ⟨h, fun l hl => q l _ hl (same_upd hl) upd_same⟩⟩
theorem z_tupOfT (h : SqT K H p xs) (q : Q (.ref p) H) : rTupOf K [.ref p] H Q := ⟨p, xs, rfl, .inr ⟨h, q⟩⟩
theorem z_listOf (h : SqL K H p xs) (q : ∀ a H', H a = none → Same H H' → H' a = some (.lst xs) → Q (.ref a) H') : rListOf K [.ref p] H Q := ⟨p, xs, rfl, .inl h, fun l hl => q l _ hl (same_upd hl) upd_same⟩
theorem z_listOfT (h : SqT K H p xs) (q : ∀ a H', H a = none → Same H H' → H' a = some (.lst xs) → Q (.ref a) H') : rListOf K [.ref p] H Q := ⟨p, xs, rfl, .inr h, fun l hl => q l _ hl (same_upd hl) upd_same⟩
theorem z_yes {QB : Bool → Hp → Prop} (q : QB true H) : tYes σ H QB := q
/-- [e for k in range(m)] -/
theorem z_lcR1 {ta : TA} {k : Nat} {te : TE} {vs : List Nat} (m : Nat) (hm : m ≤ 1000) (ha : ∀ R : List V → Hp → Prop, R [.int (m : Int)] H → ta σ H R) (hw : ∀ x, wipe ((wipe σ vs).set k (some x)) vs = wipe σ vs) (Pv : Nat → Addr → List V → Hp → Prop)
    (h0 : ∀ D H', H D = none → Same H H' → H' D = some (.lst []) → Pv 0 D [] H')
    (hs : ∀ i D acc H', i < m → acc.length = i → H' D = some (.lst acc) → Pv i D acc H' → te ((wipe σ vs).set k (some (.int (i : Int)))) H' fun y H4 => H4 D = some (.lst acc) ∧ Pv (i + 1) D (acc ++ [y]) (upd H4 D (.lst (acc ++ [y]))))
    (mono : ∀ σ' H' Q Q', (∀ y H4, Q y H4 → Q' y H4) → te σ' H' Q → te σ' H' Q')
    (hd : ∀ D acc H', acc.length = m → H' D = some (.lst acc) → Pv m D acc H' → Q (.ref D) H') : tLc (iRng1 ta) (gName k) tYes te vs σ H Q := by
  refine ha _ ⟨(m : Int), rfl, by omega, by omega, fun D hD => ?_⟩
  refine lc_range (lo := 0) (n := (m : Int).toNat) (fun i H' => ∃ acc, acc.length = i ∧ H' D = some (.lst acc) ∧ Pv i D acc H') ⟨[], rfl, upd_same, h0 D _ hD (same_upd hD) upd_same⟩ (fun i H' hi ⟨acc, hl, hH, p⟩ => ?_) (fun H' ⟨acc, hl, hH, p⟩ => hd D acc H' (by simpa using hl) hH (by simpa using p))
  have e : (0 : Int) + (i : Int) = (i : Int) := Int.zero_add _
  show wipe ((wipe σ vs).set k (some (.int ((0 : Int) + (i : Int))))) vs = wipe σ vs ∧ _
  refine ⟨hw _, ?_⟩
  refine z_yes ?_
  refine z_ifT ?_
  rw [e]
  have hi' : i < m := by simpa using hi
  exact mono _ _ _ _ (fun y H4 ⟨e1, e2⟩ => ⟨acc, e1, Nat.lt_of_lt_of_le (show acc.length < 1000 by omega) (by decide), acc ++ [y], by simp [hl], upd_same, e2⟩) (hs i D acc H' (by simpa using hi) hl hH p)
end
end Z
namespace Z
open PySem PySem.Spec PyProof.Rows L2
section
variable {K : PySem.W.Frag} {H : Hp} {Q : VK} {p : Addr} {xs : List V} {σ : L2.St} {i : Int} {RO : Option Int → Hp → Prop} {te : TE} {tl th : TO}
theorem z_sl {g : V → Option Int → Option Int → Hp → VK → Prop} (h : te σ H fun x H1 => tl σ H1 fun l H2 => th σ H2 fun u H3 => g x l u H3 Q) : tSl g te tl th σ H Q := h
theorem z_noPart (q : RO none H) : tNoPart σ H RO := q
theorem z_part (h : te σ H fun x H1 => ∃ i, x = .int i ∧ RO (some i) H1) : tPart te σ H RO := h
theorem z_partI (q : RO (some i) H) : ∃ i', V.int i = .int i' ∧ RO (some i') H := ⟨i, rfl, q⟩
theorem z_slL {lo hi : Option Int} {ys : List V} (h : SqL K H p xs) (e : cutV xs lo hi = ys) (q : ∀ a H', H a = none → Same H H' → H' a = some (.lst ys) → Q (.ref a) H') : rSlL K (.ref p) lo hi H Q := by
  subst e
  exact ⟨p, xs, rfl, h, fun a ha => q a _ ha (same_upd ha) upd_same⟩
end
end Z
namespace Z
open PySem PySem.Spec PyProof.Rows L2
theorem z_slT {K : PySem.W.Frag} {H : Hp} {Q : VK} {p : Addr} {xs ys : List V} {lo hi : Option Int} (h : SqT K H p xs) (hn : ¬ (HT.sIx xs.length 0 lo = 0 ∧ HT.sIx xs.length xs.length hi = xs.length)) (e : cutV xs lo hi = ys)
    (q : ∀ a H', H a = none → Same H H' → H' a = some (.tup ys) → Q (.ref a) H') : rSlT K (.ref p) lo hi H Q := by
  subst e
  exact ⟨p, xs, rfl, h, hn, fun a ha => q a _ ha (same_upd ha) upd_same⟩
theorem eqv_q (a b : Rat) : PyData.eqv (qD a) (qD b) = decide (a = b) := by
  show (a.num == b.num && ((a.den : Int) == (b.den : Int) && true)) = decide (a = b)
  by_cases h : a = b
  · subst h
    simp
  · rw [decide_eq_false h]
    by_cases h1 : a.num = b.num
    · have h2 : ¬ (a.den : Int) = b.den := fun z => h (Rat.ext h1 (by omega))
      simp [h2]
    · simp [h1]
theorem shaped_q (a : Rat) : SeqAt.shaped (qD a) = true := rfl
theorem z_eqQ {K : PySem.W.Frag} {x y : V} {a b : Rat} {H : Hp} {Q : VK} (h1 : Dp K H x (qD a)) (h2 : Dp K H y (qD b)) (q : Q (.bl (decide (a = b))) H) : rEqD K x y H Q := ⟨qD a, qD b, h1, h2, shaped_q a, shaped_q b, by rw [eqv_q]; exact q⟩
theorem z_neQ {K : PySem.W.Frag} {x y : V} {a b : Rat} {H : Hp} {Q : VK} (h1 : Dp K H x (qD a)) (h2 : Dp K H y (qD b)) (q : Q (.bl (decide (¬ a = b))) H) : rNeD K x y H Q := ⟨qD a, qD b, h1, h2, shaped_q a, shaped_q b, by
  rw [eqv_q, show (!decide (a = b)) = decide (¬ a = b) by simp]
  exact q⟩
theorem z_neSame {K : PySem.W.Frag} {x y : V} {d : PyData} {H : Hp} {Q : VK} (h1 : Dp K H x d) (h2 : Dp K H y d) (s : SeqAt.shaped d = true) (q : Q (.bl false) H) : rNeD K x y H Q :=
  ⟨d, d, h1, h2, s, s, by rw [SeqAt.eqv_refl d (SeqAt.canLay_of_shaped s)]; exact q⟩
end Z
namespace Z
open PySem PySem.Spec PyProof.Rows L2
def rIsN : R2 := fun x y H Q => y = .non ∧ Q (.bl (decide (x = .non))) H
def rNotN : R2 := fun x y H Q => y = .non ∧ Q (.bl (!decide (x = .non))) H
theorem op_isN1 {X : Cx} : OpR X (compareOp .Is) rIsN := op_isN
theorem op_notN1 {X : Cx} : OpR X (compareOp .IsNot) rNotN := op_notN
section
variable {σ : L2.St} {H : Hp} {n : L2.St → Hp → Prop} {r : VK} {b c : L2.St → Hp → Prop} {tb : TS} {K : PySem.W.Frag} {Q : VK} {p : Addr} {v y : V} {xs : List V}
theorem z_isNN (q : Q (.bl true) H) : rIsN .non .non H Q := ⟨rfl, by simpa using q⟩
theorem z_isNR (q : Q (.bl false) H) : rIsN (.ref p) .non H Q := ⟨rfl, by simpa using q⟩
theorem z_notNN (q : Q (.bl false) H) : rNotN .non .non H Q := ⟨rfl, by simpa using q⟩
theorem z_notNR (q : Q (.bl true) H) : rNotN (.ref p) .non H Q := ⟨rfl, by simpa using q⟩
theorem z_bmL {r : V → List V → Hp → VK → Prop} {to : TE} {t : TA} (ho : ∀ R : VK, R (.ref p) H → to σ H R) (hp : H p = some (.lst xs)) (h : t σ H fun vs H2 => r (.ref p) vs H2 Q) : tBM K "list" r to t σ H Q :=
  ho _ ⟨.inl ⟨rfl, _, .inl (.inl hp)⟩, h⟩
theorem z_append (hp : H p = some (.lst xs)) (hl : xs.length < 1000) (q : Q .non (upd H p (.lst (xs ++ [y])))) : rAppend (.ref p) [y] H Q := ⟨p, xs, y, rfl, rfl, hp, Nat.lt_of_lt_of_le hl (by decide), q⟩
/-- the list that a for goes over, made on the way -/
def ForL (K : PySem.W.Frag) (g : TG) (tb : TS) (n : L2.St → Hp → Prop) (r : VK) (b c : L2.St → Hp → Prop) (σ : L2.St) : VK := fun x H1 => tFor (iList K (tC x)) g tb ⟨n, r, b, c⟩ σ H1
theorem z_forE {tl : TE} {g : TG} (h : tl σ H (ForL K g tb n r b c σ)) : tFor (iList K tl) g tb ⟨n, r, b, c⟩ σ H := h
/-- [e for x in l], where e answers at once -/
theorem z_lcM {tl : TE} {k : Nat} {te : TE} {vs : List Nat} {a : Addr} {xs ws : List V} (hlen : ws.length = xs.length) (hm : xs.length ≤ 1000) (ha : ∀ R : VK, R (.ref a) H → tl σ H R) (hx : H a = some (.lst xs)) (hw : ∀ x, wipe ((wipe σ vs).set k (some x)) vs = wipe σ vs)
    (body : ∀ (i : Nat) (x w : V) (H' : Hp), xs[i]? = some x → ws[i]? = some w → Same H H' → ∀ R : VK, R w H' → te ((wipe σ vs).set k (some x)) H' R)
    (hd : ∀ D H', H D = none → Same H H' → H' D = some (.lst ws) → Q (.ref D) H') : tLc (iList K tl) (gName k) tYes te vs σ H Q := by
  refine ha _ ⟨a, rfl, ⟨xs, .inl (.inl hx)⟩, fun D hD => ?_⟩
  have hDa : a ≠ D := ne_of_none hx hD
  refine lc_list (xs := xs) (fun i H' => Same H H' ∧ H' D = some (.lst (ws.take i)) ∧ H' a = some (.lst xs)) ⟨same_upd hD, upd_same, by rw [upd_ne hDa]; exact hx⟩ (fun i H' _ h => .inl (.inl h.2.2)) (fun i x H' hi ⟨s, hH, h3⟩ => ?_) (fun H' ⟨s, hH, _⟩ => hd D H' hD s (by rw [hH, ← hlen, List.take_length]))
  show wipe ((wipe σ vs).set k (some x)) vs = wipe σ vs ∧ _
  refine ⟨hw _, ?_⟩
  refine z_yes ?_
  refine z_ifT ?_
  have hi' : i < xs.length := by
    rcases Nat.lt_or_ge i xs.length with h | h
    · exact h
    · rw [List.getElem?_eq_none h] at hi
      cases hi
  have hiw : i < ws.length := by omega
  have hw' : ws[i]? = some ws[i] := List.getElem?_eq_getElem hiw
  refine body i x _ H' hi hw' s _ ?_
  refine ⟨_, hH, Nat.lt_of_lt_of_le (show (ws.take i).length < 1000 by rw [List.length_take]; omega) (by decide), fun q x' e => ?_, ?_, ?_⟩
  · have hq : q ≠ D := ne_of_none e hD
    rw [upd_ne hq]
    exact s _ _ e
  · rw [upd_same, List.take_add_one, hw']
    rfl
  · rw [upd_ne hDa]
    exact h3
end
/-! ### numbers over a common denominator -/
def Zb (r : Rat) (N M : Nat) : Prop := ∃ k : Int, r * (N : Rat) = (k : Rat) ∧ k.natAbs ≤ M
theorem zb_add {a b : Rat} {N M M' : Nat} (h : Zb a N M) (h' : Zb b N M') : Zb (a + b) N (M + M') := by
  obtain ⟨k, e, l⟩ := h
  obtain ⟨k', e', l'⟩ := h'
  exact ⟨k + k', by rw [Rat.add_mul, e, e', Rat.intCast_add], by omega⟩
theorem zb_neg {a : Rat} {N M : Nat} (h : Zb a N M) : Zb (-a) N M := by
  obtain ⟨k, e, l⟩ := h
  exact ⟨-k, by rw [Rat.neg_mul, e, Rat.intCast_neg], by omega⟩
theorem zb_sub {a b : Rat} {N M M' : Nat} (h : Zb a N M) (h' : Zb b N M') : Zb (a - b) N (M + M') := by
  rw [Rat.sub_eq_add_neg]
  exact zb_add h (zb_neg h')
theorem zb_mul {a b : Rat} {N N' M M' : Nat} (h : Zb a N M) (h' : Zb b N' M') : Zb (a * b) (N * N') (M * M') := by
  obtain ⟨k, e, l⟩ := h
  obtain ⟨k', e', l'⟩ := h'
  refine ⟨k * k', ?_, by rw [Int.natAbs_mul]; exact Nat.mul_le_mul l l'⟩
  rw [Rat.natCast_mul, Rat.intCast_mul, ← e, ← e']
  grind
theorem zb_up {a : Rat} {N M : Nat} (c : Nat) (h : Zb a N M) : Zb a (N * c) (M * c) := by
  obtain ⟨k, e, l⟩ := h
  refine ⟨k * (c : Int), ?_, by rw [Int.natAbs_mul]; exact Nat.mul_le_mul l (by omega)⟩
  rw [Rat.natCast_mul, Rat.intCast_mul, ← e, Rat.intCast_natCast]
  grind
theorem Zb.le {a : Rat} {N M M' : Nat} (h : Zb a N M) (l : M ≤ M') : Zb a N M' := by
  obtain ⟨k, e, l'⟩ := h
  exact ⟨k, e, Nat.le_trans l' l⟩
theorem Zb.bd {a : Rat} {N M : Nat} (h : Zb a N M) (h0 : N ≠ 0) : Bd a M N := by
  obtain ⟨k, e, l⟩ := h
  have hN : (N : Rat) ≠ 0 := fun z => h0 (by exact_mod_cast z)
  have e2 : a = Rat.divInt k (N : Int) := by
    rw [Rat.divInt_eq_div, ← e, Rat.intCast_natCast]
    grind
  rw [e2]
  exact (bd_divInt (by omega)).le l (by omega)
theorem zb_divInt {n d : Int} {N M c : Nat} (hd : d ≠ 0) (hN : (N : Int) = d * (c : Int)) (hl : n.natAbs * c ≤ M) : Zb (Rat.divInt n d) N M := by
  refine ⟨n * (c : Int), ?_, by rw [Int.natAbs_mul]; exact hl⟩
  have hd' : (d : Rat) ≠ 0 := fun z => hd (by exact_mod_cast z)
  have e : (N : Rat) = (d : Rat) * (c : Rat) := by
    rw [← Rat.intCast_natCast N, hN, Rat.intCast_mul, Rat.intCast_natCast]
  rw [Rat.divInt_eq_div, e, Rat.intCast_mul, Rat.intCast_natCast]
  grind
theorem zb_of {r : Rat} {p q N M : Nat} (h : Bd r p q) (hN : ∀ d, d ≤ q → d ≠ 0 → d ∣ N) (hl : p * N ≤ M) : Zb r N M := by
  obtain ⟨c, hc⟩ := hN r.den h.2 r.den_nz
  have hd := r.den_nz
  have e := zb_divInt (n := r.num) (d := (r.den : Int)) (N := N) (M := M) (c := c) (by omega) (by exact_mod_cast hc) (Nat.le_trans (Nat.mul_le_mul h.1 (show c ≤ N by rw [hc]; exact Nat.le_mul_of_pos_left _ (by omega))) hl)
  rwa [Rat.num_divInt_den] at e
end Z

namespace G
open PySem PySem.Spec PyProof.Rows L2 Z
def topS (i : Nat) : Stmt := PySem.Challenge.pw_fontwinding_k14_points_at_times.main.body.getD i (.Pass ⟨0, 0, 0, 0⟩)
abbrev s_ratio : Stmt := topS 8
abbrev s_add : Stmt := topS 9
abbrev s_subtract : Stmt := topS 10
abbrev s_multiply : Stmt := topS 11
abbrev s_compare : Stmt := topS 12
abbrev s_floor_of : Stmt := topS 13
abbrev s_length : Stmt := topS 15
abbrev s_between : Stmt := topS 17
abbrev s_part_between : Stmt := topS 18
abbrev s_cut_segment : Stmt := topS 19
abbrev s_point_at : Stmt := topS 20
abbrev s_time_on : Stmt := topS 21
abbrev s_clamped : Stmt := topS 22
abbrev s_segment_at : Stmt := topS 23
abbrev s__law_cell : Stmt := topS 25
abbrev s__law_stream : Stmt := topS 26
abbrev s__law_next : Stmt := topS 27
abbrev s__law_is_integer : Stmt := topS 28
abbrev s__law_ratio : Stmt := topS 29
abbrev s__law_is_number : Stmt := topS 30
abbrev s__law_sum : Stmt := topS 31
abbrev s__law_difference : Stmt := topS 32
abbrev s__law_product : Stmt := topS 33
abbrev s__law_small : Stmt := topS 35
abbrev s__law_point : Stmt := topS 36
abbrev s__law_is_point : Stmt := topS 37
abbrev s__law_path : Stmt := topS 38
abbrev s__law_bernstein : Stmt := topS 39
abbrev s__law_on_segment : Stmt := topS 40
abbrev s_law : Stmt := topS 41
theorem sc_ratio : FnScope ["n", "d", "common", "top", "bottom"] ["n", "d"] (defScope s_ratio) := ⟨rfl, rfl, rfl, by decide +kernel, rfl, by decide +kernel, by decide +kernel⟩
theorem sc_add : FnScope ["a", "b"] ["a", "b"] (defScope s_add) := ⟨rfl, rfl, rfl, by decide +kernel, rfl, by decide +kernel, by decide +kernel⟩
theorem sc_subtract : FnScope ["a", "b"] ["a", "b"] (defScope s_subtract) := ⟨rfl, rfl, rfl, by decide +kernel, rfl, by decide +kernel, by decide +kernel⟩
theorem sc_multiply : FnScope ["a", "b"] ["a", "b"] (defScope s_multiply) := ⟨rfl, rfl, rfl, by decide +kernel, rfl, by decide +kernel, by decide +kernel⟩
theorem sc_compare : FnScope ["a", "b", "left", "right"] ["a", "b"] (defScope s_compare) := ⟨rfl, rfl, rfl, by decide +kernel, rfl, by decide +kernel, by decide +kernel⟩
theorem sc_floor_of : FnScope ["a"] ["a"] (defScope s_floor_of) := ⟨rfl, rfl, rfl, by decide +kernel, rfl, by decide +kernel, by decide +kernel⟩
theorem sc_length : FnScope ["path"] ["path"] (defScope s_length) := ⟨rfl, rfl, rfl, by decide +kernel, rfl, by decide +kernel, by decide +kernel⟩
theorem sc_between : FnScope ["p", "q", "fraction"] ["p", "q", "fraction"] (defScope s_between) := ⟨rfl, rfl, rfl, by decide +kernel, rfl, by decide +kernel, by decide +kernel⟩
theorem sc_part_between : FnScope ["p", "q", "fraction"] ["p", "q", "fraction"] (defScope s_part_between) := ⟨rfl, rfl, rfl, by decide +kernel, rfl, by decide +kernel, by decide +kernel⟩
theorem sc_cut_segment : FnScope ["a", "segment", "b", "fraction", "first_control", "second_control", "first", "second", "third", "before", "after"] ["a", "segment", "b", "fraction"] (defScope s_cut_segment) := ⟨rfl, rfl, rfl, by decide +kernel, rfl, by decide +kernel, by decide +kernel⟩
theorem sc_point_at : FnScope ["path", "time", "place", "n", "a", "segment", "b"] ["path", "time"] (defScope s_point_at) := ⟨rfl, rfl, rfl, by decide +kernel, rfl, by decide +kernel, by decide +kernel⟩
theorem sc_time_on : FnScope ["path", "time", "n", "d"] ["path", "time"] (defScope s_time_on) := ⟨rfl, rfl, rfl, by decide +kernel, rfl, by decide +kernel, by decide +kernel⟩
theorem sc_clamped : FnScope ["path", "time", "whole"] ["path", "time"] (defScope s_clamped) := ⟨rfl, rfl, rfl, by decide +kernel, rfl, by decide +kernel, by decide +kernel⟩
theorem sc_segment_at : FnScope ["path", "n", "knots", "segments", "_", "at"] ["path", "n"] (defScope s_segment_at) := ⟨rfl, rfl, rfl, by decide +kernel, rfl, by decide +kernel, by decide +kernel⟩
theorem sc__law_cell : FnScope ["script", "k"] ["script", "k"] (defScope s__law_cell) := ⟨rfl, rfl, rfl, by decide +kernel, rfl, by decide +kernel, by decide +kernel⟩
theorem sc__law_stream : FnScope ["cell"] ["cell"] (defScope s__law_stream) := ⟨rfl, rfl, rfl, by decide +kernel, rfl, by decide +kernel, by decide +kernel⟩
theorem sc__law_next : FnScope ["stream", "size", "drawn", "mixed"] ["stream", "size"] (defScope s__law_next) := ⟨rfl, rfl, rfl, by decide +kernel, rfl, by decide +kernel, by decide +kernel⟩
theorem sc__law_is_integer : FnScope ["actual"] ["actual"] (defScope s__law_is_integer) := ⟨rfl, rfl, rfl, by decide +kernel, rfl, by decide +kernel, by decide +kernel⟩
theorem sc__law_ratio : FnScope ["n", "d", "a", "b", "k"] ["n", "d"] (defScope s__law_ratio) := ⟨rfl, rfl, rfl, by decide +kernel, rfl, by decide +kernel, by decide +kernel⟩
theorem sc__law_is_number : FnScope ["actual"] ["actual"] (defScope s__law_is_number) := ⟨rfl, rfl, rfl, by decide +kernel, rfl, by decide +kernel, by decide +kernel⟩
theorem sc__law_sum : FnScope ["a", "b"] ["a", "b"] (defScope s__law_sum) := ⟨rfl, rfl, rfl, by decide +kernel, rfl, by decide +kernel, by decide +kernel⟩
theorem sc__law_difference : FnScope ["a", "b"] ["a", "b"] (defScope s__law_difference) := ⟨rfl, rfl, rfl, by decide +kernel, rfl, by decide +kernel, by decide +kernel⟩
theorem sc__law_product : FnScope ["a", "b"] ["a", "b"] (defScope s__law_product) := ⟨rfl, rfl, rfl, by decide +kernel, rfl, by decide +kernel, by decide +kernel⟩
theorem sc__law_small : FnScope ["stream"] ["stream"] (defScope s__law_small) := ⟨rfl, rfl, rfl, by decide +kernel, rfl, by decide +kernel, by decide +kernel⟩
theorem sc__law_point : FnScope ["stream", "x"] ["stream"] (defScope s__law_point) := ⟨rfl, rfl, rfl, by decide +kernel, rfl, by decide +kernel, by decide +kernel⟩
theorem sc__law_is_point : FnScope ["actual"] ["actual"] (defScope s__law_is_point) := ⟨rfl, rfl, rfl, by decide +kernel, rfl, by decide +kernel, by decide +kernel⟩
theorem sc__law_path : FnScope ["stream", "most", "count", "is_cycle", "knots", "k", "segments", "first"] ["stream", "most"] (defScope s__law_path) := ⟨rfl, rfl, rfl, by decide +kernel, rfl, by decide +kernel, by decide +kernel⟩
theorem sc__law_bernstein : FnScope ["numbers", "u", "rest", "factors", "total", "k"] ["numbers", "u"] (defScope s__law_bernstein) := ⟨rfl, rfl, rfl, by decide +kernel, rfl, by decide +kernel, by decide +kernel⟩
theorem sc__law_on_segment : FnScope ["a", "segment", "b", "u", "x", "points", "point"] ["a", "segment", "b", "u"] (defScope s__law_on_segment) := ⟨rfl, rfl, rfl, by decide +kernel, rfl, by decide +kernel, by decide +kernel⟩
theorem sc_law : FnScope ["script", "stream", "path", "own", "d", "n", "time", "many", "held", "index", "fraction", "expected", "end", "actual"] ["script"] (defScope s_law) := ⟨rfl, rfl, rfl, by decide +kernel, rfl, by decide +kernel, by decide +kernel⟩
structure Txt (K : PySem.W.Frag) (mg : Str → Option Value) (A : Nat → Addr) (D : Nat → FuncData) : Prop where
  F_ratio : Fun K "ratio" "ratio" s_ratio (A 3) (D 3)
  m_ratio : mg "ratio" = some (.ref (A 3))
  b_ratio : Binds K (D 3) ["n", "d"] []
  F_add : Fun K "add" "add" s_add (A 4) (D 4)
  m_add : mg "add" = some (.ref (A 4))
  b_add : Binds K (D 4) ["a", "b"] []
  F_subtract : Fun K "subtract" "subtract" s_subtract (A 5) (D 5)
  m_subtract : mg "subtract" = some (.ref (A 5))
  b_subtract : Binds K (D 5) ["a", "b"] []
  F_multiply : Fun K "multiply" "multiply" s_multiply (A 6) (D 6)
  m_multiply : mg "multiply" = some (.ref (A 6))
  b_multiply : Binds K (D 6) ["a", "b"] []
  F_compare : Fun K "compare" "compare" s_compare (A 7) (D 7)
  m_compare : mg "compare" = some (.ref (A 7))
  b_compare : Binds K (D 7) ["a", "b"] []
  F_floor_of : Fun K "floor_of" "floor_of" s_floor_of (A 8) (D 8)
  m_floor_of : mg "floor_of" = some (.ref (A 8))
  b_floor_of : Binds K (D 8) ["a"] []
  F_length : Fun K "length" "length" s_length (A 9) (D 9)
  m_length : mg "length" = some (.ref (A 9))
  b_length : Binds K (D 9) ["path"] []
  F_between : Fun K "between" "between" s_between (A 10) (D 10)
  m_between : mg "between" = some (.ref (A 10))
  b_between : Binds K (D 10) ["p", "q", "fraction"] []
  F_part_between : Fun K "part_between" "part_between" s_part_between (A 11) (D 11)
  m_part_between : mg "part_between" = some (.ref (A 11))
  b_part_between : Binds K (D 11) ["p", "q", "fraction"] []
  F_cut_segment : Fun K "cut_segment" "cut_segment" s_cut_segment (A 12) (D 12)
  m_cut_segment : mg "cut_segment" = some (.ref (A 12))
  b_cut_segment : Binds K (D 12) ["a", "segment", "b", "fraction"] []
  F_point_at : Fun K "point_at" "point_at" s_point_at (A 13) (D 13)
  m_point_at : mg "point_at" = some (.ref (A 13))
  b_point_at : Binds K (D 13) ["path", "time"] []
  F_time_on : Fun K "time_on" "time_on" s_time_on (A 14) (D 14)
  m_time_on : mg "time_on" = some (.ref (A 14))
  b_time_on : Binds K (D 14) ["path", "time"] []
  F_clamped : Fun K "clamped" "clamped" s_clamped (A 15) (D 15)
  m_clamped : mg "clamped" = some (.ref (A 15))
  b_clamped : Binds K (D 15) ["path", "time"] []
  F_segment_at : Fun K "segment_at" "segment_at" s_segment_at (A 16) (D 16)
  m_segment_at : mg "segment_at" = some (.ref (A 16))
  b_segment_at : Binds K (D 16) ["path", "n"] []
  F__law_cell : Fun K "_law_cell" "_law_cell" s__law_cell (A 17) (D 17)
  m__law_cell : mg "_law_cell" = some (.ref (A 17))
  b__law_cell : Binds K (D 17) ["script", "k"] []
  F__law_stream : Fun K "_law_stream" "_law_stream" s__law_stream (A 18) (D 18)
  m__law_stream : mg "_law_stream" = some (.ref (A 18))
  b__law_stream : Binds K (D 18) ["cell"] []
  F__law_next : Fun K "_law_next" "_law_next" s__law_next (A 19) (D 19)
  m__law_next : mg "_law_next" = some (.ref (A 19))
  b__law_next : Binds K (D 19) ["stream", "size"] []
  F__law_is_integer : Fun K "_law_is_integer" "_law_is_integer" s__law_is_integer (A 20) (D 20)
  m__law_is_integer : mg "_law_is_integer" = some (.ref (A 20))
  b__law_is_integer : Binds K (D 20) ["actual"] []
  F__law_ratio : Fun K "_law_ratio" "_law_ratio" s__law_ratio (A 21) (D 21)
  m__law_ratio : mg "_law_ratio" = some (.ref (A 21))
  b__law_ratio : Binds K (D 21) ["n", "d"] []
  F__law_is_number : Fun K "_law_is_number" "_law_is_number" s__law_is_number (A 22) (D 22)
  m__law_is_number : mg "_law_is_number" = some (.ref (A 22))
  b__law_is_number : Binds K (D 22) ["actual"] []
  F__law_sum : Fun K "_law_sum" "_law_sum" s__law_sum (A 23) (D 23)
  m__law_sum : mg "_law_sum" = some (.ref (A 23))
  b__law_sum : Binds K (D 23) ["a", "b"] []
  F__law_difference : Fun K "_law_difference" "_law_difference" s__law_difference (A 24) (D 24)
  m__law_difference : mg "_law_difference" = some (.ref (A 24))
  b__law_difference : Binds K (D 24) ["a", "b"] []
  F__law_product : Fun K "_law_product" "_law_product" s__law_product (A 25) (D 25)
  m__law_product : mg "_law_product" = some (.ref (A 25))
  b__law_product : Binds K (D 25) ["a", "b"] []
  F__law_small : Fun K "_law_small" "_law_small" s__law_small (A 26) (D 26)
  m__law_small : mg "_law_small" = some (.ref (A 26))
  b__law_small : Binds K (D 26) ["stream"] []
  F__law_point : Fun K "_law_point" "_law_point" s__law_point (A 27) (D 27)
  m__law_point : mg "_law_point" = some (.ref (A 27))
  b__law_point : Binds K (D 27) ["stream"] []
  F__law_is_point : Fun K "_law_is_point" "_law_is_point" s__law_is_point (A 28) (D 28)
  m__law_is_point : mg "_law_is_point" = some (.ref (A 28))
  b__law_is_point : Binds K (D 28) ["actual"] []
  F__law_path : Fun K "_law_path" "_law_path" s__law_path (A 29) (D 29)
  m__law_path : mg "_law_path" = some (.ref (A 29))
  b__law_path : Binds K (D 29) ["stream", "most"] []
  F__law_bernstein : Fun K "_law_bernstein" "_law_bernstein" s__law_bernstein (A 30) (D 30)
  m__law_bernstein : mg "_law_bernstein" = some (.ref (A 30))
  b__law_bernstein : Binds K (D 30) ["numbers", "u"] []
  F__law_on_segment : Fun K "_law_on_segment" "_law_on_segment" s__law_on_segment (A 31) (D 31)
  m__law_on_segment : mg "_law_on_segment" = some (.ref (A 31))
  b__law_on_segment : Binds K (D 31) ["a", "segment", "b", "u"] []
  F_law : Fun K "law" "law" s_law (A 32) (D 32)
  m_law : mg "law" = some (.ref (A 32))
  b_law : Binds K (D 32) ["script"] []
  x_FontError : Z.ExcX K mg "FontError" (A 0)
  x_TooGreat : Z.ExcX K mg "TooGreat" (A 1)
  x_DivisionByZero : Z.ExcX K mg "DivisionByZero" (A 2)
  e_FontError_FontError : PySem.W.subIn K (.ref (A 0)) (.ref (A 0)) = some true
  e_FontError_TooGreat : PySem.W.subIn K (.ref (A 0)) (.ref (A 1)) = some false
  e_FontError_DivisionByZero : PySem.W.subIn K (.ref (A 0)) (.ref (A 2)) = some false
  e_TooGreat_FontError : PySem.W.subIn K (.ref (A 1)) (.ref (A 0)) = some true
  e_TooGreat_TooGreat : PySem.W.subIn K (.ref (A 1)) (.ref (A 1)) = some true
  e_TooGreat_DivisionByZero : PySem.W.subIn K (.ref (A 1)) (.ref (A 2)) = some false
  e_DivisionByZero_FontError : PySem.W.subIn K (.ref (A 2)) (.ref (A 0)) = some true
  e_DivisionByZero_TooGreat : PySem.W.subIn K (.ref (A 2)) (.ref (A 1)) = some false
  e_DivisionByZero_DivisionByZero : PySem.W.subIn K (.ref (A 2)) (.ref (A 2)) = some true
  z_abs : mg "abs" = none
  z_bool : mg "bool" = none
  z_int : mg "int" = none
  z_isinstance : mg "isinstance" = none
  z_len : mg "len" = none
  z_range : mg "range" = none
  z_tuple : mg "tuple" = none
  l_gcd : mg "gcd" = some (.builtin "math.gcd")
  c_ZERO : mg "ZERO" = some (.ref (A 33))
  d_ZERO : ∀ H : Hp, Dp K H (.ref (A 33)) (.tuple [(.int (0)), (.int (1))])
  c_LIMIT : ∃ u, mg "LIMIT" = some u ∧ RelV (.int (1000000000000000000)) u
local macro_rules | `(tactic| walk_at "z1") => `(tactic| first
  | with_reducible refine z_seq ?_
  | with_reducible refine z_asg ?_
  | with_reducible refine z_asgS ?_
  | with_reducible refine z_ifs ?_
  | ((with_reducible refine' z_var ?h ?_); case h => with_unfolding_all exact rfl)
  | with_reducible refine z_c ?_
  | with_reducible refine z_op ?_
  | with_reducible refine z_un ?_
  | with_reducible refine z_I0 ?_
  | ((with_reducible refine z_I ?h ?_); case h => first | (exact Or.inr ⟨by decide, by decide⟩) | (exact Or.inl ⟨by decide, by decide⟩) | (show (0 : Int) < _; first | assumption | omega))
  | with_reducible refine z_U ?_
  | with_reducible refine z_eqI ?_
  | with_reducible refine z_neI ?_
  | with_reducible refine z_test ?_
  | with_reducible refine z_tB ?_
  | with_reducible refine z_bl ?_
  | with_reducible refine z_notT ?_
  | with_reducible refine z_andT ?_
  | with_reducible refine z_orT ?_
  | with_reducible refine z_andV ?_
  | with_reducible refine z_orV ?_
  | with_reducible refine z_notV ?_
  | with_reducible refine z_ifE ?_
  | with_reducible refine z_ifT ?_
  | with_reducible refine z_ifF ?_
  | with_reducible refine z_ifNT ?_
  | with_reducible refine z_ifNF ?_
  | with_reducible refine z_chain ?_
  | with_reducible refine z_nil ?_
  | with_reducible refine z_cons ?_
  | with_reducible refine z_tup ?_
  | with_reducible refine z_lst ?_
  | with_reducible refine z_cb ?_
  | with_reducible refine z_call ?_
  | with_reducible refine z_callS ?_
  | with_reducible refine z_int1 ?_
  | with_reducible refine z_int1b ?_
  | with_reducible refine z_abs ?_
  | with_reducible refine z_gcd ?_
  | with_reducible refine z_ret ?_
  | with_reducible refine z_retN ?_
  | with_reducible refine z_drop ?_
  | with_reducible refine z_next ?_
  | with_reducible refine z_brk ?_
  | with_reducible refine z_cont ?_
  | with_reducible refine z_par ?_
  | with_reducible refine z_two ?_
  | with_reducible refine z_asgT ?_
  | with_reducible refine z_sl ?_
  | with_reducible refine z_noPart ?_
  | with_reducible refine z_part ?_
  | with_reducible refine z_partI ?_
  | with_reducible refine z_gName ?_
  | with_reducible refine z_gcons ?_
  | with_reducible refine z_gnil ?_
  | ((with_reducible refine' z_up ?h ?hm ?_); (case h => walk_at "sq"); (case hm => exact rfl))
  | ((with_reducible refine' z_gT ?h ?hm ?_); (case h => walk_at "sq"); (case hm => exact rfl))
  | with_reducible refine z_isII ?_
  | with_reducible refine z_isNN ?_
  | with_reducible refine z_isNR ?_
  | with_reducible refine z_notNN ?_
  | with_reducible refine z_notNR ?_
  | with_reducible refine z_isIB ?_
  | with_reducible refine z_isBB ?_
  | ((with_reducible refine' z_isT ?h ?_); (case h => walk_at "sq"))
  | ((with_reducible refine' z_isLL ?h ?_); case h => assumption)
  | ((with_reducible refine z_newT ?h ?_); case h => exact Nat.le_of_ble_eq_true rfl)
  | ((with_reducible refine z_newL ?h ?_); case h => exact Nat.le_of_ble_eq_true rfl)
  | ((with_reducible refine' z_ixL ?h ?h2 ?_); (case h => walk_at "sq"); (case h2 => exact rfl))
  | ((with_reducible refine' z_ixT ?h ?h2 ?_); (case h => walk_at "sq"); (case h2 => exact rfl))
  | ((with_reducible refine' z_lenL ?h ?_); case h => walk_at "sq")
  | ((with_reducible refine' z_lenT ?h ?_); case h => walk_at "sq")
  | ((with_reducible refine z_ifYes ?h ?_); (case h => exact rfl))
  | ((with_reducible refine z_ifNo ?h ?_); (case h => exact rfl)))
local macro_rules | `(tactic| walk_at "sq") => `(tactic| first | assumption | exact Or.inl (Or.inl (by assumption)) | exact Or.inl (Or.inl upd_same))
local macro_rules | `(tactic| walk_at "z") => `(tactic| repeat (walk_at "z1"))
/-! ### promises -/
def sp__law_cell (K : PySem.W.Frag) : Sp := fun vs H Q _ => ∃ (l : Addr) (ns : List Int) (j : Nat), vs = [.ref l, .int (j : Int)] ∧ SqL K H l (ns.map V.int) ∧ ∀ v, Q (.int v) H
/-- a stream: three ints, whatever they are -/
def IsStm (H : Hp) (p : Addr) : Prop := ∃ a b m : Int, H p = some (.lst [.int a, .int b, .int m])
def sp__law_stream : Sp := fun vs H Q _ => ∃ c : Int, vs = [.int c] ∧ ∀ p H' a b m, H p = none → Same H H' → H' p = some (.lst [.int a, .int b, .int m]) → Q (.ref p) H'
def sp__law_next : Sp := fun vs H Q _ => ∃ (p : Addr) (z : Int), vs = [.ref p, .int z] ∧ IsStm H p ∧ 0 < z ∧ z.natAbs < 2 ^ 1000 ∧ ∀ v a b m, 0 ≤ v → v < z → Q (.int v) (upd H p (.lst [.int a, .int b, .int m]))
section
theorem ok__law_cell {P : Program} {w : World} {K : PySem.W.Frag} {mg : Str → Option Value} {base : Heap} {A : Nat → Addr} {D : Nat → FuncData} (T : Txt K mg A D) : FnOk P w K mg base (L2.CX P w) 1 (A 17) (D 17) ["script", "k"] (sp__law_cell K) := by
  refine T.F__law_cell.okX sc__law_cell (fun vs H Q E h => ?_) (fun cdv A' outer s H vs Q E hr h => ?_)
  · obtain ⟨l, ns, j, rfl, _⟩ := h
    rfl
  obtain ⟨l, ns, j, rfl, hS, q⟩ := h
  refine ⟨_, (pss_cons (ps_if (pt_cmpR op_lt (pv 1) (pe_callB Z.c_len (by rfl) T.z_len (by decide +kernel) (pa_cons (pv 0) pa_nil)) (nomark _))
  (pss_one (ps_ret (pe_ix ix_list (pv 0) (pv 1) (fun _ _ => rfl))))
  pss_nil)
  (pss_one (ps_ret pe_int))), ?_⟩
  walk_at "z"
  refine z_if (fun hj => ?_) (fun _ => ?_)
  · walk_at "z"
    rw [List.length_map] at hj
    have hj' : j < ns.length := by omega
    refine z_ixL hS (v := .int ns[j]) (atI_nat (by rw [List.getElem?_map, List.getElem?_eq_getElem hj']; rfl)) (q _)
  · walk_at "z"
    exact q 0
theorem ok__law_stream {P : Program} {w : World} {K : PySem.W.Frag} {mg : Str → Option Value} {base : Heap} {A : Nat → Addr} {D : Nat → FuncData} (T : Txt K mg A D) : FnOk P w K mg base (L2.CX P w) 1 (A 18) (D 18) ["cell"] sp__law_stream := by
  refine T.F__law_stream.okX sc__law_stream (fun vs H Q E h => ?_) (fun cdv A' outer s H vs Q E hr h => ?_)
  · obtain ⟨c, rfl, _⟩ := h
    rfl
  obtain ⟨c, rfl, q⟩ := h
  refine ⟨_, (pss_cons (ps_if (pt_cmpR op_ge (pv 0) (Z.pe_powc (v := 1000000000000000000) ⟨by decide, by decide, by decide⟩ (by decide)) (nomark _))
  (pss_one (ps_ret (pe_lst (pa_cons (pv 0) (pa_cons pe_int (pa_cons (pe_op op_mod (pe_callTy Z.c_int (by rfl) T.z_int (by decide +kernel) (pa_cons (pv 0) pa_nil)) pe_int) pa_nil))))))
  pss_nil)
  (pss_one (ps_ret (pe_lst (pa_cons pe_int (pa_cons pe_int (pa_cons (pe_op op_mod (pe_callTy Z.c_int (by rfl) T.z_int (by decide +kernel) (pa_cons (pv 0) pa_nil)) pe_int) pa_nil))))))), ?_⟩
  walk_at "z"
  refine z_if (fun hj => ?_) (fun _ => ?_)
  · walk_at "z"
    exact fun p H' hp s h => q p H' _ _ _ hp s h
  · walk_at "z"
    exact fun p H' hp s h => q p H' _ _ _ hp s h
theorem ok__law_next {P : Program} {w : World} {K : PySem.W.Frag} {mg : Str → Option Value} {base : Heap} {A : Nat → Addr} {D : Nat → FuncData} (T : Txt K mg A D) : FnOk P w K mg base (L2.CX P w) 1 (A 19) (D 19) ["stream", "size"] sp__law_next := by
  refine T.F__law_next.okX sc__law_next (fun vs H Q E h => ?_) (fun cdv A' outer s H vs Q E hr h => ?_)
  · obtain ⟨p, z, rfl, _⟩ := h
    rfl
  obtain ⟨p, z, rfl, ⟨a, b, m, hp⟩, hz, hz2, q⟩ := h
  refine ⟨_, (pss_cons (ps_if (pt_cmpR op_gt (pe_ix ix_list (pv 0) pe_int (fun _ _ => rfl)) pe_int (nomark _))
  (pss_cons (ps_set (i := 2) sc__law_next.nd rfl (.inl rfl) (pe_op op_mod (pe_callTy Z.c_int (by rfl) T.z_int (by decide +kernel) (pa_cons (pe_ix ix_list (pv 0) pe_int (fun _ _ => rfl)) pa_nil)) (pv 1)))
  (pss_cons (ps_asg (pe_op op_fdivW (pe_ix ix_list (pv 0) pe_int (fun _ _ => rfl)) (pv 1)) (pg_sub (pv 0) pe_int set_list))
  (pss_one (ps_ret (pv 2)))))
  pss_nil)
  (pss_cons (ps_asg (pe_op op_add (pe_ix ix_list (pv 0) pe_int (fun _ _ => rfl)) pe_int) (pg_sub (pv 0) pe_int set_list))
  (pss_cons (ps_set (i := 3) sc__law_next.nd rfl (.inl rfl) (pe_op op_mod (pe_callTy Z.c_int (by rfl) T.z_int (by decide +kernel) (pa_cons (pe_op op_add (pe_op op_mul (pe_ix ix_list (pv 0) pe_int (fun _ _ => rfl)) pe_int) (pe_op op_mul (pe_ix ix_list (pv 0) pe_int (fun _ _ => rfl)) pe_int)) pa_nil)) pe_int))
  (pss_cons (ps_set (i := 3) sc__law_next.nd rfl (.inl rfl) (pe_op op_mod (pe_callTy Z.c_int (by rfl) T.z_int (by decide +kernel) (pa_cons (pe_op op_add (pe_op op_mulW (pv 3) (pv 3)) (pe_op op_mul (pe_ix ix_list (pv 0) pe_int (fun _ _ => rfl)) pe_int)) pa_nil)) pe_int))
  (pss_cons (ps_set (i := 3) sc__law_next.nd rfl (.inl rfl) (pe_op op_mod (pe_callTy Z.c_int (by rfl) T.z_int (by decide +kernel) (pa_cons (pe_op op_add (pe_op op_mul (pv 3) pe_int) (pe_ix ix_list (pv 0) pe_int (fun _ _ => rfl))) pa_nil)) pe_int))
  (pss_one (ps_ret (pe_op op_mod (pe_callTy Z.c_int (by rfl) T.z_int (by decide +kernel) (pa_cons (pv 3) pa_nil)) (pv 1))))))))), ?_⟩
  walk_at "z"
  refine z_if (fun hj => ?_) (fun _ => ?_)
  · walk_at "z"
    refine z_I (wide_div hz hz2 (by decide) (by decide)) ?_
    walk_at "z"
    refine z_setL hp rfl ?_
    walk_at "z"
    exact q _ _ _ _ (Int.emod_nonneg _ (by omega)) (Int.emod_lt_of_pos _ hz)
  · walk_at "z"
    refine z_setL hp rfl ?_
    have hp1 : (upd H p (HO.lst ([V.int a, V.int b, V.int m].set (Int.toNat 1) (V.int (b + 1))))) p = some (.lst [V.int a, V.int (b + 1), V.int m]) := upd_same
    walk_at "z"
    refine z_I ?_ ?_
    · exact wide_mul (a := 32) (b := 32) (by omega) (by omega) (by decide) (by decide) (by decide)
    walk_at "z"
    exact q _ _ _ _ (Int.emod_nonneg _ (by omega)) (Int.emod_lt_of_pos _ hz)
end
def sp__law_is_integer : Sp := fun vs H Q _ => ∃ i, vs = [.int i] ∧ Q (.bl true) H
section
theorem ok__law_is_integer {P : Program} {w : World} {K : PySem.W.Frag} {mg : Str → Option Value} {base : Heap} {A : Nat → Addr} {D : Nat → FuncData} (T : Txt K mg A D) : FnOk P w K mg base (L2.CX P w) 1 (A 20) (D 20) ["actual"] sp__law_is_integer := by
  refine T.F__law_is_integer.okX sc__law_is_integer (fun vs H Q E h => ?_) (fun cdv A' outer s H vs Q E hr h => ?_)
  · obtain ⟨i, rfl, _⟩ := h
    rfl
  obtain ⟨i, rfl, q⟩ := h
  refine ⟨_, (pss_one (ps_ret (pe_and (pe_callB call_isi (by rfl) T.z_isinstance (by decide +kernel) (pa_cons (pv 0) (pa_cons (pe_bltn (v := .ty "int") (by rfl) T.z_int (by decide +kernel) rfl) pa_nil))) (pe_one (pe_not (pe_callB call_isi (by rfl) T.z_isinstance (by decide +kernel) (pa_cons (pv 0) (pa_cons (pe_bltn (v := .ty "bool") (by rfl) T.z_bool (by decide +kernel) rfl) pa_nil)))))))), ?_⟩
  walk_at "z"
  exact q
end
theorem isI {i : Int} {H : Hp} {Q : VK} {E : XK} (q : Q (.bl true) H) : sp__law_is_integer [.int i] H Q E := ⟨i, rfl, q⟩
local macro_rules | `(tactic| walk_at "z1") => `(tactic| with_reducible refine isI ?_)

/-! ### numbers in lowest terms -/
theorem gd_pos {n d : Int} (h : d ≠ 0) : 0 < gd n d := by
  unfold gd
  have : 0 < Nat.gcd n.natAbs d.natAbs := Nat.gcd_pos_of_pos_right _ (by omega)
  omega
theorem gd_dvd_l (n d : Int) : gd n d ∣ n := by
  unfold gd
  exact Int.dvd_trans (Int.natCast_dvd_natCast.mpr (Nat.gcd_dvd_left _ _)) (Int.natAbs_dvd_self)
theorem gd_dvd_r (n d : Int) : gd n d ∣ d := by
  unfold gd
  exact Int.dvd_trans (Int.natCast_dvd_natCast.mpr (Nat.gcd_dvd_right _ _)) (Int.natAbs_dvd_self)
theorem rd_pos {n d : Int} (h : d ≠ 0) : 0 < rd n d := by
  have g := gd_pos (n := n) h
  obtain ⟨k, hk⟩ := gd_dvd_r n d
  unfold rd
  split
  · rename_i hd
    have e : -d = gd n d * (-k) := by rw [Int.mul_neg, ← hk]
    rw [e, Int.mul_ediv_cancel_left _ (by omega)]
    have : ¬ 0 ≤ k := fun z => by have := Int.mul_nonneg (Int.le_of_lt g) z; omega
    omega
  · rename_i hd
    have e : d / gd n d = k := Int.ediv_eq_of_eq_mul_right (by omega) hk
    rw [e]
    have : ¬ k ≤ 0 := fun z => by have := Int.mul_nonpos_of_nonneg_of_nonpos (Int.le_of_lt g) z; omega
    omega
/-- what the program divides: by the negative of the common divisor where d is negative -/
theorem fdiv_neg {n g : Int} (hg : 0 < g) (h : g ∣ n) : Int.fdiv n (-g) = -n / g := by
  obtain ⟨k, rfl⟩ := h
  rw [show g * k = (-g) * (-k) by rw [Int.neg_mul_neg], Int.mul_fdiv_cancel_left _ (by omega), Int.neg_mul_neg, show -(g * k) = g * (-k) by rw [Int.mul_neg], Int.mul_ediv_cancel_left _ (by omega)]
theorem fdiv_pos {n g : Int} (hg : 0 < g) : Int.fdiv n g = n / g := Int.fdiv_eq_ediv_of_nonneg _ (by omega)
theorem gd_log {n d : Int} {k : Nat} (h : d ≠ 0) (hd : d.natAbs < 2 ^ k) : (gd n d).natAbs < 2 ^ k := by
  have : Nat.gcd n.natAbs d.natAbs ≤ d.natAbs := Nat.gcd_le_right _ (by omega)
  unfold gd
  omega
theorem cfd {j : Int} (h : j ≠ 0) (hj : j.natAbs < 2 ^ 1000) : CFd 0 j := ⟨h, Nat.lt_of_lt_of_le (PySem.Flt.log2_lt_of (by decide) hj) (by decide)⟩
theorem lt4 {a : Nat} (h : a < 2 ^ 400) : a < 2 ^ 1000 := Nat.lt_of_lt_of_le h (Nat.pow_le_pow_right (by decide) (by decide))
theorem lt1000 {a : Nat} (h : a < 2 ^ 100) : a < 2 ^ 1000 := Nat.lt_of_lt_of_le h (Nat.pow_le_pow_right (by decide) (by decide))
/-! ### ratio -/
/-- a value that stands for d is handed back -/
def RetD (K : PySem.W.Frag) (H : Hp) (d : PyData) (Q : VK) : Prop := ∀ v H', Same H H' → Dp K H' v d → Q v H'
def OutQ (K : PySem.W.Frag) (A : Nat → Addr) (r : Rat) (H : Hp) (Q : VK) (E : XK) : Prop := (¬ fitsQ r → E (.ref (A 1)) none H) ∧ (fitsQ r → RetD K H (qD r) Q)
def sp_ratio (K : PySem.W.Frag) (A : Nat → Addr) : Sp := fun vs H Q E => ∃ n d : Int, vs = [.int n, .int d] ∧ n.natAbs < 2 ^ 1000 ∧ d.natAbs < 2 ^ 1000 ∧ (d = 0 → E (.ref (A 2)) none H) ∧ (d ≠ 0 → OutQ K A (Rat.divInt n d) H Q E)
theorem fits_q {n d : Int} (h : d ≠ 0) : fitsQ (Rat.divInt n d) ↔ (-lim ≤ rn n d ∧ rn n d ≤ lim ∧ rd n d ≤ lim) := by
  rw [rn_q h, rd_q h]
  rfl
section
theorem ok_ratio {P : Program} {w : World} {K : PySem.W.Frag} {mg : Str → Option Value} {base : Heap} {A : Nat → Addr} {D : Nat → FuncData} (T : Txt K mg A D) : FnOk P w K mg base (L2.CX P w) 1 (A 3) (D 3) ["n", "d"] (sp_ratio K A) := by
  refine T.F_ratio.okX sc_ratio (fun vs H Q E h => ?_) (fun cdv A' outer s H vs Q E hr h => ?_)
  · obtain ⟨n, d, rfl, _⟩ := h
    rfl
  obtain ⟨n, d, rfl, hn, hd, k0, kO⟩ := h
  refine ⟨_, (pss_cons (ps_if (pt_cmpR op_eq (pv 1) pe_int (nomark _))
  (pss_one (ps_raise rfl (takes_of rfl rfl rfl rfl) (Z.pmk T.x_DivisionByZero (by rfl))))
  pss_nil)
  (pss_cons (ps_set (i := 2) sc_ratio.nd rfl (.inl rfl) (pe_callBfun cr_gcd (by rfl) T.l_gcd (pa_cons (pv 0) (pa_cons (pv 1) pa_nil))))
  (pss_cons (ps_if (pt_cmpR op_lt (pv 1) pe_int (nomark _))
  (pss_one (ps_set (i := 2) sc_ratio.nd rfl (.inl rfl) (pe_un un_neg (pv 2))))
  pss_nil)
  (pss_cons (ps_set (i := 3) sc_ratio.nd rfl (.inl rfl) (pe_op Z.op_fdivZ (pv 0) (pv 2)))
  (pss_cons (ps_set (i := 4) sc_ratio.nd rfl (.inl rfl) (pe_op Z.op_fdivZ (pv 1) (pv 2)))
  (pss_cons (ps_if (PW.pt (pw_or (pt_not (pt_chain op_le op_le (pe_un un_neg (Z.pe_globE T.c_LIMIT)) (pv 3) (Z.pe_globE T.c_LIMIT))) (pw_or1 (pt_cmpR op_gt (pv 4) (Z.pe_globE T.c_LIMIT) (nomark _)))))
  (pss_one (ps_raise rfl (takes_of rfl rfl rfl rfl) (Z.pmk T.x_TooGreat (by rfl))))
  pss_nil)
  (pss_one (ps_ret (pe_tup (pa_cons (pv 3) (pa_cons (pv 4) pa_nil))))))))))), ?_⟩
  walk_at "z"
  refine z_if (fun h0 => k0 h0) (fun h0 => ?_)
  walk_at "z"
  have hg := gd_pos (n := n) h0
  have hgl := gd_log (n := n) h0 hd
  have end1 : ¬ (-lim ≤ rn n d ∧ rn n d ≤ lim ∧ rd n d ≤ lim) → E (.ref (A 1)) none H := fun f => (kO h0).1 fun z => f ((fits_q h0).mp z)
  have end2 : (-lim ≤ rn n d ∧ rn n d ≤ lim ∧ rd n d ≤ lim) → ∀ p H', Same H H' → H' p = some (.tup [.int (rn n d), .int (rd n d)]) → Q (.ref p) H' := fun f p H' s h => (kO h0).2 ((fits_q h0).mpr f) (.ref p) H' s (dp_mkq (by rw [← rn_q h0, ← rd_q h0]; exact h))
  refine z_if (fun hd0 => ?_) (fun hd0 => ?_)
  · have e1 : Int.fdiv n (-((Nat.gcd n.natAbs d.natAbs : Nat) : Int)) = rn n d := by
      show Int.fdiv n (-gd n d) = rn n d
      rw [fdiv_neg hg (gd_dvd_l n d)]
      unfold rn
      rw [if_pos hd0]
    have e2 : Int.fdiv d (-((Nat.gcd n.natAbs d.natAbs : Nat) : Int)) = rd n d := by
      show Int.fdiv d (-gd n d) = rd n d
      rw [fdiv_neg hg (gd_dvd_r n d)]
      unfold rd
      rw [if_pos hd0]
    walk_at "z"
    refine z_I (show CFd _ (-gd n d) from cfd (by omega) (by omega)) ?_
    rw [e1]
    walk_at "z"
    refine z_I (show CFd _ (-gd n d) from cfd (by omega) (by omega)) ?_
    rw [e2]
    walk_at "z"
    refine z_if (fun c1 => ?_) (fun c1 => ?_)
    · walk_at "z"
      refine z_ifN (fun c2 => ?_) (fun c2 => ?_)
      · walk_at "z"
        exact end1 fun f => c2 f.2.1
      · walk_at "z"
        refine z_if (fun c3 => ?_) (fun c3 => ?_)
        · exact end1 fun f => by have := f.2.2; unfold lim at this; omega
        · walk_at "z"
          exact fun p H' _ s h => end2 ⟨c1, c2, by unfold lim; omega⟩ p H' s h
    · walk_at "z"
      exact end1 fun f => c1 f.1
  · have e1 : Int.fdiv n (((Nat.gcd n.natAbs d.natAbs : Nat) : Int)) = rn n d := by
      show Int.fdiv n (gd n d) = rn n d
      rw [fdiv_pos hg]
      unfold rn
      rw [if_neg hd0]
    have e2 : Int.fdiv d (((Nat.gcd n.natAbs d.natAbs : Nat) : Int)) = rd n d := by
      show Int.fdiv d (gd n d) = rd n d
      rw [fdiv_pos hg]
      unfold rd
      rw [if_neg hd0]
    walk_at "z"
    refine z_I (show CFd _ (gd n d) from cfd (by omega) (by omega)) ?_
    rw [e1]
    walk_at "z"
    refine z_I (show CFd _ (gd n d) from cfd (by omega) (by omega)) ?_
    rw [e2]
    walk_at "z"
    refine z_if (fun c1 => ?_) (fun c1 => ?_)
    · walk_at "z"
      refine z_ifN (fun c2 => ?_) (fun c2 => ?_)
      · walk_at "z"
        exact end1 fun f => c2 f.2.1
      · walk_at "z"
        refine z_if (fun c3 => ?_) (fun c3 => ?_)
        · exact end1 fun f => by have := f.2.2; unfold lim at this; omega
        · walk_at "z"
          exact fun p H' _ s h => end2 ⟨c1, c2, by unfold lim; omega⟩ p H' s h
    · walk_at "z"
      exact end1 fun f => c1 f.1
end

/-! ### the law's own Euclid -/
structure Eu (M : Nat) (G i a b : Nat) : Prop where
  g : Nat.gcd a b = G
  o : (i = 0 ∧ a * b = M) ∨ (b < a ∧ a * b * 2 ^ i ≤ 2 * M)
theorem Eu.start {a b : Nat} : Eu (a * b) (Nat.gcd a b) 0 a b := ⟨rfl, .inl ⟨rfl, rfl⟩⟩
theorem Eu.next {M G i a b : Nat} (h : Eu M G i a b) (hb : b ≠ 0) : Eu M G (i + 1) b (a % b) := by
  have hlt : a % b < b := Nat.mod_lt _ (by omega)
  refine ⟨?_, .inr ⟨hlt, ?_⟩⟩
  · rw [← h.g, Nat.gcd_comm a b, Nat.gcd_comm b (a % b)]
    exact (Nat.gcd_rec b a).symm
  · have hm : a * b * 2 ^ i ≤ 2 * M := by
      rcases h.o with ⟨z, w⟩ | ⟨_, w⟩
      · subst z
        rw [w]
        omega
      · exact w
    by_cases hab : a < b
    · have e : a % b = a := Nat.mod_eq_of_lt hab
      have hi : i = 0 ∧ a * b = M := by
        rcases h.o with z | z
        · exact z
        · omega
      obtain ⟨rfl, w⟩ := hi
      rw [e, Nat.mul_comm b a, w]
      omega
    · have h2 : 2 * (a % b) ≤ a := by
        have h3 : a % b ≤ a - b := by
          rw [Nat.mod_eq_sub_mod (by omega)]
          exact Nat.mod_le _ _
        omega
      have h4 : b * (a % b) * 2 ≤ a * b := by
        rw [Nat.mul_assoc, Nat.mul_comm (a % b) 2, Nat.mul_comm a b]
        exact Nat.mul_le_mul_left b h2
      calc b * (a % b) * 2 ^ (i + 1) = (b * (a % b) * 2) * 2 ^ i := by rw [Nat.pow_succ, Nat.mul_comm (2 ^ i) 2, ← Nat.mul_assoc]
        _ ≤ (a * b) * 2 ^ i := Nat.mul_le_mul_right _ h4
        _ ≤ 2 * M := hm
set_option exponentiation.threshold 2000 in
theorem Eu.zero {G a b x y : Nat} (h : Eu (x * y) G 1000 a b) (hx : x < 2 ^ 400) (hy : y < 2 ^ 400) : b = 0 := by
  have h1 : x * y < 2 ^ 400 * 2 ^ 400 := Nat.mul_lt_mul'' hx hy
  rcases h.o with ⟨z, _⟩ | ⟨w, h2⟩
  · omega
  have h3 : a * b = 0 := by
    rcases Nat.eq_zero_or_pos (a * b) with z | z
    · exact z
    · have : 2 ^ 1000 ≤ a * b * 2 ^ 1000 := Nat.le_mul_of_pos_left _ z
      have e : 2 * (2 ^ 400 * 2 ^ 400) < 2 ^ 1000 := by decide
      omega
  rcases Nat.mul_eq_zero.mp h3 with z | z
  · omega
  · exact z
def sp__law_ratio (K : PySem.W.Frag) : Sp := fun vs H Q _ => ∃ n d : Int, vs = [.int n, .int d] ∧ d ≠ 0 ∧ n.natAbs < 2 ^ 400 ∧ d.natAbs < 2 ^ 400 ∧ RetD K H (qD (Rat.divInt n d)) Q
theorem abs_eq (n : Int) : (if n < 0 then -n else n) = (n.natAbs : Int) := by
  split <;> omega
section
theorem ok__law_ratio {P : Program} {w : World} {K : PySem.W.Frag} {mg : Str → Option Value} {base : Heap} {A : Nat → Addr} {D : Nat → FuncData} (T : Txt K mg A D) : FnOk P w K mg base (L2.CX P w) 1 (A 21) (D 21) ["n", "d"] (sp__law_ratio K) := by
  refine T.F__law_ratio.okX sc__law_ratio (fun vs H Q E h => ?_) (fun cdv A' outer s H vs Q E hr h => ?_)
  · obtain ⟨n, d, rfl, _⟩ := h
    rfl
  obtain ⟨n, d, rfl, h0, hn, hd, q⟩ := h
  refine ⟨_, (pss_cons (ps_set (i := 2) sc__law_ratio.nd rfl (.inl rfl) (pe_callB Z.c_abs (by rfl) T.z_abs (by decide +kernel) (pa_cons (pv 0) pa_nil)))
  (pss_cons (ps_set (i := 3) sc__law_ratio.nd rfl (.inl rfl) (pe_callB Z.c_abs (by rfl) T.z_abs (by decide +kernel) (pa_cons (pv 1) pa_nil)))
  (pss_cons (ps_for (passes_of rfl) rfl (pi_range1 (by rfl) T.z_range (pa_cons pe_int pa_nil)) (pg_name (i := 4) sc__law_ratio.nd rfl (.inl rfl))
  (pss_cons (ps_if (pt_cmpR op_eq (pv 3) pe_int (nomark _))
  (pss_one ps_break)
  pss_nil)
  (pss_one (ps_par (i := 2) (j := 3) (by rfl) sc__law_ratio.nd rfl rfl (by decide) rfl rfl (pa_cons (pv 3) (pa_cons (pe_op op_mod (pe_callTy Z.c_int (by rfl) T.z_int (by decide +kernel) (pa_cons (pv 2) pa_nil)) (pv 3)) pa_nil)) (by rfl)))))
  (pss_cons (ps_if (pt_cmpR op_lt (pv 1) pe_int (nomark _))
  (pss_one (ps_set (i := 0) sc__law_ratio.nd rfl (.inl rfl) (pe_op op_sub pe_int (pv 0))))
  pss_nil)
  (pss_one (ps_ret (pe_tup (pa_cons (pe_op op_fdivW (pv 0) (pv 2)) (pa_cons (pe_op op_fdivW (pe_callB Z.c_abs (by rfl) T.z_abs (by decide +kernel) (pa_cons (pv 1) pa_nil)) (pv 2)) pa_nil))))))))), ?_⟩
  walk_at "z"
  rw [abs_eq, abs_eq]
  have fin : ∀ (σ' : L2.St) (kv : Option V), σ' = [some (.int n), some (.int d), some (.int (gd n d)), some (.int 0), kv] →
      (tSeq (tIfS (tTest (tOp (rI0 fun i j => V.bl (decide (i < j))) (tVar 1) (tC (V.int 0)))) (tAsg (tOp (rI0 fun i j => V.int (i - j)) (tC (V.int 0)) (tVar 0)) (gName 0)) tNext)
          (tRet (tTup (tCons (tOp (rI CDivW fun i j => V.int (i / j)) (tVar 0) (tVar 2)) (tCons (tOp (rI CDivW fun i j => V.int (i / j)) (tCB rAbs (tCons (tVar 1) tNil)) (tVar 2)) tNil))))
          { nx := fun x H' => Q V.non H', rt := Q }) σ' H := by
    rintro σ' kv rfl
    have hg := gd_pos (n := n) h0
    have hgl := gd_log (n := n) h0 hd
    walk_at "z"
    refine z_if (fun c => ?_) (fun c => ?_)
    · walk_at "z"
      refine z_I (wide_div hg hgl (by decide) (by decide)) ?_
      walk_at "z"
      refine z_I (wide_div hg hgl (by decide) (by decide)) ?_
      walk_at "z"
      have e1 : (0 - n) / gd n d = rn n d := by
        unfold rn
        rw [if_pos c, Int.zero_sub]
      have e2 : (if d < 0 then -d else d) / gd n d = rd n d := rfl
      rw [e1, e2]
      exact fun p H' _ s h => q (.ref p) H' s (dp_mkq (by rw [← rn_q h0, ← rd_q h0]; exact h))
    · walk_at "z"
      refine z_I (wide_div hg hgl (by decide) (by decide)) ?_
      walk_at "z"
      refine z_I (wide_div hg hgl (by decide) (by decide)) ?_
      walk_at "z"
      have e1 : n / gd n d = rn n d := by
        unfold rn
        rw [if_neg c]
      have e2 : (if d < 0 then -d else d) / gd n d = rd n d := rfl
      rw [e1, e2]
      exact fun p H' _ s h => q (.ref p) H' s (dp_mkq (by rw [← rn_q h0, ← rd_q h0]; exact h))
  refine z_forR1 1000 (by decide) (fun R q => by walk_at "z"; exact q) (fun i σ' H' => H' = H ∧ ∃ (a b : Nat) (kv : Option V), σ' = [some (.int n), some (.int d), some (.int (a : Int)), some (.int (b : Int)), kv] ∧ Eu (n.natAbs * d.natAbs) (Nat.gcd n.natAbs d.natAbs) i a b)
    ⟨rfl, _, _, _, rfl, Eu.start⟩ ?_ ?_
  · rintro i σ' H' hi ⟨rfl, a, b, kv, rfl, eu⟩
    walk_at "z"
    refine z_if (fun c => ?_) (fun c => ?_)
    · walk_at "z1"
      have hb : b = 0 := by omega
      subst hb
      have ha : a = Nat.gcd n.natAbs d.natAbs := by rw [← eu.g, Nat.gcd_zero_right]
      subst ha
      exact fin _ _ rfl
    · walk_at "z"
      refine ⟨rfl, b, a % b, some (.int (i : Int)), ?_, eu.next (by omega)⟩
      rw [Int.natCast_emod]
      rfl
  · rintro σ' H' ⟨rfl, a, b, kv, rfl, eu⟩
    have hb := eu.zero hn hd
    subst hb
    have ha : a = Nat.gcd n.natAbs d.natAbs := by rw [← eu.g, Nat.gcd_zero_right]
    subst ha
    exact fin _ _ rfl
end

def sp__law_is_number (K : PySem.W.Frag) : Sp := fun vs H Q _ => ∃ (v : V) (r : Rat), vs = [v] ∧ Dp K H v (qD r) ∧ Q (.bl true) H
section
theorem ok__law_is_number {P : Program} {w : World} {K : PySem.W.Frag} {mg : Str → Option Value} {base : Heap} {A : Nat → Addr} {D : Nat → FuncData} (T : Txt K mg A D) : FnOk P w K mg base (L2.CX P w) 2 (A 22) (D 22) ["actual"] (sp__law_is_number K) := by
  refine T.F__law_is_number.okX sc__law_is_number (fun vs H Q E h => ?_) (fun cdv A' outer s H vs Q E hr h => ?_)
  · obtain ⟨v, r, rfl, _⟩ := h
    rfl
  obtain ⟨v, r, rfl, hv, q⟩ := h
  obtain ⟨p, rfl, hp⟩ := dp_q hv
  refine ⟨_, (pss_cons (ps_if (PW.pt (pw_or (pt_not (pt_val (pe_callB call_isi (by rfl) T.z_isinstance (by decide +kernel) (pa_cons (pv 0) (pa_cons (pe_bltn (v := .ty "tuple") (by rfl) T.z_tuple (by decide +kernel) rfl) pa_nil))))) (pw_or1 (pt_cmpR op_ne (pe_callB Z.c_len (by rfl) T.z_len (by decide +kernel) (pa_cons (pv 0) pa_nil)) pe_int (nomark _)))))
  (pss_one (ps_ret pe_bl))
  pss_nil)
  (pss_one (ps_ret (pe_and (pe_call (ok__law_is_integer T) (hr.mono (by decide)) (by rfl) T.m__law_is_integer T.F__law_is_integer.kp T.b__law_is_integer .nil (passes_call (takes_of rfl rfl rfl rfl) (fun _ _ _ _ h => h)) (pa_cons (pe_ix ix_tup (pv 0) pe_int (fun _ _ => rfl)) pa_nil)) (pe_one (pe_call (ok__law_is_integer T) (hr.mono (by decide)) (by rfl) T.m__law_is_integer T.F__law_is_integer.kp T.b__law_is_integer .nil (passes_call (takes_of rfl rfl rfl rfl) (fun _ _ _ _ h => h)) (pa_cons (pe_ix ix_tup (pv 0) pe_int (fun _ _ => rfl)) pa_nil))))))), ?_⟩
  walk_at "z"
  exact q
end

/-! ### the draws of a law: the heap H0 stands, a stream stands at p -/
structure Sd (H0 H : Hp) (p : Addr) : Prop where
  same : Same H0 H
  fresh : H0 p = none
  stm : IsStm H p
theorem Sd.mk0 {H H' : Hp} {p : Addr} {a b m : Int} (h : H p = none) (s : Same H H') (e : H' p = some (.lst [.int a, .int b, .int m])) : Sd H H' p := ⟨s, h, a, b, m, e⟩
theorem Sd.mono {H0 H H' : Hp} {p : Addr} (S : Sd H0 H p) (s : Same H H') : Sd H0 H' p := by
  obtain ⟨a, b, m, e⟩ := S.stm
  exact ⟨S.same.trans s, S.fresh, a, b, m, s _ _ e⟩
theorem nx {H0 H : Hp} {p : Addr} {z : Int} {Q : VK} {E : XK} (S : Sd H0 H p) (hz : 0 < z) (hz2 : z.natAbs < 2 ^ 1000) (q : ∀ v H', 0 ≤ v → v < z → Sd H0 H' p → (∀ b, b ≠ p → H' b = H b) → Q (.int v) H') : sp__law_next [.ref p, .int z] H Q E := by
  refine ⟨p, z, rfl, S.stm, hz, hz2, fun v a b m h0 h1 => q v _ h0 h1 ⟨fun c o e => ?_, S.fresh, a, b, m, upd_same⟩ fun b hb => upd_ne hb⟩
  rw [upd_ne (ne_of_none e S.fresh)]
  exact S.same c o e
theorem Sd.ext {H0 H : Hp} {p q : Addr} {o : HO} (S : Sd H0 H p) (h : H q = none) : Sd H0 (upd H q o) p := by
  obtain ⟨a, b, m, hp⟩ := S.stm
  exact ⟨S.same.trans (same_upd h), S.fresh, a, b, m, by rw [upd_ne (ne_of_none hp h)]; exact hp⟩
theorem kp_refl {p : Addr} {H : Hp} : Kp p H H := fun _ _ _ e => e
theorem _root_.Z.Kp.trans' {p : Addr} {H H1 H2 : Hp} (a : Kp p H H1) (b : Kp p H1 H2) : Kp p H H2 := fun c o h e => b c o h (a c o h e)
theorem kp_eq {p : Addr} {H H' : Hp} (k : ∀ b, b ≠ p → H' b = H b) : Kp p H H' := fun b o h e => by
  rw [k b h]
  exact e
theorem kp_of {p : Addr} {H H' : Hp} (s : Same H H') : Kp p H H' := fun b x _ e => s b x e
theorem Sd.ne {H0 H : Hp} {p q : Addr} {xs : List V} (S : Sd H0 H p) (h : H q = some (.tup xs)) : q ≠ p := by
  obtain ⟨_, _, _, e⟩ := S.stm
  exact ne_of h e (by intro z; cases z)
theorem Sd.ne0 {H0 H : Hp} {p q : Addr} (S : Sd H0 H p) (h : H q = none) : q ≠ p := by
  obtain ⟨_, _, _, e⟩ := S.stm
  exact Ne.symm (ne_of_none e h)
theorem lt400 {a : Nat} (h : a < 2 ^ 100) : a < 2 ^ 400 := Nat.lt_of_lt_of_le h (Nat.pow_le_pow_right (by decide) (by decide))
theorem kp_sd {H0 H H' : Hp} {p : Addr} {K : PySem.W.Frag} {v : V} {d : PyData} (S : Sd H0 H p) (k : Kp p H H') (t : tupOnly d = true) (h : Dp K H v d) : Dp K H' v d := by
  obtain ⟨a, b, m, e⟩ := S.stm
  exact dp_kp k e t h
/-! ### the four operations, and comparing -/
def Bg (r : Rat) : Prop := r.num.natAbs < 2 ^ 200 ∧ r.den < 2 ^ 200
theorem _root_.Z.Bd.bg {r : Rat} {p q : Nat} (h : Bd r p q) (h1 : p < 2 ^ 200) (h2 : q < 2 ^ 200) : Bg r := ⟨Nat.lt_of_le_of_lt h.1 h1, Nat.lt_of_le_of_lt h.2 h2⟩
theorem fits_bg {r : Rat} (h : fitsQ r) : Bg r := by
  unfold fitsQ lim at h
  unfold Bg
  omega
theorem mul600 {a b : Int} (ha : a.natAbs < 2 ^ 200) (hb : b.natAbs < 2 ^ 200) : (a * b).natAbs < 2 ^ 400 := wide_lt ha hb
theorem add600 {a b : Int} (ha : a.natAbs < 2 ^ 400) (hb : b.natAbs < 2 ^ 400) : (a + b).natAbs < 2 ^ 1000 := by
  have h1 : (a + b).natAbs ≤ a.natAbs + b.natAbs := Int.natAbs_add_le a b
  have h2 : (2 : Nat) ^ 400 + 2 ^ 400 ≤ 2 ^ 1000 := by
    rw [show (2 : Nat) ^ 400 + 2 ^ 400 = 2 ^ 401 by rw [← Nat.two_mul, ← Nat.pow_succ']]
    exact Nat.pow_le_pow_right (by decide) (by decide)
  omega
theorem sub600 {a b : Int} (ha : a.natAbs < 2 ^ 400) (hb : b.natAbs < 2 ^ 400) : (a - b).natAbs < 2 ^ 1000 := by
  rw [Int.sub_eq_add_neg]
  exact add600 ha (by rw [Int.natAbs_neg]; exact hb)
theorem nat200 {n : Nat} (h : n < 2 ^ 200) : ((n : Int)).natAbs < 2 ^ 200 := by omega
def sp_op (K : PySem.W.Frag) (A : Nat → Addr) (f : Rat → Rat → Rat) : Sp := fun vs H Q E => ∃ (v w : V) (a b : Rat), vs = [v, w] ∧ Dp K H v (qD a) ∧ Dp K H w (qD b) ∧ Bg a ∧ Bg b ∧ OutQ K A (f a b) H Q E
def sp_divide (K : PySem.W.Frag) (A : Nat → Addr) : Sp := fun vs H Q E => ∃ (v w : V) (a b : Rat), vs = [v, w] ∧ Dp K H v (qD a) ∧ Dp K H w (qD b) ∧ Bg a ∧ Bg b ∧ (b = 0 → E (.ref (A 2)) none H) ∧ (b ≠ 0 → OutQ K A (a / b) H Q E)
theorem rat_use {K : PySem.W.Frag} {A : Nat → Addr} {n d : Int} {H : Hp} {Q : VK} {E : XK} (hn : n.natAbs < 2 ^ 1000) (hd : d.natAbs < 2 ^ 1000) (h0 : d ≠ 0) (k : OutQ K A (Rat.divInt n d) H Q E) : sp_ratio K A [.int n, .int d] H Q E := ⟨n, d, rfl, hn, hd, fun z => absurd z h0, fun _ => k⟩
def cmpQ (a b : Rat) : Int := if a < b then -1 else if b < a then 1 else 0
def sp_compare (K : PySem.W.Frag) : Sp := fun vs H Q _ => ∃ (v w : V) (a b : Rat), vs = [v, w] ∧ Dp K H v (qD a) ∧ Dp K H w (qD b) ∧ Bg a ∧ Bg b ∧ Q (.int (cmpQ a b)) H
section
theorem ok_add {P : Program} {w : World} {K : PySem.W.Frag} {mg : Str → Option Value} {base : Heap} {A : Nat → Addr} {D : Nat → FuncData} (T : Txt K mg A D) : FnOk P w K mg base (L2.CX P w) 2 (A 4) (D 4) ["a", "b"] (sp_op K A (· + ·)) := by
  refine T.F_add.okX sc_add (fun vs H Q E h => ?_) (fun cdv A' outer s H vs Q E hr h => ?_)
  · obtain ⟨v, w', a, b, rfl, _⟩ := h
    rfl
  obtain ⟨_, _, a, b, rfl, ha, hb, ga, gb, q⟩ := h
  obtain ⟨p, rfl, hp⟩ := dp_q ha
  obtain ⟨p2, rfl, hp2⟩ := dp_q hb
  refine ⟨_, (pss_one (ps_ret (pe_call (ok_ratio T) (hr.mono (by decide)) (by rfl) T.m_ratio T.F_ratio.kp T.b_ratio .nil (passes_call (takes_of rfl rfl rfl rfl) (fun _ _ _ _ h => h)) (pa_cons (pe_op op_add (pe_op op_mulW (pe_ix ix_tup (pv 0) pe_int (fun _ _ => rfl)) (pe_ix ix_tup (pv 1) pe_int (fun _ _ => rfl))) (pe_op op_mulW (pe_ix ix_tup (pv 1) pe_int (fun _ _ => rfl)) (pe_ix ix_tup (pv 0) pe_int (fun _ _ => rfl)))) (pa_cons (pe_op op_mulW (pe_ix ix_tup (pv 0) pe_int (fun _ _ => rfl)) (pe_ix ix_tup (pv 1) pe_int (fun _ _ => rfl))) pa_nil))))), ?_⟩
  walk_at "z"
  refine z_I (wide_mul ga.1 (nat200 gb.2) (by decide) (by decide) (by decide)) ?_
  walk_at "z"
  refine z_I (wide_mul gb.1 (nat200 ga.2) (by decide) (by decide) (by decide)) ?_
  walk_at "z"
  refine z_I (wide_mul (nat200 ga.2) (nat200 gb.2) (by decide) (by decide) (by decide)) ?_
  walk_at "z"
  have q : OutQ K A (a + b) H Q E := q
  rw [show a + b = _ from q_add a b] at q
  exact rat_use (add600 (mul600 ga.1 (nat200 gb.2)) (mul600 gb.1 (nat200 ga.2))) (lt4 (mul600 (nat200 ga.2) (nat200 gb.2))) (q_dd a b) q
end

section
theorem ok_subtract {P : Program} {w : World} {K : PySem.W.Frag} {mg : Str → Option Value} {base : Heap} {A : Nat → Addr} {D : Nat → FuncData} (T : Txt K mg A D) : FnOk P w K mg base (L2.CX P w) 2 (A 5) (D 5) ["a", "b"] (sp_op K A (· - ·)) := by
  refine T.F_subtract.okX sc_subtract (fun vs H Q E h => ?_) (fun cdv A' outer s H vs Q E hr h => ?_)
  · obtain ⟨v, w', a, b, rfl, _⟩ := h
    rfl
  obtain ⟨_, _, a, b, rfl, ha, hb, ga, gb, q⟩ := h
  obtain ⟨p, rfl, hp⟩ := dp_q ha
  obtain ⟨p2, rfl, hp2⟩ := dp_q hb
  refine ⟨_, (pss_one (ps_ret (pe_call (ok_ratio T) (hr.mono (by decide)) (by rfl) T.m_ratio T.F_ratio.kp T.b_ratio .nil (passes_call (takes_of rfl rfl rfl rfl) (fun _ _ _ _ h => h)) (pa_cons (pe_op op_sub (pe_op op_mulW (pe_ix ix_tup (pv 0) pe_int (fun _ _ => rfl)) (pe_ix ix_tup (pv 1) pe_int (fun _ _ => rfl))) (pe_op op_mulW (pe_ix ix_tup (pv 1) pe_int (fun _ _ => rfl)) (pe_ix ix_tup (pv 0) pe_int (fun _ _ => rfl)))) (pa_cons (pe_op op_mulW (pe_ix ix_tup (pv 0) pe_int (fun _ _ => rfl)) (pe_ix ix_tup (pv 1) pe_int (fun _ _ => rfl))) pa_nil))))), ?_⟩
  walk_at "z"
  refine z_I (wide_mul ga.1 (nat200 gb.2) (by decide) (by decide) (by decide)) ?_
  walk_at "z"
  refine z_I (wide_mul gb.1 (nat200 ga.2) (by decide) (by decide) (by decide)) ?_
  walk_at "z"
  refine z_I (wide_mul (nat200 ga.2) (nat200 gb.2) (by decide) (by decide) (by decide)) ?_
  walk_at "z"
  have q : OutQ K A (a - b) H Q E := q
  rw [show a - b = _ from q_sub a b] at q
  exact rat_use (sub600 (mul600 ga.1 (nat200 gb.2)) (mul600 gb.1 (nat200 ga.2))) (lt4 (mul600 (nat200 ga.2) (nat200 gb.2))) (q_dd a b) q
end

section
theorem ok_multiply {P : Program} {w : World} {K : PySem.W.Frag} {mg : Str → Option Value} {base : Heap} {A : Nat → Addr} {D : Nat → FuncData} (T : Txt K mg A D) : FnOk P w K mg base (L2.CX P w) 2 (A 6) (D 6) ["a", "b"] (sp_op K A (· * ·)) := by
  refine T.F_multiply.okX sc_multiply (fun vs H Q E h => ?_) (fun cdv A' outer s H vs Q E hr h => ?_)
  · obtain ⟨v, w', a, b, rfl, _⟩ := h
    rfl
  obtain ⟨_, _, a, b, rfl, ha, hb, ga, gb, q⟩ := h
  obtain ⟨p, rfl, hp⟩ := dp_q ha
  obtain ⟨p2, rfl, hp2⟩ := dp_q hb
  refine ⟨_, (pss_one (ps_ret (pe_call (ok_ratio T) (hr.mono (by decide)) (by rfl) T.m_ratio T.F_ratio.kp T.b_ratio .nil (passes_call (takes_of rfl rfl rfl rfl) (fun _ _ _ _ h => h)) (pa_cons (pe_op op_mulW (pe_ix ix_tup (pv 0) pe_int (fun _ _ => rfl)) (pe_ix ix_tup (pv 1) pe_int (fun _ _ => rfl))) (pa_cons (pe_op op_mulW (pe_ix ix_tup (pv 0) pe_int (fun _ _ => rfl)) (pe_ix ix_tup (pv 1) pe_int (fun _ _ => rfl))) pa_nil))))), ?_⟩
  walk_at "z"
  refine z_I (wide_mul ga.1 gb.1 (by decide) (by decide) (by decide)) ?_
  walk_at "z"
  refine z_I (wide_mul (nat200 ga.2) (nat200 gb.2) (by decide) (by decide) (by decide)) ?_
  walk_at "z"
  have q : OutQ K A (a * b) H Q E := q
  rw [show a * b = _ from q_mul a b] at q
  exact rat_use (lt4 (mul600 ga.1 gb.1)) (lt4 (mul600 (nat200 ga.2) (nat200 gb.2))) (q_dd a b) q
end


section
theorem ok_compare {P : Program} {w : World} {K : PySem.W.Frag} {mg : Str → Option Value} {base : Heap} {A : Nat → Addr} {D : Nat → FuncData} (T : Txt K mg A D) : FnOk P w K mg base (L2.CX P w) 1 (A 7) (D 7) ["a", "b"] (sp_compare K) := by
  refine T.F_compare.okX sc_compare (fun vs H Q E h => ?_) (fun cdv A' outer s H vs Q E hr h => ?_)
  · obtain ⟨v, w', a, b, rfl, _⟩ := h
    rfl
  obtain ⟨_, _, a, b, rfl, ha, hb, ga, gb, q⟩ := h
  obtain ⟨p, rfl, hp⟩ := dp_q ha
  obtain ⟨p2, rfl, hp2⟩ := dp_q hb
  refine ⟨_, (pss_cons (ps_set (i := 2) sc_compare.nd rfl (.inl rfl) (pe_op op_mulW (pe_ix ix_tup (pv 0) pe_int (fun _ _ => rfl)) (pe_ix ix_tup (pv 1) pe_int (fun _ _ => rfl))))
  (pss_cons (ps_set (i := 3) sc_compare.nd rfl (.inl rfl) (pe_op op_mulW (pe_ix ix_tup (pv 1) pe_int (fun _ _ => rfl)) (pe_ix ix_tup (pv 0) pe_int (fun _ _ => rfl))))
  (pss_cons (ps_if (pt_cmpR op_lt (pv 2) (pv 3) (nomark _))
  (pss_one (ps_ret (pe_un un_neg pe_int)))
  pss_nil)
  (pss_cons (ps_if (pt_cmpR op_gt (pv 2) (pv 3) (nomark _))
  (pss_one (ps_ret pe_int))
  pss_nil)
  (pss_one (ps_ret pe_int)))))), ?_⟩
  walk_at "z"
  refine z_I (wide_mul ga.1 (nat200 gb.2) (by decide) (by decide) (by decide)) ?_
  walk_at "z"
  refine z_I (wide_mul gb.1 (nat200 ga.2) (by decide) (by decide) (by decide)) ?_
  walk_at "z"
  unfold cmpQ at q
  refine z_if (fun c => ?_) (fun c => ?_)
  · walk_at "z"
    rw [if_pos ((Rat.lt_iff a b).mpr c)] at q
    exact q
  walk_at "z"
  rw [if_neg (fun z => c ((Rat.lt_iff a b).mp z))] at q
  refine z_if (fun c2 => ?_) (fun c2 => ?_)
  · walk_at "z"
    rw [if_pos ((Rat.lt_iff b a).mpr c2)] at q
    exact q
  · walk_at "z"
    rw [if_neg (fun z => c2 ((Rat.lt_iff b a).mp z))] at q
    exact q
end

/-! ### points and transforms -/
def pD (x y : Rat) : PyData := .tuple [qD x, qD y]
def tD (tx ty xx xy yx yy : Rat) : PyData := .tuple [qD tx, qD ty, qD xx, qD xy, qD yx, qD yy]
def Bl (r : Rat) : Prop := r.num.natAbs < 2 ^ 190 ∧ r.den < 2 ^ 190
theorem _root_.Z.Bd.bl {r : Rat} {p q : Nat} (h : Bd r p q) (h1 : p < 2 ^ 190) (h2 : q < 2 ^ 190) : Bl r := ⟨Nat.lt_of_le_of_lt h.1 h1, Nat.lt_of_le_of_lt h.2 h2⟩
theorem Bl.mul {a b : Int} (ha : a.natAbs < 2 ^ 190) (hb : b.natAbs < 2 ^ 190) : (a * b).natAbs < 2 ^ 380 := wide_lt ha hb
theorem lt380 {a : Nat} (h : a < 2 ^ 380) : a < 2 ^ 400 := Nat.lt_of_lt_of_le h (Nat.pow_le_pow_right (by decide) (by decide))
theorem Bl.add {a b : Int} (ha : a.natAbs < 2 ^ 380) (hb : b.natAbs < 2 ^ 380) : (a + b).natAbs < 2 ^ 400 := by
  have h1 : (a + b).natAbs ≤ a.natAbs + b.natAbs := Int.natAbs_add_le a b
  have h2 : (2 : Nat) ^ 380 + 2 ^ 380 ≤ 2 ^ 400 := by
    rw [show (2 : Nat) ^ 380 + 2 ^ 380 = 2 ^ 381 by rw [← Nat.two_mul, ← Nat.pow_succ']]
    exact Nat.pow_le_pow_right (by decide) (by decide)
  omega
theorem Bl.sub {a b : Int} (ha : a.natAbs < 2 ^ 380) (hb : b.natAbs < 2 ^ 380) : (a - b).natAbs < 2 ^ 400 := by
  rw [Int.sub_eq_add_neg]
  exact Bl.add ha (by rw [Int.natAbs_neg]; exact hb)
theorem nat190 {n : Nat} (h : n < 2 ^ 190) : ((n : Int)).natAbs < 2 ^ 190 := by omega
/-- the law's own operations -/
def sp_lop (K : PySem.W.Frag) (f : Rat → Rat → Rat) : Sp := fun vs H Q _ => ∃ (v w : V) (a b : Rat), vs = [v, w] ∧ Dp K H v (qD a) ∧ Dp K H w (qD b) ∧ Bl a ∧ Bl b ∧ RetD K H (qD (f a b)) Q
section
theorem ok__law_sum {P : Program} {w : World} {K : PySem.W.Frag} {mg : Str → Option Value} {base : Heap} {A : Nat → Addr} {D : Nat → FuncData} (T : Txt K mg A D) : FnOk P w K mg base (L2.CX P w) 2 (A 23) (D 23) ["a", "b"] (sp_lop K (· + ·)) := by
  refine T.F__law_sum.okX sc__law_sum (fun vs H Q E h => ?_) (fun cdv A' outer s H vs Q E hr h => ?_)
  · obtain ⟨v, w', a, b, rfl, _⟩ := h
    rfl
  obtain ⟨_, _, a, b, rfl, ha, hb, ga, gb, q⟩ := h
  obtain ⟨p, rfl, hp⟩ := dp_q ha
  obtain ⟨p2, rfl, hp2⟩ := dp_q hb
  refine ⟨_, (pss_one (ps_ret (pe_call (ok__law_ratio T) (hr.mono (by decide)) (by rfl) T.m__law_ratio T.F__law_ratio.kp T.b__law_ratio .nil (passes_call (takes_of rfl rfl rfl rfl) (fun _ _ _ _ h => h)) (pa_cons (pe_op op_add (pe_op op_mulW (pe_ix ix_tup (pv 0) pe_int (fun _ _ => rfl)) (pe_ix ix_tup (pv 1) pe_int (fun _ _ => rfl))) (pe_op op_mulW (pe_ix ix_tup (pv 1) pe_int (fun _ _ => rfl)) (pe_ix ix_tup (pv 0) pe_int (fun _ _ => rfl)))) (pa_cons (pe_op op_mulW (pe_ix ix_tup (pv 0) pe_int (fun _ _ => rfl)) (pe_ix ix_tup (pv 1) pe_int (fun _ _ => rfl))) pa_nil))))), ?_⟩
  walk_at "z"
  refine z_I (wide_mul ga.1 (nat190 gb.2) (by decide) (by decide) (by decide)) ?_
  walk_at "z"
  refine z_I (wide_mul gb.1 (nat190 ga.2) (by decide) (by decide) (by decide)) ?_
  walk_at "z"
  refine z_I (wide_mul (nat190 ga.2) (nat190 gb.2) (by decide) (by decide) (by decide)) ?_
  walk_at "z"
  have q : RetD K H (qD (a + b)) Q := q
  rw [q_add a b] at q
  exact ⟨_, _, rfl, q_dd a b, Bl.add (Bl.mul ga.1 (nat190 gb.2)) (Bl.mul gb.1 (nat190 ga.2)), lt380 (Bl.mul (nat190 ga.2) (nat190 gb.2)), q⟩

theorem ok__law_difference {P : Program} {w : World} {K : PySem.W.Frag} {mg : Str → Option Value} {base : Heap} {A : Nat → Addr} {D : Nat → FuncData} (T : Txt K mg A D) : FnOk P w K mg base (L2.CX P w) 2 (A 24) (D 24) ["a", "b"] (sp_lop K (· - ·)) := by
  refine T.F__law_difference.okX sc__law_difference (fun vs H Q E h => ?_) (fun cdv A' outer s H vs Q E hr h => ?_)
  · obtain ⟨v, w', a, b, rfl, _⟩ := h
    rfl
  obtain ⟨_, _, a, b, rfl, ha, hb, ga, gb, q⟩ := h
  obtain ⟨p, rfl, hp⟩ := dp_q ha
  obtain ⟨p2, rfl, hp2⟩ := dp_q hb
  refine ⟨_, (pss_one (ps_ret (pe_call (ok__law_ratio T) (hr.mono (by decide)) (by rfl) T.m__law_ratio T.F__law_ratio.kp T.b__law_ratio .nil (passes_call (takes_of rfl rfl rfl rfl) (fun _ _ _ _ h => h)) (pa_cons (pe_op op_sub (pe_op op_mulW (pe_ix ix_tup (pv 0) pe_int (fun _ _ => rfl)) (pe_ix ix_tup (pv 1) pe_int (fun _ _ => rfl))) (pe_op op_mulW (pe_ix ix_tup (pv 1) pe_int (fun _ _ => rfl)) (pe_ix ix_tup (pv 0) pe_int (fun _ _ => rfl)))) (pa_cons (pe_op op_mulW (pe_ix ix_tup (pv 0) pe_int (fun _ _ => rfl)) (pe_ix ix_tup (pv 1) pe_int (fun _ _ => rfl))) pa_nil))))), ?_⟩
  walk_at "z"
  refine z_I (wide_mul ga.1 (nat190 gb.2) (by decide) (by decide) (by decide)) ?_
  walk_at "z"
  refine z_I (wide_mul gb.1 (nat190 ga.2) (by decide) (by decide) (by decide)) ?_
  walk_at "z"
  refine z_I (wide_mul (nat190 ga.2) (nat190 gb.2) (by decide) (by decide) (by decide)) ?_
  walk_at "z"
  have q : RetD K H (qD (a - b)) Q := q
  rw [q_sub a b] at q
  exact ⟨_, _, rfl, q_dd a b, Bl.sub (Bl.mul ga.1 (nat190 gb.2)) (Bl.mul gb.1 (nat190 ga.2)), lt380 (Bl.mul (nat190 ga.2) (nat190 gb.2)), q⟩

theorem ok__law_product {P : Program} {w : World} {K : PySem.W.Frag} {mg : Str → Option Value} {base : Heap} {A : Nat → Addr} {D : Nat → FuncData} (T : Txt K mg A D) : FnOk P w K mg base (L2.CX P w) 2 (A 25) (D 25) ["a", "b"] (sp_lop K (· * ·)) := by
  refine T.F__law_product.okX sc__law_product (fun vs H Q E h => ?_) (fun cdv A' outer s H vs Q E hr h => ?_)
  · obtain ⟨v, w', a, b, rfl, _⟩ := h
    rfl
  obtain ⟨_, _, a, b, rfl, ha, hb, ga, gb, q⟩ := h
  obtain ⟨p, rfl, hp⟩ := dp_q ha
  obtain ⟨p2, rfl, hp2⟩ := dp_q hb
  refine ⟨_, (pss_one (ps_ret (pe_call (ok__law_ratio T) (hr.mono (by decide)) (by rfl) T.m__law_ratio T.F__law_ratio.kp T.b__law_ratio .nil (passes_call (takes_of rfl rfl rfl rfl) (fun _ _ _ _ h => h)) (pa_cons (pe_op op_mulW (pe_ix ix_tup (pv 0) pe_int (fun _ _ => rfl)) (pe_ix ix_tup (pv 1) pe_int (fun _ _ => rfl))) (pa_cons (pe_op op_mulW (pe_ix ix_tup (pv 0) pe_int (fun _ _ => rfl)) (pe_ix ix_tup (pv 1) pe_int (fun _ _ => rfl))) pa_nil))))), ?_⟩
  walk_at "z"
  refine z_I (wide_mul ga.1 gb.1 (by decide) (by decide) (by decide)) ?_
  walk_at "z"
  refine z_I (wide_mul (nat190 ga.2) (nat190 gb.2) (by decide) (by decide) (by decide)) ?_
  walk_at "z"
  have q : RetD K H (qD (a * b)) Q := q
  rw [q_mul a b] at q
  exact ⟨_, _, rfl, q_dd a b, lt380 (Bl.mul ga.1 gb.1), lt380 (Bl.mul (nat190 ga.2) (nat190 gb.2)), q⟩

end
theorem lop {K : PySem.W.Frag} {f : Rat → Rat → Rat} {H : Hp} {v w : V} {a b : Rat} {Q : VK} {E : XK} (ha : Dp K H v (qD a)) (hb : Dp K H w (qD b)) (ga : Bl a) (gb : Bl b) (q : RetD K H (qD (f a b)) Q) : sp_lop K f [v, w] H Q E := ⟨v, w, a, b, rfl, ha, hb, ga, gb, q⟩
theorem opq {K : PySem.W.Frag} {A : Nat → Addr} {f : Rat → Rat → Rat} {H : Hp} {v w : V} {a b : Rat} {Q : VK} {E : XK} (ha : Dp K H v (qD a)) (hb : Dp K H w (qD b)) (ga : Bg a) (gb : Bg b) (hf : fitsQ (f a b)) (q : RetD K H (qD (f a b)) Q) : sp_op K A f [v, w] H Q E :=
  ⟨v, w, a, b, rfl, ha, hb, ga, gb, fun n => absurd hf n, fun _ => q⟩
/-- the point that a transform moves a point to -/
def aX (tx xx xy x y : Rat) : Rat := tx + (xx * x + xy * y)
def sp__law_applied (K : PySem.W.Frag) : Sp := fun vs H Q _ => ∃ (v w : V) (tx ty xx xy yx yy x y : Rat), vs = [v, w] ∧ Dp K H v (tD tx ty xx xy yx yy) ∧ Dp K H w (pD x y) ∧ Bl tx ∧ Bl ty ∧ Bl xx ∧ Bl xy ∧ Bl yx ∧ Bl yy ∧ Bl x ∧ Bl y ∧
  Bl (xx * x) ∧ Bl (xy * y) ∧ Bl (yx * x) ∧ Bl (yy * y) ∧ Bl (xx * x + xy * y) ∧ Bl (yx * x + yy * y) ∧ RetD K H (pD (aX tx xx xy x y) (aX ty yx yy x y)) Q
theorem dp_p {K : PySem.W.Frag} {H : Hp} {p : Addr} {v w : V} {x y : Rat} (h : H p = some (.tup [v, w])) (hx : Dp K H v (qD x)) (hy : Dp K H w (qD y)) : Dp K H (.ref p) (pD x y) := dp_mk h (.cons hx (.cons hy .nil))
section

end
/-! ### drawn numbers, points, transforms -/
def sp__law_small (K : PySem.W.Frag) : Sp := fun vs H Q _ => ∃ (p : Addr) (H0 : Hp), vs = [.ref p] ∧ Sd H0 H p ∧ ∀ (v : V) (r : Rat) (H' : Hp), Bd r 50 6 → Sd H0 H' p → Kp p H H' → Dp K H' v (qD r) → Q v H'
def sp__law_point (K : PySem.W.Frag) : Sp := fun vs H Q _ => ∃ (p : Addr) (H0 : Hp), vs = [.ref p] ∧ Sd H0 H p ∧ ∀ (v : V) (x y : Rat) (H' : Hp), Bd x 50 6 → Bd y 50 6 → Sd H0 H' p → Kp p H H' → Dp K H' v (pD x y) → Q v H'
theorem q_int (n : Int) : qD (n : Rat) = .tuple [.int n, .int 1] := by
  unfold qD
  rw [Rat.num_intCast, Rat.den_intCast]
  rfl
section
theorem ok__law_small {P : Program} {w : World} {K : PySem.W.Frag} {mg : Str → Option Value} {base : Heap} {A : Nat → Addr} {D : Nat → FuncData} (T : Txt K mg A D) : FnOk P w K mg base (L2.CX P w) 2 (A 26) (D 26) ["stream"] (sp__law_small K) := by
  refine T.F__law_small.okX sc__law_small (fun vs H Q E h => ?_) (fun cdv A' outer s H vs Q E hr h => ?_)
  · obtain ⟨p, H0, rfl, _⟩ := h
    rfl
  obtain ⟨p, H0, rfl, S, q⟩ := h
  refine ⟨_, (pss_cons (ps_if (pt_cmpR op_eq (pe_call (ok__law_next T) (hr.mono (by decide)) (by rfl) T.m__law_next T.F__law_next.kp T.b__law_next .nil (passes_call (takes_of rfl rfl rfl rfl) (fun _ _ _ _ h => h)) (pa_cons (pv 0) (pa_cons pe_int pa_nil))) pe_int (nomark _))
  (pss_one (ps_ret (pe_tup (pa_cons (pe_op op_sub (pe_call (ok__law_next T) (hr.mono (by decide)) (by rfl) T.m__law_next T.F__law_next.kp T.b__law_next .nil (passes_call (takes_of rfl rfl rfl rfl) (fun _ _ _ _ h => h)) (pa_cons (pv 0) (pa_cons pe_int pa_nil))) pe_int) (pa_cons pe_int pa_nil)))))
  pss_nil)
  (pss_one (ps_ret (pe_call (ok__law_ratio T) (hr.mono (by decide)) (by rfl) T.m__law_ratio T.F__law_ratio.kp T.b__law_ratio .nil (passes_call (takes_of rfl rfl rfl rfl) (fun _ _ _ _ h => h)) (pa_cons (pe_op op_sub (pe_call (ok__law_next T) (hr.mono (by decide)) (by rfl) T.m__law_next T.F__law_next.kp T.b__law_next .nil (passes_call (takes_of rfl rfl rfl rfl) (fun _ _ _ _ h => h)) (pa_cons (pv 0) (pa_cons pe_int pa_nil))) pe_int) (pa_cons (pe_op op_add (pe_call (ok__law_next T) (hr.mono (by decide)) (by rfl) T.m__law_next T.F__law_next.kp T.b__law_next .nil (passes_call (takes_of rfl rfl rfl rfl) (fun _ _ _ _ h => h)) (pa_cons (pv 0) (pa_cons pe_int pa_nil))) pe_int) pa_nil)))))), ?_⟩
  walk_at "z"
  refine nx S (by decide) (lt1000 (by decide)) fun k H1 k0 k1 S1 e1 => ?_
  walk_at "z"
  refine z_if (fun c => ?_) (fun c => ?_)
  · walk_at "z"
    refine nx S1 (by decide) (lt1000 (by decide)) fun n H2 n0 n1 S2 e2 => ?_
    walk_at "z"
    intro p9 H9 _ s9 h9
    refine q _ ((n - 20 : Int) : Rat) H9 ⟨?_, ?_⟩ (S2.mono s9) (((kp_eq e1).trans' (kp_eq e2)).trans' (kp_of s9)) ?_
    · rw [Rat.num_intCast]
      omega
    · rw [Rat.den_intCast]
      decide
    · rw [q_int]
      exact dp_mk h9 (.cons (.int _) (.cons (.int _) .nil))
  · walk_at "z"
    refine nx S1 (by decide) (lt1000 (by decide)) fun n H2 n0 n1 S2 e2 => ?_
    walk_at "z"
    refine nx S2 (by decide) (lt1000 (by decide)) fun d H3 d0 d1 S3 e3 => ?_
    walk_at "z"
    refine ⟨_, _, rfl, by omega, lt400 (by omega), lt400 (by omega), fun v H9 s9 h9 => ?_⟩
    have hb := bd_divInt (n := n - 50) (d := d + 1) (by omega)
    exact q _ _ H9 (hb.le (by omega) (by omega)) (S3.mono s9) ((((kp_eq e1).trans' (kp_eq e2)).trans' (kp_eq e3)).trans' (kp_of s9)) h9
theorem ok__law_point {P : Program} {w : World} {K : PySem.W.Frag} {mg : Str → Option Value} {base : Heap} {A : Nat → Addr} {D : Nat → FuncData} (T : Txt K mg A D) : FnOk P w K mg base (L2.CX P w) 3 (A 27) (D 27) ["stream"] (sp__law_point K) := by
  refine T.F__law_point.okX sc__law_point (fun vs H Q E h => ?_) (fun cdv A' outer s H vs Q E hr h => ?_)
  · obtain ⟨p, H0, rfl, _⟩ := h
    rfl
  obtain ⟨p, H0, rfl, S, q⟩ := h
  refine ⟨_, (pss_cons (ps_set (i := 1) sc__law_point.nd rfl (.inl rfl) (pe_call (ok__law_small T) (hr.mono (by decide)) (by rfl) T.m__law_small T.F__law_small.kp T.b__law_small .nil (passes_call (takes_of rfl rfl rfl rfl) (fun _ _ _ _ h => h)) (pa_cons (pv 0) pa_nil)))
  (pss_one (ps_ret (pe_tup (pa_cons (pv 1) (pa_cons (pe_call (ok__law_small T) (hr.mono (by decide)) (by rfl) T.m__law_small T.F__law_small.kp T.b__law_small .nil (passes_call (takes_of rfl rfl rfl rfl) (fun _ _ _ _ h => h)) (pa_cons (pv 0) pa_nil)) pa_nil)))))), ?_⟩
  walk_at "z"
  refine ⟨p, H0, rfl, S, fun v x H1 bx S1 k1 h1 => ?_⟩
  walk_at "z"
  refine ⟨p, H0, rfl, S1, fun w y H2 by' S2 k2 h2 => ?_⟩
  walk_at "z"
  intro p9 H9 _ s9 h9
  exact q _ x y H9 bx by' (S2.mono s9) ((k1.trans' k2).trans' (kp_of s9)) (dp_p h9 (dp_mono s9 (kp_sd S1 k2 rfl h1)) (dp_mono s9 h2))
end
/-! ### between two points -/
def btw (p q f : Rat) : Rat := p + f * (q - p)
def Fb (p q f : Rat) : Prop := Bg p ∧ Bg q ∧ Bg f ∧ fitsQ (q - p) ∧ fitsQ (f * (q - p)) ∧ fitsQ (btw p q f)
def sp_part_between (K : PySem.W.Frag) : Sp := fun vs H Q _ => ∃ (v w u : V) (p q f : Rat), vs = [v, w, u] ∧ Dp K H v (qD p) ∧ Dp K H w (qD q) ∧ Dp K H u (qD f) ∧ Fb p q f ∧ RetD K H (qD (btw p q f)) Q
def sp_between (K : PySem.W.Frag) : Sp := fun vs H Q _ => ∃ (v w u : V) (p p' q q' f : Rat), vs = [v, w, u] ∧ Dp K H v (pD p p') ∧ Dp K H w (pD q q') ∧ Dp K H u (qD f) ∧ Fb p q f ∧ Fb p' q' f ∧ RetD K H (pD (btw p q f) (btw p' q' f)) Q
theorem zb_btw {p q f : Rat} {N M L R : Nat} (h : Zb p N M) (h' : Zb q N M) (hf : Zb f L R) : Zb (btw p q f) (N * L) (M * L + R * (M + M)) := by
  have a := zb_mul hf (zb_sub h' h)
  rw [Nat.mul_comm L N] at a
  exact zb_add (zb_up L h) a
theorem zfits {a : Rat} {N M : Nat} (h : Zb a N M) (h0 : N ≠ 0) (h1 : M ≤ 1000000000000000000) (h2 : N ≤ 1000000000000000000) : fitsQ a := (h.bd h0).fits h1 h2
theorem fb_of {p q f : Rat} {N M L R : Nat} (h : Zb p N M) (h' : Zb q N M) (hf : Zb f L R) (h0 : N ≠ 0) (h1 : L ≠ 0) (n1 : N * L ≤ 1000000000000000000) (n2 : M * L + R * (M + M) ≤ 1000000000000000000) (n3 : R ≤ 1000000000000000000) (n4 : M + M ≤ 1000000000000000000) : Fb p q f := by
  have l1 : N ≤ N * L := Nat.le_mul_of_pos_right _ (by omega)
  have l2 : L ≤ N * L := Nat.le_mul_of_pos_left _ (by omega)
  have h2 : L * N ≠ 0 := Nat.mul_ne_zero h1 h0
  have h3 : N * L ≠ 0 := Nat.mul_ne_zero h0 h1
  refine ⟨fits_bg (zfits h h0 (by omega) (by omega)), fits_bg (zfits h' h0 (by omega) (by omega)), fits_bg (zfits hf h1 n3 (by omega)), zfits (zb_sub h' h) h0 n4 (by omega), zfits (zb_mul hf (zb_sub h' h)) h2 (by omega) (by rw [Nat.mul_comm]; exact n1), zfits (zb_btw h h' hf) h3 n2 n1⟩
section
theorem ok_part_between {P : Program} {w : World} {K : PySem.W.Frag} {mg : Str → Option Value} {base : Heap} {A : Nat → Addr} {D : Nat → FuncData} (T : Txt K mg A D) : FnOk P w K mg base (L2.CX P w) 3 (A 11) (D 11) ["p", "q", "fraction"] (sp_part_between K) := by
  refine T.F_part_between.okX sc_part_between (fun vs H Q E h => ?_) (fun cdv A' outer s H vs Q E hr h => ?_)
  · obtain ⟨_, _, _, _, _, _, rfl, _⟩ := h
    rfl
  obtain ⟨_, _, _, p, q', f, rfl, h1, h2, h3, ⟨g1, g2, g3, f1, f2, f3⟩, q⟩ := h
  refine ⟨_, (pss_one (ps_ret (pe_call (ok_add T) (hr.mono (by decide)) (by rfl) T.m_add T.F_add.kp T.b_add .nil (passes_call (takes_of rfl rfl rfl rfl) (fun _ _ _ _ h => h)) (pa_cons (pv 0) (pa_cons (pe_call (ok_multiply T) (hr.mono (by decide)) (by rfl) T.m_multiply T.F_multiply.kp T.b_multiply .nil (passes_call (takes_of rfl rfl rfl rfl) (fun _ _ _ _ h => h)) (pa_cons (pv 2) (pa_cons (pe_call (ok_subtract T) (hr.mono (by decide)) (by rfl) T.m_subtract T.F_subtract.kp T.b_subtract .nil (passes_call (takes_of rfl rfl rfl rfl) (fun _ _ _ _ h => h)) (pa_cons (pv 1) (pa_cons (pv 0) pa_nil))) pa_nil))) pa_nil))))), ?_⟩
  walk_at "z"
  refine opq h2 h1 g2 g1 f1 fun u1 H1 s1 e1 => ?_
  walk_at "z"
  refine opq (dp_mono s1 h3) e1 g3 (fits_bg f1) f2 fun u2 H2 s2 e2 => ?_
  walk_at "z"
  exact opq (dp_mono (s1.trans s2) h1) e2 g1 (fits_bg f2) f3 fun u3 H3 s3 e3 => q _ _ ((s1.trans s2).trans s3) e3
theorem ok_between {P : Program} {w : World} {K : PySem.W.Frag} {mg : Str → Option Value} {base : Heap} {A : Nat → Addr} {D : Nat → FuncData} (T : Txt K mg A D) : FnOk P w K mg base (L2.CX P w) 4 (A 10) (D 10) ["p", "q", "fraction"] (sp_between K) := by
  refine T.F_between.okX sc_between (fun vs H Q E h => ?_) (fun cdv A' outer s H vs Q E hr h => ?_)
  · obtain ⟨_, _, _, _, _, _, _, _, rfl, _⟩ := h
    rfl
  obtain ⟨_, _, _, p, p', q1, q1', f, rfl, h1, h2, h3, c1, c2, q⟩ := h
  obtain ⟨pp, w1, w2, rfl, hS, k1, k2⟩ := dp_t2 h1
  obtain ⟨pq, x1, x2, rfl, hT, l1, l2⟩ := dp_t2 h2
  refine ⟨_, (pss_one (ps_ret (pe_tup (pa_cons (pe_call (ok_part_between T) (hr.mono (by decide)) (by rfl) T.m_part_between T.F_part_between.kp T.b_part_between .nil (passes_call (takes_of rfl rfl rfl rfl) (fun _ _ _ _ h => h)) (pa_cons (pe_ix ix_tup (pv 0) pe_int (fun _ _ => rfl)) (pa_cons (pe_ix ix_tup (pv 1) pe_int (fun _ _ => rfl)) (pa_cons (pv 2) pa_nil)))) (pa_cons (pe_call (ok_part_between T) (hr.mono (by decide)) (by rfl) T.m_part_between T.F_part_between.kp T.b_part_between .nil (passes_call (takes_of rfl rfl rfl rfl) (fun _ _ _ _ h => h)) (pa_cons (pe_ix ix_tup (pv 0) pe_int (fun _ _ => rfl)) (pa_cons (pe_ix ix_tup (pv 1) pe_int (fun _ _ => rfl)) (pa_cons (pv 2) pa_nil)))) pa_nil))))), ?_⟩
  walk_at "z"
  refine ⟨_, _, _, p, q1, f, rfl, k1, l1, h3, c1, fun u1 H1 s1 e1 => ?_⟩
  have hS1 := seqT s1 hS
  have hT1 := seqT s1 hT
  walk_at "z"
  refine ⟨_, _, _, p', q1', f, rfl, dp_mono s1 k2, dp_mono s1 l2, dp_mono s1 h3, c2, fun u2 H2 s2 e2 => ?_⟩
  walk_at "z"
  intro p9 H9 _ s9 h9
  exact q _ _ ((s1.trans s2).trans s9) (dp_p h9 (dp_mono (s2.trans s9) e1) (dp_mono s9 e2))
end
theorem btwP {K : PySem.W.Frag} {H : Hp} {v w u : V} {p p' q q' f : Rat} {Q : VK} {E : XK} {N M L R : Nat} (h1 : Dp K H v (pD p p')) (h2 : Dp K H w (pD q q')) (h3 : Dp K H u (qD f)) (a : Zb p N M) (a' : Zb p' N M) (b : Zb q N M) (b' : Zb q' N M) (hf : Zb f L R)
    (h0 : N ≠ 0) (hL : L ≠ 0) (n1 : N * L ≤ 1000000000000000000) (n2 : M * L + R * (M + M) ≤ 1000000000000000000) (n3 : R ≤ 1000000000000000000) (n4 : M + M ≤ 1000000000000000000) (k : RetD K H (pD (btw p q f) (btw p' q' f)) Q) : sp_between K [v, w, u] H Q E :=
  ⟨v, w, u, p, p', q, q', f, rfl, h1, h2, h3, fb_of a b hf h0 hL n1 n2 n3 n4, fb_of a' b' hf h0 hL n1 n2 n3 n4, k⟩
/-- a part of a cut: the control, the one between controls, the point -/
def c1 (a c f : Rat) : Rat := btw a c f
def c2 (a c d f : Rat) : Rat := btw (btw a c f) (btw c d f) f
def c3 (a c d b f : Rat) : Rat := btw (c2 a c d f) (c2 c d b f) f
def tt (x y z w : Rat) : PyData := .tuple [pD x y, pD z w]
def sp_cut_segment (K : PySem.W.Frag) : Sp := fun vs H Q _ => ∃ (v s w u : V) (ax ay bx by' f : Rat), vs = [v, s, w, u] ∧ Dp K H v (pD ax ay) ∧ Dp K H w (pD bx by') ∧ Dp K H u (qD f) ∧ Zb ax 60 3000 ∧ Zb ay 60 3000 ∧ Zb bx 60 3000 ∧ Zb by' 60 3000 ∧ Zb f 2520 7560 ∧
  ((s = .non ∧ RetD K H (.tuple [.none, pD (btw ax bx f) (btw ay by' f), .none]) Q) ∨
   ∃ (cx cy dx dy : Rat), Dp K H s (tt cx cy dx dy) ∧ Zb cx 60 3000 ∧ Zb cy 60 3000 ∧ Zb dx 60 3000 ∧ Zb dy 60 3000 ∧
     RetD K H (.tuple [tt (c1 ax cx f) (c1 ay cy f) (c2 ax cx dx f) (c2 ay cy dy f), pD (c3 ax cx dx bx f) (c3 ay cy dy by' f), tt (c2 cx dx bx f) (c2 cy dy by' f) (c1 dx bx f) (c1 dy by' f)]) Q)
theorem dp_tt {K : PySem.W.Frag} {H : Hp} {p : Addr} {v w : V} {a b c d : Rat} (h : H p = some (.tup [v, w])) (hx : Dp K H v (pD a b)) (hy : Dp K H w (pD c d)) : Dp K H (.ref p) (tt a b c d) := dp_mk h (.cons hx (.cons hy .nil))
section
theorem ok_cut_segment {P : Program} {w : World} {K : PySem.W.Frag} {mg : Str → Option Value} {base : Heap} {A : Nat → Addr} {D : Nat → FuncData} (T : Txt K mg A D) : FnOk P w K mg base (L2.CX P w) 5 (A 12) (D 12) ["a", "segment", "b", "fraction"] (sp_cut_segment K) := by
  refine T.F_cut_segment.okX sc_cut_segment (fun vs H Q E h => ?_) (fun cdv A' outer s H vs Q E hr h => ?_)
  · obtain ⟨_, _, _, _, _, _, _, _, _, rfl, _⟩ := h
    rfl
  obtain ⟨v, sg, w, u, ax, ay, bx, by', f, rfl, ha, hb, hu, za, za', zb, zb', zf, q⟩ := h
  refine ⟨_, (pss_cons (ps_if (pt_cmpR Z.op_isN1 (pv 1) pe_non (nomark _))
  (pss_one (ps_ret (pe_tup (pa_cons pe_non (pa_cons (pe_call (ok_between T) (hr.mono (by decide)) (by rfl) T.m_between T.F_between.kp T.b_between .nil (passes_call (takes_of rfl rfl rfl rfl) (fun _ _ _ _ h => h)) (pa_cons (pv 0) (pa_cons (pv 2) (pa_cons (pv 3) pa_nil)))) (pa_cons pe_non pa_nil))))))
  pss_nil)
  (pss_cons (ps_asg (pv 1) (pg_tup (by rfl) (pgs_cons (pg_name (i := 4) sc_cut_segment.nd rfl (.inl rfl)) (pgs_cons (pg_name (i := 5) sc_cut_segment.nd rfl (.inl rfl)) pgs_nil))))
  (pss_cons (ps_set (i := 6) sc_cut_segment.nd rfl (.inl rfl) (pe_call (ok_between T) (hr.mono (by decide)) (by rfl) T.m_between T.F_between.kp T.b_between .nil (passes_call (takes_of rfl rfl rfl rfl) (fun _ _ _ _ h => h)) (pa_cons (pv 0) (pa_cons (pv 4) (pa_cons (pv 3) pa_nil)))))
  (pss_cons (ps_set (i := 7) sc_cut_segment.nd rfl (.inl rfl) (pe_call (ok_between T) (hr.mono (by decide)) (by rfl) T.m_between T.F_between.kp T.b_between .nil (passes_call (takes_of rfl rfl rfl rfl) (fun _ _ _ _ h => h)) (pa_cons (pv 4) (pa_cons (pv 5) (pa_cons (pv 3) pa_nil)))))
  (pss_cons (ps_set (i := 8) sc_cut_segment.nd rfl (.inl rfl) (pe_call (ok_between T) (hr.mono (by decide)) (by rfl) T.m_between T.F_between.kp T.b_between .nil (passes_call (takes_of rfl rfl rfl rfl) (fun _ _ _ _ h => h)) (pa_cons (pv 5) (pa_cons (pv 2) (pa_cons (pv 3) pa_nil)))))
  (pss_cons (ps_set (i := 9) sc_cut_segment.nd rfl (.inl rfl) (pe_call (ok_between T) (hr.mono (by decide)) (by rfl) T.m_between T.F_between.kp T.b_between .nil (passes_call (takes_of rfl rfl rfl rfl) (fun _ _ _ _ h => h)) (pa_cons (pv 6) (pa_cons (pv 7) (pa_cons (pv 3) pa_nil)))))
  (pss_cons (ps_set (i := 10) sc_cut_segment.nd rfl (.inl rfl) (pe_call (ok_between T) (hr.mono (by decide)) (by rfl) T.m_between T.F_between.kp T.b_between .nil (passes_call (takes_of rfl rfl rfl rfl) (fun _ _ _ _ h => h)) (pa_cons (pv 7) (pa_cons (pv 8) (pa_cons (pv 3) pa_nil)))))
  (pss_one (ps_ret (pe_tup (pa_cons (pe_tup (pa_cons (pv 6) (pa_cons (pv 9) pa_nil))) (pa_cons (pe_call (ok_between T) (hr.mono (by decide)) (by rfl) T.m_between T.F_between.kp T.b_between .nil (passes_call (takes_of rfl rfl rfl rfl) (fun _ _ _ _ h => h)) (pa_cons (pv 9) (pa_cons (pv 10) (pa_cons (pv 3) pa_nil)))) (pa_cons (pe_tup (pa_cons (pv 10) (pa_cons (pv 8) pa_nil))) pa_nil))))))))))))), ?_⟩
  walk_at "z"
  rcases q with ⟨rfl, q⟩ | ⟨cx, cy, dx, dy, hs, zc, zc', zd, zd', q⟩
  · walk_at "z"
    refine btwP ha hb hu za za' zb zb' zf (by decide) (by decide) (by decide) (by decide) (by decide) (by decide) fun u1 H1 s1 e1 => ?_
    walk_at "z"
    intro p9 H9 _ s9 h9
    exact q _ _ (s1.trans s9) (dp_mk h9 (.cons .non (.cons (dp_mono s9 e1) (.cons .non .nil))))
  obtain ⟨ps, w1, w2, rfl, hS, k1, k2⟩ := dp_t2 hs
  walk_at "z"
  refine btwP ha k1 hu za za' zc zc' zf (by decide) (by decide) (by decide) (by decide) (by decide) (by decide) fun u1 H1 s1 e1 => ?_
  walk_at "z"
  refine btwP (dp_mono s1 k1) (dp_mono s1 k2) (dp_mono s1 hu) zc zc' zd zd' zf (by decide) (by decide) (by decide) (by decide) (by decide) (by decide) fun u2 H2 s2 e2 => ?_
  walk_at "z"
  have z2 := s1.trans s2
  refine btwP (dp_mono z2 k2) (dp_mono z2 hb) (dp_mono z2 hu) zd zd' zb zb' zf (by decide) (by decide) (by decide) (by decide) (by decide) (by decide) fun u3 H3 s3 e3 => ?_
  walk_at "z"
  have z3 := z2.trans s3
  have y1 := zb_btw za zc zf
  have y1' := zb_btw za' zc' zf
  have y2 := zb_btw zc zd zf
  have y2' := zb_btw zc' zd' zf
  have y3 := zb_btw zd zb zf
  have y3' := zb_btw zd' zb' zf
  refine btwP (dp_mono (s2.trans s3) e1) (dp_mono s3 e2) (dp_mono z3 hu) y1 y1' y2 y2' zf (by decide) (by decide) (by decide) (by decide) (by decide) (by decide) fun u4 H4 s4 e4 => ?_
  walk_at "z"
  refine btwP (dp_mono (s3.trans s4) e2) (dp_mono s4 e3) (dp_mono (z3.trans s4) hu) y2 y2' y3 y3' zf (by decide) (by decide) (by decide) (by decide) (by decide) (by decide) fun u5 H5 s5 e5 => ?_
  walk_at "z"
  intro p6 H6 _ s6 h6
  walk_at "z"
  have z46 := s5.trans s6
  have z6 := (z3.trans s4).trans z46
  refine btwP (dp_mono z46 e4) (dp_mono s6 e5) (dp_mono z6 hu) (zb_btw y1 y2 zf) (zb_btw y1' y2' zf) (zb_btw y2 y3 zf) (zb_btw y2' y3' zf) zf (by decide) (by decide) (by decide) (by decide) (by decide) (by decide) fun u7 H7 s7 e7 => ?_
  walk_at "z"
  intro p8 H8 _ s8 h8
  walk_at "z"
  intro p9 H9 _ s9 h9
  have z78 := s7.trans s8
  have z79 := z78.trans s9
  have z49 := (s4.trans z46).trans z79
  exact q _ _ (z6.trans z79) (dp_mk h9 (.cons (dp_mono z79 (dp_tt h6 (dp_mono (((s2.trans s3).trans s4).trans z46) e1) (dp_mono z46 e4))) (.cons (dp_mono (s8.trans s9) e7) (.cons (dp_mono s9 (dp_tt h8 (dp_mono (s6.trans z78) e5) (dp_mono ((s4.trans z46).trans z78) e3))) .nil))))
end
def sp__law_is_point (K : PySem.W.Frag) : Sp := fun vs H Q _ => ∃ (v : V) (x y : Rat), vs = [v] ∧ Dp K H v (pD x y) ∧ Q (.bl true) H
theorem isN {K : PySem.W.Frag} {H : Hp} {v : V} {r : Rat} {Q : VK} {E : XK} (h : Dp K H v (qD r)) (q : Q (.bl true) H) : sp__law_is_number K [v] H Q E := ⟨v, r, rfl, h, q⟩
theorem isP {K : PySem.W.Frag} {H : Hp} {v : V} {x y : Rat} {Q : VK} {E : XK} (h : Dp K H v (pD x y)) (q : Q (.bl true) H) : sp__law_is_point K [v] H Q E := ⟨v, x, y, rfl, h, q⟩
theorem shaped_p (x y : Rat) : SeqAt.shaped (pD x y) = true := rfl
theorem same_new {H0 H : Hp} {D : Addr} {o : HO} (s : Same H0 H) (h : H0 D = none) : Same H0 (upd H D o) := fun b x e => by
  rw [upd_ne (ne_of_none e h)]
  exact s _ _ e
theorem kp_self' {q : Addr} {H : Hp} {o : HO} : Kp q H (upd H q o) := fun b x hb e => by
  rw [upd_ne hb]
  exact e
theorem zbl {a : Rat} {N M : Nat} (h : Zb a N M) (h0 : N ≠ 0) (h1 : M < 2 ^ 190) (h2 : N < 2 ^ 190) : Bl a := (h.bd h0).bl h1 h2
/-! ### the curve's own formula -/
def fac (u : Rat) : Nat → Rat
  | 0 => (1 - u) * ((1 - u) * (1 - u))
  | 1 => 3 * (u * ((1 - u) * (1 - u)))
  | 2 => 3 * (u * (u * (1 - u)))
  | _ => u * (u * u)
def nth4 (a b c d : Rat) : Nat → Rat
  | 0 => a
  | 1 => b
  | 2 => c
  | _ => d
def bpart (a b c d u : Rat) : Nat → Rat
  | 0 => 0
  | i + 1 => bpart a b c d u i + fac u i * nth4 a b c d i
def bern (a b c d u : Rat) : Rat := bpart a b c d u 4
abbrev Nu (r : Rat) : Prop := Zb r 960180480000 16467095232000000
abbrev Tu (r : Rat) : Prop := Zb r 7560 52920
theorem zb_int (k : Int) (N : Nat) : Zb (k : Rat) N (k.natAbs * N) := ⟨k * (N : Int), by rw [Rat.intCast_mul, Rat.intCast_natCast], by rw [Int.natAbs_mul]; exact Nat.le_refl _⟩
theorem zb_1 (N : Nat) : Zb (1 : Rat) N N := ⟨(N : Int), by rw [Rat.one_mul, Rat.intCast_natCast], by omega⟩
theorem zb_3 : Zb (3 : Rat) 1 3 := ⟨3, by rw [show ((1 : Nat) : Rat) = 1 from rfl, Rat.mul_one]; rfl, by decide⟩
theorem zb_r {u : Rat} (h : Tu u) : Zb (1 - u) 7560 60480 := zb_sub (zb_1 7560) h
theorem zb_fac {u : Rat} (h : Tu u) : ∀ i, Zb (fac u i) 432081216000 600000000000000
  | 0 => (zb_mul (zb_r h) (zb_mul (zb_r h) (zb_r h))).le (by decide)
  | 1 => (zb_mul zb_3 (zb_mul h (zb_mul (zb_r h) (zb_r h)))).le (by decide)
  | 2 => (zb_mul zb_3 (zb_mul h (zb_mul h (zb_r h)))).le (by decide)
  | _ + 3 => (zb_mul h (zb_mul h h)).le (by decide)
theorem zb_nth {a b c d : Rat} (h1 : Nu a) (h2 : Nu b) (h3 : Nu c) (h4 : Nu d) : ∀ i, Nu (nth4 a b c d i)
  | 0 => h1
  | 1 => h2
  | 2 => h3
  | _ + 3 => h4
theorem zb_step {a b : Rat} {N W : Nat} (i : Nat) (h : Zb a N (i * W)) (h' : Zb b N W) : Zb (a + b) N ((i + 1) * W) := by
  rw [Nat.succ_mul]
  exact zb_add h h'
theorem zb_bpart {a b c d u : Rat} (h1 : Nu a) (h2 : Nu b) (h3 : Nu c) (h4 : Nu d) (h : Tu u) : ∀ i, Zb (bpart a b c d u i) (432081216000 * 960180480000) (i * (600000000000000 * 16467095232000000))
  | 0 => ⟨0, by show (0 : Rat) * _ = _; rw [Rat.zero_mul]; rfl, by decide⟩
  | i + 1 => zb_step i (zb_bpart h1 h2 h3 h4 h i) (zb_mul (zb_fac h i) (zb_nth h1 h2 h3 h4 i))
def sp__law_bernstein (K : PySem.W.Frag) : Sp := fun vs H Q _ => ∃ (p : Addr) (w0 w1 w2 w3 v : V) (a b c d u : Rat), vs = [.ref p, v] ∧ H p = some (.lst [w0, w1, w2, w3]) ∧ Dp K H w0 (qD a) ∧ Dp K H w1 (qD b) ∧ Dp K H w2 (qD c) ∧ Dp K H w3 (qD d) ∧ Dp K H v (qD u) ∧ Nu a ∧ Nu b ∧ Nu c ∧ Nu d ∧ Tu u ∧ RetD K H (qD (bern a b c d u)) Q
def sp__law_on_segment (K : PySem.W.Frag) : Sp := fun vs H Q _ => ∃ (v s w t : V) (ax ay bx by' u : Rat), vs = [v, s, w, t] ∧ Dp K H v (pD ax ay) ∧ Dp K H w (pD bx by') ∧ Dp K H t (qD u) ∧ Nu ax ∧ Nu ay ∧ Nu bx ∧ Nu by' ∧ Tu u ∧
  ((s = .non ∧ RetD K H (pD (btw ax bx u) (btw ay by' u)) Q) ∨
   ∃ (cx cy dx dy : Rat), Dp K H s (tt cx cy dx dy) ∧ Nu cx ∧ Nu cy ∧ Nu dx ∧ Nu dy ∧ RetD K H (pD (bern ax cx dx bx u) (bern ay cy dy by' u)) Q)
section
theorem ok__law_is_point {P : Program} {w : World} {K : PySem.W.Frag} {mg : Str → Option Value} {base : Heap} {A : Nat → Addr} {D : Nat → FuncData} (T : Txt K mg A D) : FnOk P w K mg base (L2.CX P w) 3 (A 28) (D 28) ["actual"] (sp__law_is_point K) := by
  refine T.F__law_is_point.okX sc__law_is_point (fun vs H Q E h => ?_) (fun cdv A' outer s H vs Q E hr h => ?_)
  · obtain ⟨_, _, _, rfl, _⟩ := h
    rfl
  obtain ⟨_, x, y, rfl, hp, q⟩ := h
  obtain ⟨p2, w1, w2, rfl, hS2, k1, k2⟩ := dp_t2 hp
  refine ⟨_, (pss_cons (ps_if (PW.pt (pw_or (pt_not (pt_val (pe_callB call_isi (by rfl) T.z_isinstance (by decide +kernel) (pa_cons (pv 0) (pa_cons (pe_bltn (v := .ty "tuple") (by rfl) T.z_tuple (by decide +kernel) rfl) pa_nil))))) (pw_or1 (pt_cmpR op_ne (pe_callB Z.c_len (by rfl) T.z_len (by decide +kernel) (pa_cons (pv 0) pa_nil)) pe_int (nomark _)))))
  (pss_one (ps_ret pe_bl))
  pss_nil)
  (pss_one (ps_ret (pe_and (pe_call (ok__law_is_number T) (hr.mono (by decide)) (by rfl) T.m__law_is_number T.F__law_is_number.kp T.b__law_is_number .nil (passes_call (takes_of rfl rfl rfl rfl) (fun _ _ _ _ h => h)) (pa_cons (pe_ix ix_tup (pv 0) pe_int (fun _ _ => rfl)) pa_nil)) (pe_one (pe_call (ok__law_is_number T) (hr.mono (by decide)) (by rfl) T.m__law_is_number T.F__law_is_number.kp T.b__law_is_number .nil (passes_call (takes_of rfl rfl rfl rfl) (fun _ _ _ _ h => h)) (pa_cons (pe_ix ix_tup (pv 0) pe_int (fun _ _ => rfl)) pa_nil))))))), ?_⟩
  walk_at "z"
  refine isN k1 ?_
  walk_at "z"
  exact isN k2 q
theorem ok__law_bernstein {P : Program} {w : World} {K : PySem.W.Frag} {mg : Str → Option Value} {base : Heap} {A : Nat → Addr} {D : Nat → FuncData} (T : Txt K mg A D) : FnOk P w K mg base (L2.CX P w) 3 (A 30) (D 30) ["numbers", "u"] (sp__law_bernstein K) := by
  refine T.F__law_bernstein.okX sc__law_bernstein (fun vs H Q E h => ?_) (fun cdv A' outer s H vs Q E hr h => ?_)
  · obtain ⟨_, _, _, _, _, _, _, _, _, _, _, rfl, _⟩ := h
    rfl
  obtain ⟨p, w0, w1, w2, w3, v, a, b, c, d, u, rfl, hp, d0, d1, d2, d3, hu, z0, z1, z2, z3, zu, q⟩ := h
  refine ⟨_, (pss_cons (ps_set (i := 2) sc__law_bernstein.nd rfl (.inl rfl) (pe_call (ok__law_difference T) (hr.mono (by decide)) (by rfl) T.m__law_difference T.F__law_difference.kp T.b__law_difference .nil (passes_call (takes_of rfl rfl rfl rfl) (fun _ _ _ _ h => h)) (pa_cons (pe_tup (pa_cons pe_int (pa_cons pe_int pa_nil))) (pa_cons (pv 1) pa_nil))))
  (pss_cons (ps_set (i := 3) sc__law_bernstein.nd rfl (.inl rfl) (pe_lst (pa_cons (pe_call (ok__law_product T) (hr.mono (by decide)) (by rfl) T.m__law_product T.F__law_product.kp T.b__law_product .nil (passes_call (takes_of rfl rfl rfl rfl) (fun _ _ _ _ h => h)) (pa_cons (pv 2) (pa_cons (pe_call (ok__law_product T) (hr.mono (by decide)) (by rfl) T.m__law_product T.F__law_product.kp T.b__law_product .nil (passes_call (takes_of rfl rfl rfl rfl) (fun _ _ _ _ h => h)) (pa_cons (pv 2) (pa_cons (pv 2) pa_nil))) pa_nil))) pa_nil)))
  (pss_cons (ps_expr (pe_bm PySem.F.plainAttrs_list PySem.F.slot_list_append PySem.F.type_list_append mt_append (pv 3) (pa_cons (pe_call (ok__law_product T) (hr.mono (by decide)) (by rfl) T.m__law_product T.F__law_product.kp T.b__law_product .nil (passes_call (takes_of rfl rfl rfl rfl) (fun _ _ _ _ h => h)) (pa_cons (pe_tup (pa_cons pe_int (pa_cons pe_int pa_nil))) (pa_cons (pe_call (ok__law_product T) (hr.mono (by decide)) (by rfl) T.m__law_product T.F__law_product.kp T.b__law_product .nil (passes_call (takes_of rfl rfl rfl rfl) (fun _ _ _ _ h => h)) (pa_cons (pv 1) (pa_cons (pe_call (ok__law_product T) (hr.mono (by decide)) (by rfl) T.m__law_product T.F__law_product.kp T.b__law_product .nil (passes_call (takes_of rfl rfl rfl rfl) (fun _ _ _ _ h => h)) (pa_cons (pv 2) (pa_cons (pv 2) pa_nil))) pa_nil))) pa_nil))) pa_nil)))
  (pss_cons (ps_expr (pe_bm PySem.F.plainAttrs_list PySem.F.slot_list_append PySem.F.type_list_append mt_append (pv 3) (pa_cons (pe_call (ok__law_product T) (hr.mono (by decide)) (by rfl) T.m__law_product T.F__law_product.kp T.b__law_product .nil (passes_call (takes_of rfl rfl rfl rfl) (fun _ _ _ _ h => h)) (pa_cons (pe_tup (pa_cons pe_int (pa_cons pe_int pa_nil))) (pa_cons (pe_call (ok__law_product T) (hr.mono (by decide)) (by rfl) T.m__law_product T.F__law_product.kp T.b__law_product .nil (passes_call (takes_of rfl rfl rfl rfl) (fun _ _ _ _ h => h)) (pa_cons (pv 1) (pa_cons (pe_call (ok__law_product T) (hr.mono (by decide)) (by rfl) T.m__law_product T.F__law_product.kp T.b__law_product .nil (passes_call (takes_of rfl rfl rfl rfl) (fun _ _ _ _ h => h)) (pa_cons (pv 1) (pa_cons (pv 2) pa_nil))) pa_nil))) pa_nil))) pa_nil)))
  (pss_cons (ps_expr (pe_bm PySem.F.plainAttrs_list PySem.F.slot_list_append PySem.F.type_list_append mt_append (pv 3) (pa_cons (pe_call (ok__law_product T) (hr.mono (by decide)) (by rfl) T.m__law_product T.F__law_product.kp T.b__law_product .nil (passes_call (takes_of rfl rfl rfl rfl) (fun _ _ _ _ h => h)) (pa_cons (pv 1) (pa_cons (pe_call (ok__law_product T) (hr.mono (by decide)) (by rfl) T.m__law_product T.F__law_product.kp T.b__law_product .nil (passes_call (takes_of rfl rfl rfl rfl) (fun _ _ _ _ h => h)) (pa_cons (pv 1) (pa_cons (pv 1) pa_nil))) pa_nil))) pa_nil)))
  (pss_cons (ps_set (i := 4) sc__law_bernstein.nd rfl (.inl rfl) (pe_tup (pa_cons pe_int (pa_cons pe_int pa_nil))))
  (pss_cons (ps_for (passes_of rfl) rfl (pi_range1 (by rfl) T.z_range (pa_cons pe_int pa_nil)) (pg_name (i := 5) sc__law_bernstein.nd rfl (.inl rfl))
  (pss_one (ps_set (i := 4) sc__law_bernstein.nd rfl (.inl rfl) (pe_call (ok__law_sum T) (hr.mono (by decide)) (by rfl) T.m__law_sum T.F__law_sum.kp T.b__law_sum .nil (passes_call (takes_of rfl rfl rfl rfl) (fun _ _ _ _ h => h)) (pa_cons (pv 4) (pa_cons (pe_call (ok__law_product T) (hr.mono (by decide)) (by rfl) T.m__law_product T.F__law_product.kp T.b__law_product .nil (passes_call (takes_of rfl rfl rfl rfl) (fun _ _ _ _ h => h)) (pa_cons (pe_ix ix_list (pv 3) (pv 5) (fun _ _ => rfl)) (pa_cons (pe_ix ix_list (pv 0) (pv 5) (fun _ _ => rfl)) pa_nil))) pa_nil))))))
  (pss_one (ps_ret (pv 4)))))))))), ?_⟩
  have zr := zb_r zu
  have br := zbl zr (by decide) (by decide) (by decide)
  have bu := zbl zu (by decide) (by decide) (by decide)
  have bl3 : Bl (3 : Rat) := ⟨by decide, by decide⟩
  have brr : Bl ((1 - u) * (1 - u)) := zbl (zb_mul zr zr) (by decide) (by decide) (by decide)
  have burr : Bl (u * ((1 - u) * (1 - u))) := zbl (zb_mul zu (zb_mul zr zr)) (by decide) (by decide) (by decide)
  have bur : Bl (u * (1 - u)) := zbl (zb_mul zu zr) (by decide) (by decide) (by decide)
  have buur : Bl (u * (u * (1 - u))) := zbl (zb_mul zu (zb_mul zu zr)) (by decide) (by decide) (by decide)
  have buu : Bl (u * u) := zbl (zb_mul zu zu) (by decide) (by decide) (by decide)
  walk_at "z"
  intro pa H1 _ s1 h1
  walk_at "z"
  have one : Dp K H1 (.ref pa) (qD 1) := dp_mk h1 (.cons (.int _) (.cons (.int _) .nil))
  refine lop one (dp_mono s1 hu) ⟨by decide, by decide⟩ bu fun rv H2 s2 er => ?_
  have er : Dp K H2 rv (qD (1 - u)) := er
  walk_at "z"
  refine lop er er br br fun u3 H3 s3 e3 => ?_
  walk_at "z"
  refine lop (dp_mono s3 er) e3 br brr fun g0 H4 s4 e4 => ?_
  have e4 : Dp K H4 g0 (qD (fac u 0)) := e4
  walk_at "z"
  intro D HD hD sD eD
  have zb := ((s1.trans s2).trans s3).trans s4
  have er4 := dp_mono (s3.trans s4) er
  have hu4 := dp_mono zb hu
  clear e3 er one h1 s1 s2 s3 s4
  walk_at "z"
  refine z_bmL (fun R q => by walk_at "z"; exact q) eD ?_
  walk_at "z"
  intro pb H5 _ s5 h5
  walk_at "z"
  have three : Dp K H5 (.ref pb) (qD 3) := dp_mk h5 (.cons (.int _) (.cons (.int _) .nil))
  have k5 := sD.trans s5
  refine lop (dp_mono k5 er4) (dp_mono k5 er4) br br fun u6 H6 s6 e6 => ?_
  walk_at "z"
  refine lop (dp_mono (k5.trans s6) hu4) e6 bu brr fun u7 H7 s7 e7 => ?_
  walk_at "z"
  refine lop (dp_mono (s6.trans s7) three) e7 bl3 burr fun g1 H8 s8 e8 => ?_
  walk_at "z"
  have eD8 := (((s5.trans s6).trans s7).trans s8) _ _ eD
  refine z_append eD8 (Nat.le_of_ble_eq_true rfl) ?_
  have S9 : Same H4 (upd H8 D (.lst ([g0] ++ [g1]))) := same_new ((((k5.trans s6).trans s7).trans s8)) hD
  have e9 : Dp K (upd H8 D (.lst ([g0] ++ [g1]))) g1 (qD (fac u 1)) := dp_kp kp_self' eD8 rfl e8
  have eD9 : (upd H8 D (.lst ([g0] ++ [g1]))) D = some (.lst [g0, g1]) := upd_same
  generalize upd H8 D (.lst ([g0] ++ [g1])) = H9 at *
  clear e6 e7 e8 three h5 s5 s6 s7 s8 k5 eD8 eD sD
  walk_at "z"
  refine z_bmL (fun R q => by walk_at "z"; exact q) eD9 ?_
  walk_at "z"
  intro pb H5 _ s5 h5
  walk_at "z"
  have three : Dp K H5 (.ref pb) (qD 3) := dp_mk h5 (.cons (.int _) (.cons (.int _) .nil))
  have k5 := S9.trans s5
  refine lop (dp_mono k5 hu4) (dp_mono k5 er4) bu br fun u6 H6 s6 e6 => ?_
  walk_at "z"
  refine lop (dp_mono (k5.trans s6) hu4) e6 bu bur fun u7 H7 s7 e7 => ?_
  walk_at "z"
  refine lop (dp_mono (s6.trans s7) three) e7 bl3 buur fun g2 H8 s8 e8 => ?_
  walk_at "z"
  have y8 := ((s5.trans s6).trans s7).trans s8
  have eD8 := y8 _ _ eD9
  refine z_append eD8 (Nat.le_of_ble_eq_true rfl) ?_
  have SA : Same H4 (upd H8 D (.lst ([g0, g1] ++ [g2]))) := same_new (S9.trans y8) hD
  have f1 : Dp K (upd H8 D (.lst ([g0, g1] ++ [g2]))) g1 (qD (fac u 1)) := dp_kp kp_self' eD8 rfl (dp_mono y8 e9)
  have f2 : Dp K (upd H8 D (.lst ([g0, g1] ++ [g2]))) g2 (qD (fac u 2)) := dp_kp kp_self' eD8 rfl e8
  have eDA : (upd H8 D (.lst ([g0, g1] ++ [g2]))) D = some (.lst [g0, g1, g2]) := upd_same
  generalize upd H8 D (.lst ([g0, g1] ++ [g2])) = HA at *
  clear e6 e7 e8 three h5 s5 s6 s7 s8 k5 eD8 eD9 S9 y8 e9
  walk_at "z"
  refine z_bmL (fun R q => by walk_at "z"; exact q) eDA ?_
  walk_at "z"
  refine lop (dp_mono SA hu4) (dp_mono SA hu4) bu bu fun u6 H6 s6 e6 => ?_
  walk_at "z"
  refine lop (dp_mono (SA.trans s6) hu4) e6 bu buu fun g3 H8 s8 e8 => ?_
  walk_at "z"
  have y8 := s6.trans s8
  have eD8 := y8 _ _ eDA
  refine z_append eD8 (Nat.le_of_ble_eq_true rfl) ?_
  have SB : Same H4 (upd H8 D (.lst ([g0, g1, g2] ++ [g3]))) := same_new (SA.trans y8) hD
  have i1 : Dp K (upd H8 D (.lst ([g0, g1, g2] ++ [g3]))) g1 (qD (fac u 1)) := dp_kp kp_self' eD8 rfl (dp_mono y8 f1)
  have i2 : Dp K (upd H8 D (.lst ([g0, g1, g2] ++ [g3]))) g2 (qD (fac u 2)) := dp_kp kp_self' eD8 rfl (dp_mono y8 f2)
  have i3 : Dp K (upd H8 D (.lst ([g0, g1, g2] ++ [g3]))) g3 (qD (fac u 3)) := dp_kp kp_self' eD8 rfl e8
  have eDB : (upd H8 D (.lst ([g0, g1, g2] ++ [g3]))) D = some (.lst [g0, g1, g2, g3]) := upd_same
  generalize upd H8 D (.lst ([g0, g1, g2] ++ [g3])) = HB at *
  clear e6 e8 s6 s8 eD8 eDA SA y8 f1 f2
  walk_at "z"
  intro pt HT _ sT hT
  walk_at "z"
  have zero : Dp K HT (.ref pt) (qD (bpart a b c d u 0)) := dp_mk hT (.cons (.int _) (.cons (.int _) .nil))
  have ST := (zb.trans SB).trans sT
  have hpT := ST _ _ hp
  have eDT := sT _ _ eDB
  have fs : ∀ i, i < 4 → ∃ w, [g0, g1, g2, g3][i]? = some w ∧ Dp K HT w (qD (fac u i))
    | 0, _ => ⟨_, rfl, dp_mono (SB.trans sT) e4⟩
    | 1, _ => ⟨_, rfl, dp_mono sT i1⟩
    | 2, _ => ⟨_, rfl, dp_mono sT i2⟩
    | 3, _ => ⟨_, rfl, dp_mono sT i3⟩
  have ns : ∀ i, i < 4 → ∃ w, [w0, w1, w2, w3][i]? = some w ∧ Dp K HT w (qD (nth4 a b c d i))
    | 0, _ => ⟨_, rfl, dp_mono ST d0⟩
    | 1, _ => ⟨_, rfl, dp_mono ST d1⟩
    | 2, _ => ⟨_, rfl, dp_mono ST d2⟩
    | 3, _ => ⟨_, rfl, dp_mono ST d3⟩
  refine z_forR1 4 (by decide) (fun R q => by walk_at "z"; exact q) (fun i σ' H' => Same HT H' ∧ ∃ (t : V) (kv : Option V), σ' = [some (.ref p), some v, some rv, some (.ref D), some t, kv] ∧ Dp K H' t (qD (bpart a b c d u i))) ⟨fun _ _ e => e, _, _, rfl, zero⟩ ?_ ?_
  · rintro i σ' H' hi ⟨sI, t, kv, rfl, et⟩
    obtain ⟨fw, hf, ef⟩ := fs i hi
    obtain ⟨nw, hn, en⟩ := ns i hi
    have eDI := sI _ _ eDT
    have hpI := sI _ _ hpT
    walk_at "z"
    refine z_ixL (.inl (.inl eDI)) (atI_nat hf) ?_
    walk_at "z"
    refine z_ixL (.inl (.inl hpI)) (atI_nat hn) ?_
    walk_at "z"
    have zf := zb_fac zu i
    have zn := zb_nth z0 z1 z2 z3 i
    have zp := (zb_bpart z0 z1 z2 z3 zu i).le (Nat.mul_le_mul_right _ (Nat.le_of_lt hi))
    refine lop (dp_mono sI ef) (dp_mono sI en) (zbl zf (by decide) (by decide) (by decide)) (zbl zn (by decide) (by decide) (by decide)) fun u1 HC sC eC => ?_
    walk_at "z"
    refine lop (dp_mono sC et) eC (zbl zp (by decide) (by decide) (by decide)) (zbl (zb_mul zf zn) (by decide) (by decide) (by decide)) fun u2 HE sE eE => ?_
    walk_at "z"
    exact ⟨(sI.trans sC).trans sE, _, _, rfl, eE⟩
  rintro σ' H' ⟨sI, t, kv, rfl, et⟩
  walk_at "z"
  exact q _ _ (ST.trans sI) et
theorem ok__law_on_segment {P : Program} {w : World} {K : PySem.W.Frag} {mg : Str → Option Value} {base : Heap} {A : Nat → Addr} {D : Nat → FuncData} (T : Txt K mg A D) : FnOk P w K mg base (L2.CX P w) 4 (A 31) (D 31) ["a", "segment", "b", "u"] (sp__law_on_segment K) := by
  refine T.F__law_on_segment.okX sc__law_on_segment (fun vs H Q E h => ?_) (fun cdv A' outer s H vs Q E hr h => ?_)
  · obtain ⟨_, _, _, _, _, _, _, _, _, rfl, _⟩ := h
    rfl
  obtain ⟨v, sg, w, t, ax, ay, bx, by', u, rfl, ha, hb, hu, za, za', zb, zb', zu, q⟩ := h
  obtain ⟨pa, a1, a2, rfl, hSa, ea1, ea2⟩ := dp_t2 ha
  obtain ⟨pb, b1, b2, rfl, hSb, eb1, eb2⟩ := dp_t2 hb
  refine ⟨_, (pss_cons (ps_if (pt_cmpR Z.op_isN1 (pv 1) pe_non (nomark _))
  (pss_cons (ps_set (i := 4) sc__law_on_segment.nd rfl (.inl rfl) (pe_call (ok__law_sum T) (hr.mono (by decide)) (by rfl) T.m__law_sum T.F__law_sum.kp T.b__law_sum .nil (passes_call (takes_of rfl rfl rfl rfl) (fun _ _ _ _ h => h)) (pa_cons (pe_ix ix_tup (pv 0) pe_int (fun _ _ => rfl)) (pa_cons (pe_call (ok__law_product T) (hr.mono (by decide)) (by rfl) T.m__law_product T.F__law_product.kp T.b__law_product .nil (passes_call (takes_of rfl rfl rfl rfl) (fun _ _ _ _ h => h)) (pa_cons (pv 3) (pa_cons (pe_call (ok__law_difference T) (hr.mono (by decide)) (by rfl) T.m__law_difference T.F__law_difference.kp T.b__law_difference .nil (passes_call (takes_of rfl rfl rfl rfl) (fun _ _ _ _ h => h)) (pa_cons (pe_ix ix_tup (pv 2) pe_int (fun _ _ => rfl)) (pa_cons (pe_ix ix_tup (pv 0) pe_int (fun _ _ => rfl)) pa_nil))) pa_nil))) pa_nil))))
  (pss_one (ps_ret (pe_tup (pa_cons (pv 4) (pa_cons (pe_call (ok__law_sum T) (hr.mono (by decide)) (by rfl) T.m__law_sum T.F__law_sum.kp T.b__law_sum .nil (passes_call (takes_of rfl rfl rfl rfl) (fun _ _ _ _ h => h)) (pa_cons (pe_ix ix_tup (pv 0) pe_int (fun _ _ => rfl)) (pa_cons (pe_call (ok__law_product T) (hr.mono (by decide)) (by rfl) T.m__law_product T.F__law_product.kp T.b__law_product .nil (passes_call (takes_of rfl rfl rfl rfl) (fun _ _ _ _ h => h)) (pa_cons (pv 3) (pa_cons (pe_call (ok__law_difference T) (hr.mono (by decide)) (by rfl) T.m__law_difference T.F__law_difference.kp T.b__law_difference .nil (passes_call (takes_of rfl rfl rfl rfl) (fun _ _ _ _ h => h)) (pa_cons (pe_ix ix_tup (pv 2) pe_int (fun _ _ => rfl)) (pa_cons (pe_ix ix_tup (pv 0) pe_int (fun _ _ => rfl)) pa_nil))) pa_nil))) pa_nil))) pa_nil))))))
  pss_nil)
  (pss_cons (ps_set (i := 5) sc__law_on_segment.nd rfl (.inl rfl) (pe_lst (pa_cons (pv 0) (pa_cons (pe_ix ix_tup (pv 1) pe_int (fun _ _ => rfl)) (pa_cons (pe_ix ix_tup (pv 1) pe_int (fun _ _ => rfl)) (pa_cons (pv 2) pa_nil))))))
  (pss_cons (ps_set (i := 4) sc__law_on_segment.nd rfl (.inl rfl) (pe_call (ok__law_bernstein T) (hr.mono (by decide)) (by rfl) T.m__law_bernstein T.F__law_bernstein.kp T.b__law_bernstein .nil (passes_call (takes_of rfl rfl rfl rfl) (fun _ _ _ _ h => h)) (pa_cons (pe_lc (own := [("point", 6)]) (g := gName 6) (tt := tYes) rfl sc__law_on_segment.nd (pi_list (pv 5)) (blkOk_by (N := ["a", "segment", "b", "u", "x", "points", "point"]) (sc := defScope s__law_on_segment) (by decide +kernel)) (fun _ _ _ _ _ => pg_name (i := 6) sc__law_on_segment.nd rfl (Or.inl rfl)) (fun _ _ _ _ _ => pts_nil) (fun _ _ _ _ _ => (pe_ix (show IxR _ (rIxT K) from ix_tup) (pv 6) pe_int (fun _ _ => rfl)))) (pa_cons (pv 3) pa_nil))))
  (pss_one (ps_ret (pe_tup (pa_cons (pv 4) (pa_cons (pe_call (ok__law_bernstein T) (hr.mono (by decide)) (by rfl) T.m__law_bernstein T.F__law_bernstein.kp T.b__law_bernstein .nil (passes_call (takes_of rfl rfl rfl rfl) (fun _ _ _ _ h => h)) (pa_cons (pe_lc (own := [("point", 6)]) (g := gName 6) (tt := tYes) rfl sc__law_on_segment.nd (pi_list (pv 5)) (blkOk_by (N := ["a", "segment", "b", "u", "x", "points", "point"]) (sc := defScope s__law_on_segment) (by decide +kernel)) (fun _ _ _ _ _ => pg_name (i := 6) sc__law_on_segment.nd rfl (Or.inl rfl)) (fun _ _ _ _ _ => pts_nil) (fun _ _ _ _ _ => (pe_ix (show IxR _ (rIxT K) from ix_tup) (pv 6) pe_int (fun _ _ => rfl)))) (pa_cons (pv 3) pa_nil))) pa_nil)))))))), ?_⟩
  have nb : ∀ {r : Rat}, Nu r → Bl r := fun h => zbl h (by decide) (by decide) (by decide)
  have bu := zbl zu (by decide) (by decide) (by decide)
  walk_at "z"
  rcases q with ⟨rfl, q⟩ | ⟨cx, cy, dx, dy, hs, zc, zc', zd, zd', q⟩
  · walk_at "z"
    refine lop eb1 ea1 (nb zb) (nb za) fun u1 H1 s1 e1 => ?_
    walk_at "z"
    refine lop (dp_mono s1 hu) e1 bu (zbl (zb_sub zb za) (by decide) (by decide) (by decide)) fun u2 H2 s2 e2 => ?_
    walk_at "z"
    refine lop (dp_mono (s1.trans s2) ea1) e2 (nb za) (zbl (zb_mul zu (zb_sub zb za)) (by decide) (by decide) (by decide)) fun u3 H3 s3 e3 => ?_
    have z3 := (s1.trans s2).trans s3
    have hSa3 := seqT z3 hSa
    have hSb3 := seqT z3 hSb
    walk_at "z"
    refine lop (dp_mono z3 eb2) (dp_mono z3 ea2) (nb zb') (nb za') fun u4 H4 s4 e4 => ?_
    walk_at "z"
    refine lop (dp_mono (z3.trans s4) hu) e4 bu (zbl (zb_sub zb' za') (by decide) (by decide) (by decide)) fun u5 H5 s5 e5 => ?_
    walk_at "z"
    refine lop (dp_mono ((z3.trans s4).trans s5) ea2) e5 (nb za') (zbl (zb_mul zu (zb_sub zb' za')) (by decide) (by decide) (by decide)) fun u6 H6 s6 e6 => ?_
    walk_at "z"
    intro p9 H9 _ s9 h9
    have z69 := ((s4.trans s5).trans s6).trans s9
    exact q _ _ (z3.trans z69) (dp_p h9 (dp_mono z69 e3) (dp_mono s9 e6))
  obtain ⟨ps, c1, c2, rfl, hSs, k1, k2⟩ := dp_t2 hs
  obtain ⟨pc, c1, c2, rfl, hSc, ec1, ec2⟩ := dp_t2 k1
  obtain ⟨pd, d1, d2, rfl, hSd, ed1, ed2⟩ := dp_t2 k2
  walk_at "z"
  intro pl H1 _ s1 hl
  walk_at "z"
  refine z_lcM (xs := [.ref pa, .ref pc, .ref pd, .ref pb]) (ws := [a1, c1, d1, b1]) rfl (Nat.le_of_ble_eq_true rfl) (fun R q => by walk_at "z"; exact q) hl (fun _ => rfl) ?_ fun D H2 hD s2 h2 => ?_
  · intro i x y H' hi hw s' R qR
    have y' := s1.trans s'
    match i, hi, hw with
    | 0, hi, hw => cases hi; cases hw; have := seqT y' hSa; walk_at "z"; exact qR
    | 1, hi, hw => cases hi; cases hw; have := seqT y' hSc; walk_at "z"; exact qR
    | 2, hi, hw => cases hi; cases hw; have := seqT y' hSd; walk_at "z"; exact qR
    | 3, hi, hw => cases hi; cases hw; have := seqT y' hSb; walk_at "z"; exact qR
    | i + 4, hi, _ => simp at hi
  walk_at "z"
  have z2 := s1.trans s2
  refine ⟨D, a1, c1, d1, b1, t, ax, cx, dx, bx, u, rfl, h2, dp_mono z2 ea1, dp_mono z2 ec1, dp_mono z2 ed1, dp_mono z2 eb1, dp_mono z2 hu, za, zc, zd, zb, zu, fun u3 H3 s3 e3 => ?_⟩
  have z3 := z2.trans s3
  have hl3 := (s2.trans s3) _ _ hl
  walk_at "z"
  refine z_lcM (xs := [.ref pa, .ref pc, .ref pd, .ref pb]) (ws := [a2, c2, d2, b2]) rfl (Nat.le_of_ble_eq_true rfl) (fun R q => by walk_at "z"; exact q) hl3 (fun _ => rfl) ?_ fun D4 H4 hD4 s4 h4 => ?_
  · intro i x y H' hi hw s' R qR
    have y' := z3.trans s'
    match i, hi, hw with
    | 0, hi, hw => cases hi; cases hw; have := seqT y' hSa; walk_at "z"; exact qR
    | 1, hi, hw => cases hi; cases hw; have := seqT y' hSc; walk_at "z"; exact qR
    | 2, hi, hw => cases hi; cases hw; have := seqT y' hSd; walk_at "z"; exact qR
    | 3, hi, hw => cases hi; cases hw; have := seqT y' hSb; walk_at "z"; exact qR
    | i + 4, hi, _ => simp at hi
  walk_at "z"
  have z4 := z3.trans s4
  refine ⟨D4, a2, c2, d2, b2, t, ay, cy, dy, by', u, rfl, h4, dp_mono z4 ea2, dp_mono z4 ec2, dp_mono z4 ed2, dp_mono z4 eb2, dp_mono z4 hu, za', zc', zd', zb', zu, fun u5 H5 s5 e5 => ?_⟩
  walk_at "z"
  intro p9 H9 _ s9 h9
  have z49 := (s4.trans s5).trans s9
  exact q _ _ (z3.trans z49) (dp_p h9 (dp_mono z49 e3) (dp_mono s9 e5))
end
theorem bern_cut (a c d b f : Rat) : bern a c d b f = c3 a c d b f := by
  unfold bern
  simp only [bpart, fac, nth4, c3, c2, btw]
  grind
theorem bern_before (a c d b f u : Rat) : bern a (c1 a c f) (c2 a c d f) (c3 a c d b f) u = bern a c d b (f * u) := by
  unfold bern
  simp only [bpart, fac, nth4, c3, c2, c1, btw]
  grind
theorem bern_after (a c d b f u : Rat) : bern (c3 a c d b f) (c2 c d b f) (c1 d b f) b u = bern a c d b (f + (1 - f) * u) := by
  unfold bern
  simp only [bpart, fac, nth4, c3, c2, c1, btw]
  grind
theorem nu0 {r : Rat} (h : Zb r 60 3000) : Nu r := (zb_up 16003008000 h).le (by decide)
theorem nu1 {p q f : Rat} (h : Zb p 60 3000) (h' : Zb q 60 3000) (hf : Zb f 2520 7560) : Nu (btw p q f) := (zb_up 6350400 (zb_btw h h' hf)).le (by decide)
theorem nu2 {p q r f : Rat} (h : Zb p 60 3000) (h' : Zb q 60 3000) (h'' : Zb r 60 3000) (hf : Zb f 2520 7560) : Nu (c2 p q r f) := (zb_up 2520 (zb_btw (zb_btw h h' hf) (zb_btw h' h'' hf) hf)).le (by decide)
theorem nu3 {p q r t f : Rat} (h : Zb p 60 3000) (h' : Zb q 60 3000) (h'' : Zb r 60 3000) (h3 : Zb t 60 3000) (hf : Zb f 2520 7560) : Nu (c3 p q r t f) :=
  Zb.le (zb_btw (zb_btw (zb_btw h h' hf) (zb_btw h' h'' hf) hf) (zb_btw (zb_btw h' h'' hf) (zb_btw h'' h3 hf) hf) hf) (by decide)
theorem tuf {f : Rat} (h : Zb f 2520 7560) : Tu f := (zb_up 3 h).le (by decide)
theorem tu3 {u : Rat} (h : Zb u 3 3) : Tu u := (zb_up 2520 h).le (by decide)
theorem tum {f u : Rat} (h : Zb f 2520 7560) (h' : Zb u 3 3) : Tu (f * u) := (zb_mul h h').le (by decide)
theorem zrest {f u : Rat} (h : Zb f 2520 7560) (h' : Zb u 3 3) : Zb ((1 - f) * u) 7560 30240 := (zb_mul (zb_sub (zb_1 2520) h) h').le (by decide)
theorem tua {f u : Rat} (h : Zb f 2520 7560) (h' : Zb u 3 3) : Tu (f + (1 - f) * u) := (zb_add (zb_up 3 h) (zrest h h')).le (by decide)
theorem z60 {r : Rat} (h : Bd r 50 6) : Zb r 60 3000 := zb_of h (fun d h1 h0 => by
  rcases (by omega : d = 1 ∨ d = 2 ∨ d = 3 ∨ d = 4 ∨ d = 5 ∨ d = 6) with rfl | rfl | rfl | rfl | rfl | rfl <;> decide) (by decide)
theorem zfr {n d : Int} (h1 : 1 ≤ d) (h2 : d ≤ 9) (h3 : n.natAbs ≤ 3 * d.natAbs) : Zb (Rat.divInt n d) 2520 7560 := by
  rcases (by omega : d = 1 ∨ d = 2 ∨ d = 3 ∨ d = 4 ∨ d = 5 ∨ d = 6 ∨ d = 7 ∨ d = 8 ∨ d = 9) with rfl | rfl | rfl | rfl | rfl | rfl | rfl | rfl | rfl
  · exact zb_divInt (c := 2520) (by decide) (by decide) (by omega)
  · exact zb_divInt (c := 1260) (by decide) (by decide) (by omega)
  · exact zb_divInt (c := 840) (by decide) (by decide) (by omega)
  · exact zb_divInt (c := 630) (by decide) (by decide) (by omega)
  · exact zb_divInt (c := 504) (by decide) (by decide) (by omega)
  · exact zb_divInt (c := 420) (by decide) (by decide) (by omega)
  · exact zb_divInt (c := 360) (by decide) (by decide) (by omega)
  · exact zb_divInt (c := 315) (by decide) (by decide) (by omega)
  · exact zb_divInt (c := 280) (by decide) (by decide) (by omega)
theorem small1000 {z : Int} (h : z.natAbs ≤ 100) : z.natAbs < 2 ^ 1000 := lt1000 (Nat.lt_of_le_of_lt h (by decide))
/-- the law's own point on a curve, on a line -/
theorem onS {K : PySem.W.Frag} {H : Hp} {v s w t : V} {ax ay bx by' cx cy dx dy u : Rat} {Q : VK} {E : XK} (ha : Dp K H v (pD ax ay)) (hs : Dp K H s (tt cx cy dx dy)) (hb : Dp K H w (pD bx by')) (hu : Dp K H t (qD u)) (a1 : Nu ax) (a2 : Nu ay) (b1 : Nu bx) (b2 : Nu by') (c1 : Nu cx) (c2 : Nu cy) (d1 : Nu dx) (d2 : Nu dy) (zu : Tu u)
    (q : RetD K H (pD (bern ax cx dx bx u) (bern ay cy dy by' u)) Q) : sp__law_on_segment K [v, s, w, t] H Q E := ⟨v, s, w, t, ax, ay, bx, by', u, rfl, ha, hb, hu, a1, a2, b1, b2, zu, .inr ⟨cx, cy, dx, dy, hs, c1, c2, d1, d2, q⟩⟩
theorem onL {K : PySem.W.Frag} {H : Hp} {v w t : V} {ax ay bx by' u : Rat} {Q : VK} {E : XK} (ha : Dp K H v (pD ax ay)) (hb : Dp K H w (pD bx by')) (hu : Dp K H t (qD u)) (a1 : Nu ax) (a2 : Nu ay) (b1 : Nu bx) (b2 : Nu by') (zu : Tu u)
    (q : RetD K H (pD (btw ax bx u) (btw ay by' u)) Q) : sp__law_on_segment K [v, .non, w, t] H Q E := ⟨v, .non, w, t, ax, ay, bx, by', u, rfl, ha, hb, hu, a1, a2, b1, b2, zu, .inl ⟨rfl, q⟩⟩
/-! ### paths -/
def PtOk (K : PySem.W.Frag) (H : Hp) (v : V) : Prop := ∃ x y : Rat, Bd x 50 6 ∧ Bd y 50 6 ∧ Dp K H v (pD x y)
def SgOk (K : PySem.W.Frag) (H : Hp) (v : V) : Prop := v = .non ∨ ∃ cx cy dx dy : Rat, Bd cx 50 6 ∧ Bd cy 50 6 ∧ Bd dx 50 6 ∧ Bd dy 50 6 ∧ Dp K H v (tt cx cy dx dy)
theorem PtOk.mono {K : PySem.W.Frag} {H H' : Hp} {v : V} (s : Same H H') (h : PtOk K H v) : PtOk K H' v := by
  obtain ⟨x, y, a, b, d⟩ := h
  exact ⟨x, y, a, b, dp_mono s d⟩
theorem SgOk.mono {K : PySem.W.Frag} {H H' : Hp} {v : V} (s : Same H H') (h : SgOk K H v) : SgOk K H' v := by
  rcases h with h | ⟨cx, cy, dx, dy, a, b, c, d, e⟩
  · exact .inl h
  · exact .inr ⟨cx, cy, dx, dy, a, b, c, d, dp_mono s e⟩
structure PathOk (K : PySem.W.Frag) (H : Hp) (v : V) (ks ss : List V) (cyc : Bool) : Prop where
  at_ : ∃ a k s, v = .ref a ∧ SqT K H a [.ref k, .ref s, .bl cyc] ∧ SqT K H k ks ∧ SqT K H s ss
  n1 : 1 ≤ ks.length
  n2 : ks.length ≤ 5
  n3 : ss.length + 1 = ks.length + (if cyc = true then 1 else 0)
  pts : ∀ w ∈ ks, PtOk K H w
  sgs : ∀ w ∈ ss, SgOk K H w
theorem PathOk.mono {K : PySem.W.Frag} {H H' : Hp} {v : V} {ks ss : List V} {cyc : Bool} (P : PathOk K H v ks ss cyc) (s : Same H H') : PathOk K H' v ks ss cyc := by
  obtain ⟨a, k, g, e, h1, h2, h3⟩ := P.at_
  exact ⟨⟨a, k, g, e, seqT s h1, seqT s h2, seqT s h3⟩, P.n1, P.n2, P.n3, fun w hw => (P.pts w hw).mono s, fun w hw => (P.sgs w hw).mono s⟩
def clampQ (m : Nat) (t : Rat) : Rat := if t < 0 then 0 else if (m : Rat) < t then (m : Rat) else t
def heldQ (cyc : Bool) (m : Nat) (t : Rat) : Rat := if cyc = true then Rat.divInt (t.num % ((m : Int) * (t.den : Int))) (t.den : Int) else clampQ m t
def fl (h : Rat) : Nat := (h.num / (h.den : Int)).toNat
theorem cmp_neg {a b : Rat} : cmpQ a b < 0 ↔ a < b := by
  unfold cmpQ
  split
  · rename_i h
    exact ⟨fun _ => h, fun _ => by decide⟩
  · rename_i h
    split <;> exact ⟨fun z => absurd z (by decide), fun z => absurd z h⟩
theorem cmp_pos {a b : Rat} : cmpQ a b > 0 ↔ b < a := by
  unfold cmpQ
  split
  · rename_i h
    exact ⟨fun z => absurd z (by decide), fun z => by rw [Rat.lt_iff] at h z; omega⟩
  · split
    · rename_i h
      exact ⟨fun _ => h, fun _ => by decide⟩
    · rename_i h
      exact ⟨fun z => absurd z (by decide), fun z => absurd z h⟩
theorem lt_num {t : Rat} : t < 0 ↔ t.num < 0 := by
  rw [Rat.lt_iff]
  simp
theorem lt_m {t : Rat} {m : Nat} : (m : Rat) < t ↔ (m : Int) * (t.den : Int) < t.num := by
  rw [Rat.lt_iff, Rat.num_natCast, Rat.den_natCast]
  simp
theorem held_ok {cyc : Bool} {m : Nat} {t : Rat} {P : Nat} (b : Bd t P 9) (hc : cyc = true → 1 ≤ m) :
    0 ≤ (heldQ cyc m t).num ∧ (heldQ cyc m t).den ≤ 9 ∧ (heldQ cyc m t).num ≤ (m : Int) * ((heldQ cyc m t).den : Int) ∧ (cyc = true → (heldQ cyc m t).num < (m : Int) * ((heldQ cyc m t).den : Int)) := by
  have hd := t.den_nz
  have b2 := b.2
  unfold heldQ
  split
  · rename_i hcy
    have hm := hc hcy
    have hp : 0 < (m : Int) * (t.den : Int) := Int.mul_pos (by omega) (by omega)
    have a0 := Int.emod_nonneg t.num (show (m : Int) * (t.den : Int) ≠ 0 by omega)
    have a1 := Int.emod_lt_of_pos t.num hp
    generalize t.num % ((m : Int) * (t.den : Int)) = a at *
    have e := (Rat.divInt_eq_divInt_iff (n₁ := (Rat.divInt a (t.den : Int)).num) (d₁ := ((Rat.divInt a (t.den : Int)).den : Int)) (n₂ := a) (d₂ := (t.den : Int)) (by have := (Rat.divInt a (t.den : Int)).den_nz; omega) (by omega)).mp (Rat.num_divInt_den _)
    have bd := bd_divInt (n := a) (d := (t.den : Int)) (by omega)
    have hz := (Rat.divInt a (t.den : Int)).den_nz
    generalize Rat.divInt a (t.den : Int) = h at *
    have lt : h.num < (m : Int) * (h.den : Int) := by
      refine Int.lt_of_mul_lt_mul_right (a := (t.den : Int)) ?_ (by omega)
      rw [e, Int.mul_assoc, Int.mul_comm (h.den : Int), ← Int.mul_assoc]
      exact Int.mul_lt_mul_of_pos_right a1 (by omega)
    refine ⟨?_, Nat.le_trans bd.2 (by omega), Int.le_of_lt lt, fun _ => lt⟩
    refine Int.le_of_mul_le_mul_right (a := (t.den : Int)) ?_ (by omega)
    rw [e, Int.zero_mul]
    exact Int.mul_nonneg a0 (by omega)
  · rename_i hcy
    unfold clampQ
    split
    · exact ⟨by decide, by decide, by simp, fun z => absurd z hcy⟩
    · rename_i h1
      split
      · rw [Rat.num_natCast, Rat.den_natCast]
        exact ⟨by omega, by decide, by simp, fun z => absurd z hcy⟩
      · rename_i h2
        rw [lt_num] at h1
        rw [lt_m] at h2
        exact ⟨by omega, b2, by omega, fun z => absurd z hcy⟩
theorem fl_eq {h : Rat} (h0 : 0 ≤ h.num) : ((fl h : Nat) : Int) = h.num / (h.den : Int) := by
  have hd := h.den_nz
  unfold fl
  rw [Int.toNat_of_nonneg]
  exact Int.ediv_nonneg h0 (by omega)
theorem fl_le {h : Rat} {m : Nat} (h0 : 0 ≤ h.num) (h1 : h.num ≤ (m : Int) * (h.den : Int)) : fl h ≤ m := by
  have hd := h.den_nz
  have e := fl_eq h0
  have k := Int.ediv_le_of_le_mul (a := h.num) (b := (m : Int)) (c := (h.den : Int)) (by omega) h1
  omega
theorem fl_lt {h : Rat} {m : Nat} (h0 : 0 ≤ h.num) (h1 : h.num < (m : Int) * (h.den : Int)) : fl h < m := by
  have hd := h.den_nz
  have e := fl_eq h0
  have k := Int.ediv_lt_of_lt_mul (a := h.num) (b := (m : Int)) (c := (h.den : Int)) (by omega) h1
  omega
theorem not_whole {h : Rat} {m : Nat} (h1 : h.num ≤ (m : Int) * (h.den : Int)) (hd : h.den ≠ 1) : h.num < (m : Int) * (h.den : Int) := by
  rcases Int.lt_or_eq_of_le h1 with k | k
  · exact k
  · have dv : h.den ∣ h.num.natAbs := ⟨m, by rw [k, Int.natAbs_mul, Nat.mul_comm]; rfl⟩
    exact absurd (Nat.Coprime.eq_one_of_dvd h.reduced.symm dv) hd
/-- the part of a number behind its floor -/
theorem frac_q {h : Rat} (h0 : 0 ≤ h.num) : h - ((fl h : Nat) : Rat) = Rat.divInt (h.num % (h.den : Int)) (h.den : Int) := by
  rw [q_sub, Rat.num_natCast, Rat.den_natCast, fl_eq h0]
  have e : h.num * ((1 : Nat) : Int) - h.num / (h.den : Int) * (h.den : Int) = h.num % (h.den : Int) := by
    rw [Int.emod_def, Int.mul_comm (h.den : Int)]
    simp
  rw [e]
  simp
theorem frac_z {h : Rat} (h0 : 0 ≤ h.num) (h9 : h.den ≤ 9) : Zb (h - ((fl h : Nat) : Rat)) 2520 7560 := by
  have hd := h.den_nz
  rw [frac_q h0]
  have a0 := Int.emod_nonneg h.num (show (h.den : Int) ≠ 0 by omega)
  have a1 := Int.emod_lt_of_pos h.num (show 0 < (h.den : Int) by omega)
  exact zfr (by omega) (by omega) (by omega)
theorem frac_0 {h : Rat} (h0 : 0 ≤ h.num) : (h - ((fl h : Nat) : Rat)).num = 0 ↔ h.den = 1 := by
  constructor
  · intro z
    have z2 : h - ((fl h : Nat) : Rat) = 0 := Rat.num_eq_zero.mp z
    have z3 : h = ((fl h : Nat) : Rat) := by grind
    rw [z3, Rat.den_natCast]
  · intro z
    rw [frac_q h0, z]
    simp
def SegPt (K : PySem.W.Frag) (H : Hp) (wa sg wb : V) (f x y : Rat) : Prop := ∃ ax ay bx by' : Rat, Dp K H wa (pD ax ay) ∧ Dp K H wb (pD bx by') ∧ Bd ax 50 6 ∧ Bd ay 50 6 ∧ Bd bx 50 6 ∧ Bd by' 50 6 ∧
  ((sg = .non ∧ x = btw ax bx f ∧ y = btw ay by' f) ∨ ∃ cx cy dx dy : Rat, Bd cx 50 6 ∧ Bd cy 50 6 ∧ Bd dx 50 6 ∧ Bd dy 50 6 ∧ Dp K H sg (tt cx cy dx dy) ∧ x = c3 ax cx dx bx f ∧ y = c3 ay cy dy by' f)
theorem SegPt.mono {K : PySem.W.Frag} {H H' : Hp} {wa sg wb : V} {f x y : Rat} (s : Same H H') (h : SegPt K H wa sg wb f x y) : SegPt K H' wa sg wb f x y := by
  obtain ⟨ax, ay, bx, by', d1, d2, b1, b2, b3, b4, h⟩ := h
  refine ⟨ax, ay, bx, by', dp_mono s d1, dp_mono s d2, b1, b2, b3, b4, ?_⟩
  rcases h with h | ⟨cx, cy, dx, dy, c1, c2, c3, c4, d, e⟩
  · exact .inl h
  · exact .inr ⟨cx, cy, dx, dy, c1, c2, c3, c4, dp_mono s d, e⟩
theorem segPt_of {K : PySem.W.Frag} {H : Hp} {wa sg wb : V} (f : Rat) (h1 : PtOk K H wa) (h2 : SgOk K H sg) (h3 : PtOk K H wb) : ∃ x y, SegPt K H wa sg wb f x y := by
  obtain ⟨ax, ay, b1, b2, d1⟩ := h1
  obtain ⟨bx, by', b3, b4, d2⟩ := h3
  rcases h2 with h | ⟨cx, cy, dx, dy, c1, c2, c3, c4, d⟩
  · exact ⟨_, _, ax, ay, bx, by', d1, d2, b1, b2, b3, b4, .inl ⟨h, rfl, rfl⟩⟩
  · exact ⟨_, _, ax, ay, bx, by', d1, d2, b1, b2, b3, b4, .inr ⟨cx, cy, dx, dy, c1, c2, c3, c4, d, rfl, rfl⟩⟩
def PointOk (K : PySem.W.Frag) (H : Hp) (ks ss : List V) (h x y : Rat) : Prop :=
  (h.den = 1 ∧ ∃ w, ks[fl h]? = some w ∧ Dp K H w (pD x y)) ∨ (h.den ≠ 1 ∧ ∃ wa sg wb, ks[fl h]? = some wa ∧ ss[fl h]? = some sg ∧ ks[(fl h + 1) % ks.length]? = some wb ∧ SegPt K H wa sg wb (h - ((fl h : Nat) : Rat)) x y)
def sp_floor_of (K : PySem.W.Frag) : Sp := fun vs H Q _ => ∃ (v : V) (r : Rat), vs = [v] ∧ Dp K H v (qD r) ∧ r.den < 2 ^ 200 ∧ Q (.int (r.num / (r.den : Int))) H
def sp_length (K : PySem.W.Frag) : Sp := fun vs H Q _ => ∃ (v : V) (ks ss : List V) (cyc : Bool), vs = [v] ∧ PathOk K H v ks ss cyc ∧ Q (.int (ss.length : Int)) H
def sp_clamped (K : PySem.W.Frag) : Sp := fun vs H Q _ => ∃ (v w : V) (ks ss : List V) (cyc : Bool) (t : Rat), vs = [v, w] ∧ PathOk K H v ks ss cyc ∧ Dp K H w (qD t) ∧ Bd t 1000000000000000 9 ∧ RetD K H (qD (clampQ ss.length t)) Q
def sp_time_on (K : PySem.W.Frag) : Sp := fun vs H Q _ => ∃ (v w : V) (ks ss : List V) (cyc : Bool) (t : Rat), vs = [v, w] ∧ PathOk K H v ks ss cyc ∧ Dp K H w (qD t) ∧ Bd t 1000000000000000 9 ∧ RetD K H (qD (heldQ cyc ss.length t)) Q
def sp_segment_at (K : PySem.W.Frag) : Sp := fun vs H Q _ => ∃ (v : V) (n : Nat) (ks ss : List V) (cyc : Bool) (wa sg wb : V), vs = [v, .int (n : Int)] ∧ PathOk K H v ks ss cyc ∧ n < ss.length ∧ ks[n]? = some wa ∧ ss[n]? = some sg ∧ ks[(n + 1) % ks.length]? = some wb ∧
  ∀ p H', Same H H' → H' p = some (.tup [wa, sg, wb]) → Q (.ref p) H'
def sp_point_at (K : PySem.W.Frag) : Sp := fun vs H Q _ => ∃ (v w : V) (ks ss : List V) (cyc : Bool) (t x y : Rat), vs = [v, w] ∧ PathOk K H v ks ss cyc ∧ Dp K H w (qD t) ∧ Bd t 1000000000000000 9 ∧ PointOk K H ks ss (heldQ cyc ss.length t) x y ∧ RetD K H (pD x y) Q
section
theorem ok_floor_of {P : Program} {w : World} {K : PySem.W.Frag} {mg : Str → Option Value} {base : Heap} {A : Nat → Addr} {D : Nat → FuncData} (T : Txt K mg A D) : FnOk P w K mg base (L2.CX P w) 1 (A 8) (D 8) ["a"] (sp_floor_of K) := by
  refine T.F_floor_of.okX sc_floor_of (fun vs H Q E h => ?_) (fun cdv A' outer s H vs Q E hr h => ?_)
  · obtain ⟨_, _, rfl, _⟩ := h
    rfl
  obtain ⟨_, r, rfl, h, hd, q⟩ := h
  obtain ⟨p, rfl, hp⟩ := dp_q h
  have hz := r.den_nz
  refine ⟨_, (pss_one (ps_ret (pe_op op_fdivW (pe_ix ix_tup (pv 0) pe_int (fun _ _ => rfl)) (pe_ix ix_tup (pv 0) pe_int (fun _ _ => rfl))))), ?_⟩
  walk_at "z"
  refine z_I (wide_div (b := 200) (by omega) (by omega) (by decide) (by decide)) ?_
  walk_at "z"
  exact q
theorem ok_length {P : Program} {w : World} {K : PySem.W.Frag} {mg : Str → Option Value} {base : Heap} {A : Nat → Addr} {D : Nat → FuncData} (T : Txt K mg A D) : FnOk P w K mg base (L2.CX P w) 1 (A 9) (D 9) ["path"] (sp_length K) := by
  refine T.F_length.okX sc_length (fun vs H Q E h => ?_) (fun cdv A' outer s H vs Q E hr h => ?_)
  · obtain ⟨_, _, _, _, rfl, _⟩ := h
    rfl
  obtain ⟨_, ks, ss, cyc, rfl, P, q⟩ := h
  obtain ⟨a, k, g, rfl, h1, h2, h3⟩ := P.at_
  refine ⟨_, (pss_one (ps_ret (pe_callB Z.c_len (by rfl) T.z_len (by decide +kernel) (pa_cons (pe_ix ix_tup (pv 0) pe_int (fun _ _ => rfl)) pa_nil)))), ?_⟩
  walk_at "z"
  exact q
theorem ok_clamped {P : Program} {w : World} {K : PySem.W.Frag} {mg : Str → Option Value} {base : Heap} {A : Nat → Addr} {D : Nat → FuncData} (T : Txt K mg A D) : FnOk P w K mg base (L2.CX P w) 2 (A 15) (D 15) ["path", "time"] (sp_clamped K) := by
  refine T.F_clamped.okX sc_clamped (fun vs H Q E h => ?_) (fun cdv A' outer s H vs Q E hr h => ?_)
  · obtain ⟨_, _, _, _, _, _, rfl, _⟩ := h
    rfl
  obtain ⟨v, w, ks, ss, cyc, t, rfl, P, ht, b, q⟩ := h
  have n2 := P.n2
  have n3 := P.n3
  have hm : ss.length ≤ 5 := by split at n3 <;> omega
  refine ⟨_, (pss_cons (ps_set (i := 2) sc_clamped.nd rfl (.inl rfl) (pe_tup (pa_cons (pe_call (ok_length T) (hr.mono (by decide)) (by rfl) T.m_length T.F_length.kp T.b_length .nil (passes_call (takes_of rfl rfl rfl rfl) (fun _ _ _ _ h => h)) (pa_cons (pv 0) pa_nil)) (pa_cons pe_int pa_nil))))
  (pss_cons (ps_if (pt_cmpR op_lt (pe_call (ok_compare T) (hr.mono (by decide)) (by rfl) T.m_compare T.F_compare.kp T.b_compare .nil (passes_call (takes_of rfl rfl rfl rfl) (fun _ _ _ _ h => h)) (pa_cons (pv 1) (pa_cons (Z.pe_globR T.c_ZERO) pa_nil))) pe_int (nomark _))
  (pss_one (ps_ret (Z.pe_globR T.c_ZERO)))
  pss_nil)
  (pss_cons (ps_if (pt_cmpR op_gt (pe_call (ok_compare T) (hr.mono (by decide)) (by rfl) T.m_compare T.F_compare.kp T.b_compare .nil (passes_call (takes_of rfl rfl rfl rfl) (fun _ _ _ _ h => h)) (pa_cons (pv 1) (pa_cons (pv 2) pa_nil))) pe_int (nomark _))
  (pss_one (ps_ret (pv 2)))
  pss_nil)
  (pss_one (ps_ret (pv 1)))))), ?_⟩
  walk_at "z"
  refine ⟨v, ks, ss, cyc, rfl, P, ?_⟩
  walk_at "z"
  intro p1 H1 _ s1 h1
  have whole : Dp K H1 (.ref p1) (qD ((ss.length : Nat) : Rat)) := dp_mkq (by rw [Rat.num_natCast, Rat.den_natCast]; exact h1)
  have bt : Bg t := b.bg (by decide) (by decide)
  have bm : Bg ((ss.length : Nat) : Rat) := ⟨by rw [Rat.num_natCast]; exact Nat.lt_of_le_of_lt (show ((ss.length : Int)).natAbs ≤ 5 by omega) (by decide), by rw [Rat.den_natCast]; decide⟩
  walk_at "z"
  refine ⟨_, _, t, 0, rfl, dp_mono s1 ht, T.d_ZERO _, bt, ⟨by decide, by decide⟩, ?_⟩
  walk_at "z"
  refine z_if (fun c => ?_) (fun c => ?_)
  · walk_at "z"
    refine q _ _ s1 ?_
    unfold clampQ
    rw [if_pos (cmp_neg.mp c)]
    exact T.d_ZERO _
  walk_at "z"
  refine ⟨_, _, t, _, rfl, dp_mono s1 ht, whole, bt, bm, ?_⟩
  walk_at "z"
  refine z_if (fun c2 => ?_) (fun c2 => ?_)
  · walk_at "z"
    refine q _ _ s1 ?_
    unfold clampQ
    rw [if_neg (fun z => c (cmp_neg.mpr z)), if_pos (cmp_pos.mp c2)]
    exact whole
  walk_at "z"
  refine q _ _ s1 ?_
  unfold clampQ
  rw [if_neg (fun z => c (cmp_neg.mpr z)), if_neg (fun z => c2 (cmp_pos.mpr z))]
  exact dp_mono s1 ht
theorem ok_time_on {P : Program} {w : World} {K : PySem.W.Frag} {mg : Str → Option Value} {base : Heap} {A : Nat → Addr} {D : Nat → FuncData} (T : Txt K mg A D) : FnOk P w K mg base (L2.CX P w) 3 (A 14) (D 14) ["path", "time"] (sp_time_on K) := by
  refine T.F_time_on.okX sc_time_on (fun vs H Q E h => ?_) (fun cdv A' outer s H vs Q E hr h => ?_)
  · obtain ⟨_, _, _, _, _, _, rfl, _⟩ := h
    rfl
  obtain ⟨_, w, ks, ss, cyc, t, rfl, P, ht, b, q⟩ := h
  have n1 := P.n1
  have n2 := P.n2
  have n3 := P.n3
  obtain ⟨a, k, g, rfl, h1, h2, h3⟩ := P.at_
  have hd := t.den_nz
  refine ⟨_, (pss_cons (ps_if (pt_not (pt_val (pe_ix ix_tup (pv 0) pe_int (fun _ _ => rfl))))
  (pss_one (ps_ret (pe_call (ok_clamped T) (hr.mono (by decide)) (by rfl) T.m_clamped T.F_clamped.kp T.b_clamped .nil (passes_call (takes_of rfl rfl rfl rfl) (fun _ _ _ _ h => h)) (pa_cons (pv 0) (pa_cons (pv 1) pa_nil)))))
  pss_nil)
  (pss_cons (ps_asg (pv 1) (pg_tup (by rfl) (pgs_cons (pg_name (i := 2) sc_time_on.nd rfl (.inl rfl)) (pgs_cons (pg_name (i := 3) sc_time_on.nd rfl (.inl rfl)) pgs_nil))))
  (pss_one (ps_ret (pe_call (ok_ratio T) (hr.mono (by decide)) (by rfl) T.m_ratio T.F_ratio.kp T.b_ratio .nil (passes_call (takes_of rfl rfl rfl rfl) (fun _ _ _ _ h => h)) (pa_cons (pe_op op_mod (pv 2) (pe_op op_mulW (pe_call (ok_length T) (hr.mono (by decide)) (by rfl) T.m_length T.F_length.kp T.b_length .nil (passes_call (takes_of rfl rfl rfl rfl) (fun _ _ _ _ h => h)) (pa_cons (pv 0) pa_nil)) (pv 3))) (pa_cons (pv 3) pa_nil))))))), ?_⟩
  walk_at "z"
  cases cyc with
  | false =>
    walk_at "z"
    exact ⟨_, w, ks, ss, false, t, rfl, P, ht, b, q⟩
  | true =>
    obtain ⟨pt, rfl, hpt⟩ := dp_q ht
    walk_at "z"
    refine ⟨_, ks, ss, true, rfl, P, ?_⟩
    walk_at "z"
    have hss : ss.length = ks.length := by simpa using n3
    have b2 := b.2
    refine z_I (wide_mul (a := 8) (b := 8) (Nat.lt_of_le_of_lt (show ((ss.length : Int)).natAbs ≤ 5 by omega) (by decide)) (Nat.lt_of_le_of_lt (show ((t.den : Int)).natAbs ≤ 9 by omega) (by decide)) (by decide) (by decide) (by decide)) ?_
    have hp : 0 < (ss.length : Int) * (t.den : Int) := Int.mul_pos (by omega) (by omega)
    walk_at "z"
    have a0 := Int.emod_nonneg t.num (show (ss.length : Int) * (t.den : Int) ≠ 0 by omega)
    have a1 := Int.emod_lt_of_pos t.num hp
    have a2 : (ss.length : Int) * (t.den : Int) ≤ 5 * 9 := Int.mul_le_mul (by omega) (by omega) (by omega) (by decide)
    refine rat_use (small1000 (by omega)) (small1000 (by omega)) (by omega) ⟨fun n => ?_, fun _ => ?_⟩
    · exact absurd ((bd_divInt (n := t.num % ((ss.length : Int) * (t.den : Int))) (d := (t.den : Int)) (by omega)).fits (by omega) (by omega)) n
    · exact q
theorem ok_segment_at {P : Program} {w : World} {K : PySem.W.Frag} {mg : Str → Option Value} {base : Heap} {A : Nat → Addr} {D : Nat → FuncData} (T : Txt K mg A D) : FnOk P w K mg base (L2.CX P w) 1 (A 16) (D 16) ["path", "n"] (sp_segment_at K) := by
  refine T.F_segment_at.okX sc_segment_at (fun vs H Q E h => ?_) (fun cdv A' outer s H vs Q E hr h => ?_)
  · obtain ⟨_, _, _, _, _, _, _, _, rfl, _⟩ := h
    rfl
  obtain ⟨_, n, ks, ss, cyc, wa, sg, wb, rfl, P, hn, e1, e2, e3, q⟩ := h
  have n1 := P.n1
  obtain ⟨a, k, g, rfl, h1, h2, h3⟩ := P.at_
  have e4 : (n : Int) % (ss.length : Int) = (n : Int) := Int.emod_eq_of_lt (by omega) (by omega)
  refine ⟨_, (pss_cons (ps_asg (pv 0) (pg_tup (by rfl) (pgs_cons (pg_name (i := 2) sc_segment_at.nd rfl (.inl rfl)) (pgs_cons (pg_name (i := 3) sc_segment_at.nd rfl (.inl rfl)) (pgs_cons (pg_name (i := 4) sc_segment_at.nd rfl (.inl rfl)) pgs_nil)))))
  (pss_cons (ps_set (i := 5) sc_segment_at.nd rfl (.inl rfl) (pe_op op_mod (pv 1) (pe_callB Z.c_len (by rfl) T.z_len (by decide +kernel) (pa_cons (pv 3) pa_nil))))
  (pss_one (ps_ret (pe_tup (pa_cons (pe_ix ix_tup (pv 2) (pv 5) (fun _ _ => rfl)) (pa_cons (pe_ix ix_tup (pv 3) (pv 5) (fun _ _ => rfl)) (pa_cons (pe_ix ix_tup (pv 2) (pe_op op_mod (pe_op op_add (pv 5) pe_int) (pe_callB Z.c_len (by rfl) T.z_len (by decide +kernel) (pa_cons (pv 2) pa_nil))) (fun _ _ => rfl)) pa_nil)))))))), ?_⟩
  walk_at "z"
  rw [e4]
  refine z_ixT h2 (atI_nat e1) ?_
  walk_at "z"
  refine z_ixT h3 (atI_nat e2) ?_
  walk_at "z"
  refine z_ixT h2 (show atI ks (((n : Int) + 1) % (ks.length : Int)) = some wb from by
    rw [show ((n : Int) + 1) % (ks.length : Int) = (((n + 1) % ks.length : Nat) : Int) by rw [Int.natCast_emod]; rfl]
    exact atI_nat e3) ?_
  walk_at "z"
  exact fun p H' _ s h => q p H' s h
theorem ok_point_at {P : Program} {w : World} {K : PySem.W.Frag} {mg : Str → Option Value} {base : Heap} {A : Nat → Addr} {D : Nat → FuncData} (T : Txt K mg A D) : FnOk P w K mg base (L2.CX P w) 6 (A 13) (D 13) ["path", "time"] (sp_point_at K) := by
  refine T.F_point_at.okX sc_point_at (fun vs H Q E h => ?_) (fun cdv A' outer s H vs Q E hr h => ?_)
  · obtain ⟨_, _, _, _, _, _, _, _, rfl, _⟩ := h
    rfl
  obtain ⟨_, w, ks, ss, cyc, t, x, y, rfl, P, ht, b, O, q⟩ := h
  have n1 := P.n1
  have n3 := P.n3
  obtain ⟨h0, h9, hle, _⟩ := held_ok (cyc := cyc) (m := ss.length) b (fun z => by rw [z] at n3; simp at n3; omega)
  refine ⟨_, (pss_cons (ps_set (i := 2) sc_point_at.nd rfl (.inl rfl) (pe_call (ok_time_on T) (hr.mono (by decide)) (by rfl) T.m_time_on T.F_time_on.kp T.b_time_on .nil (passes_call (takes_of rfl rfl rfl rfl) (fun _ _ _ _ h => h)) (pa_cons (pv 0) (pa_cons (pv 1) pa_nil))))
  (pss_cons (ps_set (i := 3) sc_point_at.nd rfl (.inl rfl) (pe_call (ok_floor_of T) (hr.mono (by decide)) (by rfl) T.m_floor_of T.F_floor_of.kp T.b_floor_of .nil (passes_call (takes_of rfl rfl rfl rfl) (fun _ _ _ _ h => h)) (pa_cons (pv 2) pa_nil)))
  (pss_cons (ps_if (pt_cmpR op_eq (pe_ix ix_tup (pv 2) pe_int (fun _ _ => rfl)) pe_int (nomark _))
  (pss_one (ps_ret (pe_ix ix_tup (pe_ix ix_tup (pv 0) pe_int (fun _ _ => rfl)) (pv 3) (fun _ _ => rfl))))
  pss_nil)
  (pss_cons (ps_asg (pe_call (ok_segment_at T) (hr.mono (by decide)) (by rfl) T.m_segment_at T.F_segment_at.kp T.b_segment_at .nil (passes_call (takes_of rfl rfl rfl rfl) (fun _ _ _ _ h => h)) (pa_cons (pv 0) (pa_cons (pv 3) pa_nil))) (pg_tup (by rfl) (pgs_cons (pg_name (i := 4) sc_point_at.nd rfl (.inl rfl)) (pgs_cons (pg_name (i := 5) sc_point_at.nd rfl (.inl rfl)) (pgs_cons (pg_name (i := 6) sc_point_at.nd rfl (.inl rfl)) pgs_nil)))))
  (pss_one (ps_ret (pe_ix ix_tup (pe_call (ok_cut_segment T) (hr.mono (by decide)) (by rfl) T.m_cut_segment T.F_cut_segment.kp T.b_cut_segment .nil (passes_call (takes_of rfl rfl rfl rfl) (fun _ _ _ _ h => h)) (pa_cons (pv 4) (pa_cons (pv 5) (pa_cons (pv 6) (pa_cons (pe_call (ok_subtract T) (hr.mono (by decide)) (by rfl) T.m_subtract T.F_subtract.kp T.b_subtract .nil (passes_call (takes_of rfl rfl rfl rfl) (fun _ _ _ _ h => h)) (pa_cons (pv 2) (pa_cons (pe_tup (pa_cons (pv 3) (pa_cons pe_int pa_nil))) pa_nil))) pa_nil))))) pe_int (fun _ _ => rfl)))))))), ?_⟩
  walk_at "z"
  refine ⟨_, w, ks, ss, cyc, t, rfl, P, ht, b, fun u1 H1 s1 e1 => ?_⟩
  generalize heldQ cyc ss.length t = h at *
  walk_at "z"
  refine ⟨_, h, rfl, e1, Nat.lt_of_le_of_lt h9 (by decide), ?_⟩
  have P1 := P.mono s1
  rw [← fl_eq h0]
  obtain ⟨pu, rfl, hpu⟩ := dp_q e1
  obtain ⟨a, k, g, rfl, g1, g2, g3⟩ := P1.at_
  walk_at "z"
  rcases O with ⟨hd, wv, hw, dw⟩ | ⟨hd, wa, sg, wb, k1, k2, k3, S⟩
  · refine z_if (fun c => ?_) (fun c => absurd (by omega) c)
    walk_at "z"
    refine z_ixT g2 (atI_nat hw) ?_
    exact q _ _ s1 (dp_mono s1 dw)
  refine z_if (fun c => absurd (by omega) hd) (fun c => ?_)
  walk_at "z"
  refine ⟨_, fl h, ks, ss, cyc, wa, sg, wb, rfl, P1, fl_lt h0 (not_whole hle hd), k1, k2, k3, fun p2 H2 s2 hp2 => ?_⟩
  walk_at "z"
  intro p3 H3 _ s3 h3
  have z3 := (s1.trans s2).trans s3
  have nn : Dp K H3 (.ref p3) (qD ((fl h : Nat) : Rat)) := dp_mkq (by rw [Rat.num_natCast, Rat.den_natCast]; exact h3)
  walk_at "z"
  have zf := frac_z h0 h9
  have m5 := fl_le h0 hle
  have n2 := P.n2
  have bn : Bg ((fl h : Nat) : Rat) := ⟨by rw [Rat.num_natCast]; exact Nat.lt_of_le_of_lt (show ((fl h : Nat) : Int).natAbs ≤ 6 by split at n3 <;> omega) (by decide), by rw [Rat.den_natCast]; decide⟩
  have m9 : (ss.length : Int) * (h.den : Int) ≤ 6 * 9 := Int.mul_le_mul (by split at n3 <;> omega) (by omega) (by omega) (by decide)
  have bh : Bg h := ⟨Nat.lt_of_le_of_lt (show h.num.natAbs ≤ 54 by omega) (by decide), Nat.lt_of_le_of_lt h9 (by decide)⟩
  refine opq (dp_mono (s2.trans s3) e1) nn bh bn (zfits zf (by decide) (by decide) (by decide)) fun u4 H4 s4 e4 => ?_
  have z4 := z3.trans s4
  obtain ⟨ax, ay, bx, by', d1, d2, b1, b2, b3, b4, S⟩ := S.mono z4
  walk_at "z"
  rcases S with ⟨rfl, rfl, rfl⟩ | ⟨cx, cy, dx, dy, c1, c2, c3, c4, d, rfl, rfl⟩
  · refine ⟨_, _, _, _, ax, ay, bx, by', _, rfl, d1, d2, e4, z60 b1, z60 b2, z60 b3, z60 b4, zf, .inl ⟨rfl, fun u5 H5 s5 e5 => ?_⟩⟩
    obtain ⟨pr, w1, w2, w3, rfl, hR, r1, r2, r3⟩ := dp_t3 e5
    walk_at "z"
    exact q _ _ (z4.trans s5) r2
  · refine ⟨_, _, _, _, ax, ay, bx, by', _, rfl, d1, d2, e4, z60 b1, z60 b2, z60 b3, z60 b4, zf, .inr ⟨cx, cy, dx, dy, d, z60 c1, z60 c2, z60 c3, z60 c4, fun u5 H5 s5 e5 => ?_⟩⟩
    obtain ⟨pr, w1, w2, w3, rfl, hR, r1, r2, r3⟩ := dp_t3 e5
    walk_at "z"
    exact q _ _ (z4.trans s5) r2
end
/-! ### drawn paths -/
theorem PtOk.kp {K : PySem.W.Frag} {H0 H H' : Hp} {p : Addr} {v : V} (S : Sd H0 H p) (k : Kp p H H') (h : PtOk K H v) : PtOk K H' v := by
  obtain ⟨x, y, a, b, d⟩ := h
  exact ⟨x, y, a, b, kp_sd S k rfl d⟩
theorem SgOk.kp {K : PySem.W.Frag} {H0 H H' : Hp} {p : Addr} {v : V} (S : Sd H0 H p) (k : Kp p H H') (h : SgOk K H v) : SgOk K H' v := by
  rcases h with h | ⟨cx, cy, dx, dy, a, b, c, d, e⟩
  · exact .inl h
  · exact .inr ⟨cx, cy, dx, dy, a, b, c, d, kp_sd S k rfl e⟩
theorem PtOk.upd {K : PySem.W.Frag} {H : Hp} {D : Addr} {v : V} {xs : List V} {o : HO} (h : PtOk K H v) (hH : H D = some (.lst xs)) : PtOk K (upd H D o) v := by
  obtain ⟨x, y, a, b, d⟩ := h
  exact ⟨x, y, a, b, dp_kp kp_self' hH rfl d⟩
theorem SgOk.upd {K : PySem.W.Frag} {H : Hp} {D : Addr} {v : V} {xs : List V} {o : HO} (h : SgOk K H v) (hH : H D = some (.lst xs)) : SgOk K (upd H D o) v := by
  rcases h with h | ⟨cx, cy, dx, dy, a, b, c, d, e⟩
  · exact .inl h
  · exact .inr ⟨cx, cy, dx, dy, a, b, c, d, dp_kp kp_self' hH rfl e⟩
theorem Sd.upd' {H0 H : Hp} {p q : Addr} {o : HO} (S : Sd H0 H p) (h0 : H0 q = none) (hq : q ≠ p) : Sd H0 (upd H q o) p := by
  obtain ⟨a, b, m, e⟩ := S.stm
  refine ⟨fun c x hc => ?_, S.fresh, a, b, m, by rw [upd_ne (Ne.symm hq)]; exact e⟩
  rw [upd_ne (ne_of_none hc h0)]
  exact S.same c x hc
theorem point_mono {K : PySem.W.Frag} {E : XK} (σ' : L2.St) (H' : Hp) (Q Q' : VK) (h : ∀ y H4, Q y H4 → Q' y H4) (q : tCall (sp__law_point K) [] E (tCons (tVar 0) tNil) σ' H' Q) : tCall (sp__law_point K) [] E (tCons (tVar 0) tNil) σ' H' Q' := by
  obtain ⟨v, hv, p, H0, e, S, q⟩ := q
  exact ⟨v, hv, p, H0, e, S, fun v x y H9 b b' S9 k9 d => h _ _ (q v x y H9 b b' S9 k9 d)⟩
def sp__law_path (K : PySem.W.Frag) : Sp := fun vs H Q _ => ∃ (p : Addr) (H0 : Hp), vs = [.ref p, .int 5] ∧ Sd H0 H p ∧ ∀ (v : V) (ks ss : List V) (cyc : Bool) (H' : Hp), PathOk K H' v ks ss cyc → Sd H0 H' p → Q v H'
section
theorem ok__law_path {P : Program} {w : World} {K : PySem.W.Frag} {mg : Str → Option Value} {base : Heap} {A : Nat → Addr} {D : Nat → FuncData} (T : Txt K mg A D) : FnOk P w K mg base (L2.CX P w) 4 (A 29) (D 29) ["stream", "most"] (sp__law_path K) := by
  refine T.F__law_path.okX sc__law_path (fun vs H Q E h => ?_) (fun cdv A' outer s H vs Q E hr h => ?_)
  · obtain ⟨p, H0, rfl, _⟩ := h
    rfl
  obtain ⟨p, H0, rfl, S, q⟩ := h
  refine ⟨_, (pss_cons (ps_set (i := 2) sc__law_path.nd rfl (.inl rfl) (pe_op op_add (pe_call (ok__law_next T) (hr.mono (by decide)) (by rfl) T.m__law_next T.F__law_next.kp T.b__law_next .nil (passes_call (takes_of rfl rfl rfl rfl) (fun _ _ _ _ h => h)) (pa_cons (pv 0) (pa_cons (pv 1) pa_nil))) pe_int))
  (pss_cons (ps_set (i := 3) sc__law_path.nd rfl (.inl rfl) (pe_cmpR op_eq (pe_call (ok__law_next T) (hr.mono (by decide)) (by rfl) T.m__law_next T.F__law_next.kp T.b__law_next .nil (passes_call (takes_of rfl rfl rfl rfl) (fun _ _ _ _ h => h)) (pa_cons (pv 0) (pa_cons pe_int pa_nil))) pe_int (nomark _)))
  (pss_cons (ps_setLc (i := 4) (own := [("k", 5)]) (g := gName 5) (tt := tYes) rfl sc__law_path.nd rfl rfl (sw_true rfl rfl rfl (by decide +kernel)) (pi_range1 (by rfl) T.z_range (pa_cons (pv 2) pa_nil)) (blkOk_by (N := ["stream", "most", "count", "is_cycle", "knots", "k", "segments", "first"]) (sc := defScope s__law_path) (by decide +kernel)) (fun _ _ _ _ _ => pg_name (i := 5) sc__law_path.nd rfl (Or.inl rfl)) (fun _ _ _ _ _ => pts_nil) (fun _ _ _ _ _ => (pe_call (ok__law_point T) (hr.mono (by decide)) (by rfl) T.m__law_point T.F__law_point.kp T.b__law_point .nil passL (pa_cons (pv 0) pa_nil))))
  (pss_cons (ps_set (i := 6) sc__law_path.nd rfl (.inl rfl) (pe_lst pa_nil))
  (pss_cons (ps_for (passes_of rfl) rfl (pi_range1 (by rfl) T.z_range (pa_cons (pe_op op_add (pe_op op_sub (pv 2) pe_int) (pe_callTy Z.c_int (by rfl) T.z_int (by decide +kernel) (pa_cons (pv 3) pa_nil))) pa_nil)) (pg_name (i := 5) sc__law_path.nd rfl (.inl rfl))
  (pss_one (ps_if (pt_cmpR op_eq (pe_call (ok__law_next T) (hr.mono (by decide)) (by rfl) T.m__law_next T.F__law_next.kp T.b__law_next .nil (passes_call (takes_of rfl rfl rfl rfl) (fun _ _ _ _ h => h)) (pa_cons (pv 0) (pa_cons pe_int pa_nil))) pe_int (nomark _))
  (pss_one (ps_expr (pe_bm PySem.F.plainAttrs_list PySem.F.slot_list_append PySem.F.type_list_append mt_append (pv 6) (pa_cons pe_non pa_nil))))
  (pss_cons (ps_set (i := 7) sc__law_path.nd rfl (.inl rfl) (pe_call (ok__law_point T) (hr.mono (by decide)) (by rfl) T.m__law_point T.F__law_point.kp T.b__law_point .nil (passes_call (takes_of rfl rfl rfl rfl) (fun _ _ _ _ h => h)) (pa_cons (pv 0) pa_nil)))
  (pss_one (ps_expr (pe_bm PySem.F.plainAttrs_list PySem.F.slot_list_append PySem.F.type_list_append mt_append (pv 6) (pa_cons (pe_tup (pa_cons (pv 7) (pa_cons (pe_call (ok__law_point T) (hr.mono (by decide)) (by rfl) T.m__law_point T.F__law_point.kp T.b__law_point .nil (passes_call (takes_of rfl rfl rfl rfl) (fun _ _ _ _ h => h)) (pa_cons (pv 0) pa_nil)) pa_nil))) pa_nil))))))))
  (pss_one (ps_ret (pe_tup (pa_cons (pe_callTy Z.c_tupOf (by rfl) T.z_tuple (by decide +kernel) (pa_cons (pv 4) pa_nil)) (pa_cons (pe_callTy Z.c_tupOf (by rfl) T.z_tuple (by decide +kernel) (pa_cons (pv 6) pa_nil)) (pa_cons (pv 3) pa_nil))))))))))), ?_⟩
  walk_at "z"
  refine nx S (by decide) (lt1000 (by decide)) fun c H1 c0 c1 S1 e1 => ?_
  walk_at "z"
  refine nx S1 (by decide) (lt1000 (by decide)) fun i H2 _ _ S2 e2 => ?_
  walk_at "z"
  obtain ⟨n, hn⟩ : ∃ n : Nat, c + 1 = (n : Int) := ⟨(c + 1).toNat, by omega⟩
  generalize decide (i = 0) = cyc
  refine z_lcR1 n (by omega) (fun R q => by walk_at "z"; rw [hn]; exact q) (fun _ => rfl) (fun i D acc H' => Sd H0 H' p ∧ H0 D = none ∧ D ≠ p ∧ ∀ v ∈ acc, PtOk K H' v) (fun D H' hD s _ => ⟨S2.mono s, S2.same.free hD, S2.ne0 hD, fun v hv => absurd hv List.not_mem_nil⟩) ?_ point_mono ?_
  · rintro i D acc H3 hi hl hH ⟨S3, hD0, hDp, ha⟩
    walk_at "z"
    refine ⟨p, H0, rfl, S3, fun v x y H4 bx by' S4 k4 d => ?_⟩
    have hH4 := k4 _ _ hDp hH
    refine ⟨hH4, S4.upd' hD0 hDp, hD0, hDp, fun w hw => ?_⟩
    rcases List.mem_append.mp hw with hw | hw
    · exact ((ha w hw).kp S3 k4).upd hH4
    · rw [List.mem_singleton.mp hw]
      exact ⟨x, y, bx, by', dp_kp kp_self' hH4 rfl d⟩
  rintro Dk ks H3 hl hHk ⟨S3, hDk0, hDkp, hks⟩
  walk_at "z"
  intro D H4 hD s4 h4
  have S4 := S3.mono s4
  have hk4 := s4 _ _ hHk
  have hD0 := S3.same.free hD
  have hDp := S3.ne0 hD
  have hDDk : Dk ≠ D := ne_of_none hHk hD
  walk_at "z"
  obtain ⟨m, hm⟩ : ∃ m : Nat, m + 1 = n + (if cyc = true then 1 else 0) := ⟨n - 1 + (if cyc = true then 1 else 0), by omega⟩
  have hm6 : m ≤ 6 := by split at hm <;> omega
  refine z_forR1 m (by omega) (fun R q => by
    walk_at "z"
    rw [show c + 1 - 1 + (if cyc = true then (1 : Int) else 0) = (m : Int) by cases cyc <;> simp at hm ⊢ <;> omega]
    exact q) (fun i σ' H' => Sd H0 H' p ∧ H' Dk = some (.lst ks) ∧ (∀ w ∈ ks, PtOk K H' w) ∧ ∃ (acc : List V) (kv fv : Option V), σ' = [some (.ref p), some (.int 5), some (.int (c + 1)), some (.bl cyc), some (.ref Dk), kv, some (.ref D), fv] ∧ acc.length = i ∧ H' D = some (.lst acc) ∧ ∀ w ∈ acc, SgOk K H' w)
    ⟨S4, hk4, fun w hw => (hks w hw).mono s4, [], _, _, rfl, rfl, h4, fun v hv => absurd hv List.not_mem_nil⟩ ?_ ?_
  · rintro i σ' H5 hi ⟨S5, hk5, hp5, acc, kv, fv, rfl, hl5, h5, hs5⟩
    walk_at "z"
    refine nx S5 (by decide) (lt1000 (by decide)) fun z H6 _ _ S6 e6 => ?_
    have k6 := kp_eq e6
    have h6 := k6 _ _ hDp h5
    have hk6 := k6 _ _ hDkp hk5
    walk_at "z"
    refine z_if (fun cc => ?_) (fun cc => ?_)
    · walk_at "z"
      refine z_bmL (fun R q => by walk_at "z"; exact q) h6 ?_
      walk_at "z"
      refine z_append h6 (by omega) ?_
      walk_at "z"
      refine ⟨S6.upd' hD0 hDp, by rw [upd_ne hDDk]; exact hk6, fun w hw => ((hp5 w hw).kp S5 k6).upd h6, acc ++ [.non], _, _, rfl, by simp [hl5], upd_same, fun w hw => ?_⟩
      rcases List.mem_append.mp hw with hw | hw
      · exact ((hs5 w hw).kp S5 k6).upd h6
      · exact .inl (List.mem_singleton.mp hw)
    · walk_at "z"
      refine ⟨p, H0, rfl, S6, fun v1 x1 y1 H7 b1 b1' S7 k7 d1 => ?_⟩
      have h7 := k7 _ _ hDp h6
      walk_at "z"
      refine z_bmL (fun R q => by walk_at "z"; exact q) h7 ?_
      walk_at "z"
      refine ⟨p, H0, rfl, S7, fun v2 x2 y2 H8 b2 b2' S8 k8 d2 => ?_⟩
      walk_at "z"
      intro pt H9 _ s9 h9
      walk_at "z"
      have hD9 := s9 _ _ (k8 _ _ hDp h7)
      have hk9 := s9 _ _ (k8 _ _ hDkp (k7 _ _ hDkp hk6))
      refine z_append hD9 (by omega) ?_
      walk_at "z"
      refine ⟨(S8.mono s9).upd' hD0 hDp, by rw [upd_ne hDDk]; exact hk9, fun w hw => ((((hp5 w hw).kp S5 k6).kp S6 k7).kp S7 k8 |>.mono s9).upd hD9, acc ++ [.ref pt], _, _, rfl, by simp [hl5], upd_same, fun w hw => ?_⟩
      rcases List.mem_append.mp hw with hw | hw
      · exact ((((hs5 w hw).kp S5 k6).kp S6 k7).kp S7 k8 |>.mono s9).upd hD9
      · rw [List.mem_singleton.mp hw]
        exact .inr ⟨x1, y1, x2, y2, b1, b1', b2, b2', dp_kp kp_self' hD9 rfl (dp_tt h9 (dp_mono s9 (kp_sd S7 k8 rfl d1)) (dp_mono s9 d2))⟩
  rintro σ' H5 ⟨S5, hk5, hp5, acc, kv, fv, rfl, hl5, h5, hs5⟩
  walk_at "z"
  refine z_tupOf (.inl (.inl hk5)) fun pk H6 _ s6 h6 => ?_
  have h5' := s6 _ _ h5
  walk_at "z"
  refine z_tupOf (.inl (.inl h5')) fun ps H7 _ s7 h7 => ?_
  walk_at "z"
  intro pp H8 _ s8 h8
  have z8 := (s6.trans s7).trans s8
  exact q _ ks acc cyc H8 ⟨⟨pp, pk, ps, rfl, .inl (.inl h8), .inl (.inl ((s7.trans s8) _ _ h6)), .inl (.inl (s8 _ _ h7))⟩, by omega, by omega, by rw [hl5, hl]; exact hm, fun w hw => (hp5 w hw).mono z8, fun w hw => (hs5 w hw).mono z8⟩ (S5.mono z8)
end
theorem onSeg {K : PySem.W.Frag} {H : Hp} {wa sg wb t : V} {f x y : Rat} {Q : VK} {E : XK} (S : SegPt K H wa sg wb f x y) (hf : Dp K H t (qD f)) (zf : Zb f 2520 7560) (q : RetD K H (pD x y) Q) : sp__law_on_segment K [wa, sg, wb, t] H Q E := by
  obtain ⟨ax, ay, bx, by', d1, d2, b1, b2, b3, b4, ⟨rfl, rfl, rfl⟩ | ⟨cx, cy, dx, dy, c1, c2, c3, c4, d, rfl, rfl⟩⟩ := S
  · exact onL d1 d2 hf (nu0 (z60 b1)) (nu0 (z60 b2)) (nu0 (z60 b3)) (nu0 (z60 b4)) (tuf zf) q
  · exact onS d1 d d2 hf (nu0 (z60 b1)) (nu0 (z60 b2)) (nu0 (z60 b3)) (nu0 (z60 b4)) (nu0 (z60 c1)) (nu0 (z60 c2)) (nu0 (z60 c3)) (nu0 (z60 c4)) (tuf zf) (by rw [bern_cut, bern_cut]; exact q)
theorem PointOk.mono {K : PySem.W.Frag} {H H' : Hp} {ks ss : List V} {h x y : Rat} (s : Same H H') (O : PointOk K H ks ss h x y) : PointOk K H' ks ss h x y := by
  rcases O with ⟨hd, w, hw, d⟩ | ⟨hd, wa, sg, wb, k1, k2, k3, S⟩
  · exact .inl ⟨hd, w, hw, dp_mono s d⟩
  · exact .inr ⟨hd, wa, sg, wb, k1, k2, k3, S.mono s⟩
theorem get_lt {xs : List V} {n : Nat} (h : n < xs.length) : ∃ v, xs[n]? = some v ∧ v ∈ xs := ⟨xs[n], List.getElem?_eq_getElem h, List.getElem_mem h⟩
def sp_law (K : PySem.W.Frag) : Sp := fun vs H Q _ => ∃ (a : Addr) (ns : List Int), vs = [.ref a] ∧ SqL K H a (ns.map V.int) ∧ ns.length ≤ 63 ∧ ∀ H', Q (.bl true) H'
section
theorem ok_law {P : Program} {w : World} {K : PySem.W.Frag} {mg : Str → Option Value} {base : Heap} {A : Nat → Addr} {D : Nat → FuncData} (T : Txt K mg A D) : FnOk P w K mg base CX0 7 (A 32) (D 32) ["script"] (sp_law K) := by
  refine T.F_law.ok sc_law (fun vs H Q E h => ?_) (fun cdv A' outer s H vs Q E hr h => ?_)
  · obtain ⟨l, ns, rfl, _⟩ := h
    rfl
  obtain ⟨l, ns, rfl, hS, _, q⟩ := h
  refine ⟨_, (pss_cons (ps_set (i := 1) sc_law.nd rfl (.inl rfl) (pe_call (ok__law_stream T) (hr.mono (by decide)) (by rfl) T.m__law_stream T.F__law_stream.kp T.b__law_stream .nil passL (pa_cons (pe_call (ok__law_cell T) (hr.mono (by decide)) (by rfl) T.m__law_cell T.F__law_cell.kp T.b__law_cell .nil passL (pa_cons (pv 0) (pa_cons pe_int pa_nil))) pa_nil)))
  (pss_cons (ps_set (i := 2) sc_law.nd rfl (.inl rfl) (pe_call (ok__law_path T) (hr.mono (by decide)) (by rfl) T.m__law_path T.F__law_path.kp T.b__law_path .nil passL (pa_cons (pv 1) (pa_cons pe_int pa_nil))))
  (pss_cons (ps_set (i := 3) sc_law.nd rfl (.inl rfl) (pe_call (ok__law_stream T) (hr.mono (by decide)) (by rfl) T.m__law_stream T.F__law_stream.kp T.b__law_stream .nil passL (pa_cons (pe_call (ok__law_cell T) (hr.mono (by decide)) (by rfl) T.m__law_cell T.F__law_cell.kp T.b__law_cell .nil passL (pa_cons (pv 0) (pa_cons pe_int pa_nil))) pa_nil)))
  (pss_cons (ps_set (i := 4) sc_law.nd rfl (.inl rfl) (pe_op op_add (pe_call (ok__law_next T) (hr.mono (by decide)) (by rfl) T.m__law_next T.F__law_next.kp T.b__law_next .nil passL (pa_cons (pv 3) (pa_cons pe_int pa_nil))) pe_int))
  (Evl.pss_cut (ps_if (pt_cmpR op_eq (pe_call (ok__law_next T) (hr.mono (by decide)) (by rfl) T.m__law_next T.F__law_next.kp T.b__law_next .nil passL (pa_cons (pv 3) (pa_cons pe_int pa_nil))) pe_int (nomark _))
  (pss_one (ps_set (i := 4) sc_law.nd rfl (.inl rfl) pe_int))
  pss_nil)
  (pss_cons (ps_set (i := 5) sc_law.nd rfl (.inl rfl) (pe_op op_sub (pe_call (ok__law_next T) (hr.mono (by decide)) (by rfl) T.m__law_next T.F__law_next.kp T.b__law_next .nil passL (pa_cons (pv 3) (pa_cons (pe_op op_add (pe_op op_mul pe_int (pv 4)) pe_int) pa_nil))) (pe_op op_mul pe_int (pv 4))))
  (Evl.pss_cut (ps_if (pt_cmpR op_eq (pe_call (ok__law_next T) (hr.mono (by decide)) (by rfl) T.m__law_next T.F__law_next.kp T.b__law_next .nil passL (pa_cons (pv 3) (pa_cons pe_int pa_nil))) pe_int (nomark _))
  (pss_one (ps_set (i := 5) sc_law.nd rfl (.inl rfl) (pe_op op_sub (pe_call (ok__law_next T) (hr.mono (by decide)) (by rfl) T.m__law_next T.F__law_next.kp T.b__law_next .nil passL (pa_cons (pv 3) (pa_cons (pe_op op_add (pe_op op_mul pe_int (Z.pe_powc (v := 1000000000000000) ⟨by decide, by decide, by decide⟩ (by decide))) pe_int) pa_nil))) (Z.pe_powc (v := 1000000000000000) ⟨by decide, by decide, by decide⟩ (by decide)))))
  pss_nil)
  (pss_cons (ps_set (i := 6) sc_law.nd rfl (.inl rfl) (pe_call (ok__law_ratio T) (hr.mono (by decide)) (by rfl) T.m__law_ratio T.F__law_ratio.kp T.b__law_ratio .nil passL (pa_cons (pv 5) (pa_cons (pv 4) pa_nil))))
  (pss_cons (ps_set (i := 7) sc_law.nd rfl (.inl rfl) (pe_callB Z.c_len (by rfl) T.z_len (by decide +kernel) (pa_cons (pe_ix ix_tup (pv 2) pe_int (fun _ _ => rfl)) pa_nil)))
  (Evl.pss_cut (ps_if (pt_val (pe_ix ix_tup (pv 2) pe_int (fun _ _ => rfl)))
  (pss_one (ps_set (i := 8) sc_law.nd rfl (.inl rfl) (pe_call (ok__law_ratio T) (hr.mono (by decide)) (by rfl) T.m__law_ratio T.F__law_ratio.kp T.b__law_ratio .nil passL (pa_cons (pe_op op_mod (pe_callTy Z.c_int (by rfl) T.z_int (by decide +kernel) (pa_cons (pe_ix ix_tup (pv 6) pe_int (fun _ _ => rfl)) pa_nil)) (pe_op op_mulW (pv 7) (pe_ix ix_tup (pv 6) pe_int (fun _ _ => rfl)))) (pa_cons (pe_ix ix_tup (pv 6) pe_int (fun _ _ => rfl)) pa_nil)))))
  (pss_one (ps_if (pt_cmpR op_lt (pe_ix ix_tup (pv 6) pe_int (fun _ _ => rfl)) pe_int (nomark _))
  (pss_one (ps_set (i := 8) sc_law.nd rfl (.inl rfl) (pe_tup (pa_cons pe_int (pa_cons pe_int pa_nil)))))
  (pss_one (ps_if (pt_cmpR op_gt (pe_ix ix_tup (pv 6) pe_int (fun _ _ => rfl)) (pe_op op_mulW (pv 7) (pe_ix ix_tup (pv 6) pe_int (fun _ _ => rfl))) (nomark _))
  (pss_one (ps_set (i := 8) sc_law.nd rfl (.inl rfl) (pe_tup (pa_cons (pv 7) (pa_cons pe_int pa_nil)))))
  (pss_one (ps_set (i := 8) sc_law.nd rfl (.inl rfl) (pv 6))))))))
  (pss_cons (ps_set (i := 9) sc_law.nd rfl (.inl rfl) (pe_op op_fdivW (pe_ix ix_tup (pv 8) pe_int (fun _ _ => rfl)) (pe_ix ix_tup (pv 8) pe_int (fun _ _ => rfl))))
  (pss_cons (ps_set (i := 10) sc_law.nd rfl (.inl rfl) (pe_call (ok__law_difference T) (hr.mono (by decide)) (by rfl) T.m__law_difference T.F__law_difference.kp T.b__law_difference .nil passL (pa_cons (pv 8) (pa_cons (pe_tup (pa_cons (pv 9) (pa_cons pe_int pa_nil))) pa_nil))))
  (pss_cons (ps_set (i := 11) sc_law.nd rfl (.inl rfl) (pe_ix ix_tup (pe_ix ix_tup (pv 2) pe_int (fun _ _ => rfl)) (pe_op op_mod (pe_callTy Z.c_int (by rfl) T.z_int (by decide +kernel) (pa_cons (pv 9) pa_nil)) (pe_callB Z.c_len (by rfl) T.z_len (by decide +kernel) (pa_cons (pe_ix ix_tup (pv 2) pe_int (fun _ _ => rfl)) pa_nil))) (fun _ _ => rfl)))
  (Evl.pss_cut (ps_if (pt_cmpR op_ne (pe_ix ix_tup (pv 10) pe_int (fun _ _ => rfl)) pe_int (nomark _))
  (pss_cons (ps_set (i := 12) sc_law.nd rfl (.inl rfl) (pe_ix ix_tup (pe_ix ix_tup (pv 2) pe_int (fun _ _ => rfl)) (pe_op op_mod (pe_callTy Z.c_int (by rfl) T.z_int (by decide +kernel) (pa_cons (pe_op op_add (pv 9) pe_int) pa_nil)) (pe_callB Z.c_len (by rfl) T.z_len (by decide +kernel) (pa_cons (pe_ix ix_tup (pv 2) pe_int (fun _ _ => rfl)) pa_nil))) (fun _ _ => rfl)))
  (pss_one (ps_set (i := 11) sc_law.nd rfl (.inl rfl) (pe_call (ok__law_on_segment T) (hr.mono (by decide)) (by rfl) T.m__law_on_segment T.F__law_on_segment.kp T.b__law_on_segment .nil passL (pa_cons (pv 11) (pa_cons (pe_ix ix_tup (pe_ix ix_tup (pv 2) pe_int (fun _ _ => rfl)) (pv 9) (fun _ _ => rfl)) (pa_cons (pv 12) (pa_cons (pv 10) pa_nil))))))))
  pss_nil)
  (pss_cons (ps_set (i := 13) sc_law.nd rfl (.inl rfl) (pe_call (ok_point_at T) (hr.mono (by decide)) (by rfl) T.m_point_at T.F_point_at.kp T.b_point_at .nil passL (pa_cons (pv 2) (pa_cons (pv 6) pa_nil))))
  (pss_one (ps_ret (pe_and (pe_call (ok__law_is_point T) (hr.mono (by decide)) (by rfl) T.m__law_is_point T.F__law_is_point.kp T.b__law_is_point .nil passL (pa_cons (pv 13) pa_nil)) (pe_one (pe_cmpR (op_eqD hr.units) (pv 13) (pv 11) (nomark _))))))))))))))))))))), ?_⟩
  walk_at "z"
  refine ⟨l, ns, 0, rfl, hS, fun v => ?_⟩
  walk_at "z"
  refine ⟨v, rfl, fun p H1 i1 j1 m hp s1 h1 => ?_⟩
  have S1 := Sd.mk0 hp s1 h1
  walk_at "z"
  refine ⟨p, H, rfl, S1, fun vp ks ss cyc H2 P S2 => ?_⟩
  walk_at "z"
  refine ⟨l, ns, 1, rfl, S2.same.seq hS, fun v2 => ?_⟩
  walk_at "z"
  refine ⟨v2, rfl, fun p2 H3 i2 j2 m2 hp2 s3 h3 => ?_⟩
  have S3 := Sd.mk0 hp2 s3 h3
  walk_at "z"
  refine nx S3 (by decide) (lt1000 (by decide)) fun c H4 c0 c1 S4 e4 => ?_
  walk_at "z"
  refine z_cut (fun σ' H' => ∃ d : Int, σ' = [some (.ref l), some (.ref p), some vp, some (.ref p2), some (.int d), none, none, none, none, none, none, none, none, none] ∧ 1 ≤ d ∧ d ≤ 9 ∧ Sd H2 H' p2) ?_ ?_
  · walk_at "z"
    refine nx S4 (by decide) (lt1000 (by decide)) fun k H5 _ _ S5 e5 => ?_
    walk_at "z"
    refine z_if (fun cc => ?_) (fun cc => ?_)
    · walk_at "z"
      exact ⟨_, rfl, by omega, by omega, S5⟩
    · walk_at "z"
      exact ⟨_, rfl, by omega, by omega, S5⟩
  clear S1 S2 S3 S4 e4 h3 s3 hp2 h1 s1 hp c0 c1
  rintro σ' H5 ⟨d, rfl, d1, d9, S5⟩
  walk_at "z"
  refine nx S5 (by omega) (lt1000 (Nat.lt_of_le_of_lt (show (24 * d + 1).natAbs ≤ 300 by omega) (by decide))) fun n H6 n0 n1 S6 e6 => ?_
  walk_at "z"
  refine z_cut (fun σ' H' => ∃ n : Int, σ' = [some (.ref l), some (.ref p), some vp, some (.ref p2), some (.int d), some (.int n), none, none, none, none, none, none, none, none] ∧ n.natAbs ≤ 1000000000000000 ∧ Sd H2 H' p2) ?_ ?_
  · walk_at "z"
    refine nx S6 (by decide) (lt1000 (by decide)) fun k H7 _ _ S7 e7 => ?_
    walk_at "z"
    refine z_if (fun cc => ?_) (fun cc => ?_)
    · walk_at "z"
      refine nx S7 (by decide) (lt1000 (by decide)) fun k H8 k0 k1 S8 e8 => ?_
      walk_at "z"
      exact ⟨_, rfl, by omega, S8⟩
    · walk_at "z"
      exact ⟨_, rfl, by omega, S7⟩
  clear S5 S6 e6 n0 n1
  rintro σ' H7 ⟨n, rfl, hn, S7⟩
  walk_at "z"
  refine ⟨_, _, rfl, by omega, lt400 (Nat.lt_of_le_of_lt hn (by decide)), lt400 (Nat.lt_of_le_of_lt (show d.natAbs ≤ 9 by omega) (by decide)), fun vt H8 s8 e8 => ?_⟩
  have bt : Bd (Rat.divInt n d) 1000000000000000 9 := (bd_divInt (by omega)).le hn (by omega)
  have P8 := P.mono (S7.same.trans s8)
  clear P S7 s8 hn
  generalize Rat.divInt n d = t at *
  have n1 := P8.n1
  have n2 := P8.n2
  have n3 := P8.n3
  have hc : cyc = true → 1 ≤ ss.length := fun z => by rw [z] at n3; simp at n3; omega
  have hm : ss.length ≤ 5 := by split at n3 <;> omega
  obtain ⟨h0, h9, hle, hlt⟩ := held_ok (cyc := cyc) (m := ss.length) bt hc
  obtain ⟨pa, pk, pg, rfl, g1, g2, g3⟩ := P8.at_
  obtain ⟨pt, rfl, hpt⟩ := dp_q e8
  have hd := t.den_nz
  have b2 := bt.2
  walk_at "z"
  have hmul : ((ss.length : Int)).natAbs < 2 ^ 8 ∧ ((t.den : Int)).natAbs < 2 ^ 8 := ⟨Nat.lt_of_le_of_lt (show ((ss.length : Int)).natAbs ≤ 5 by omega) (by decide), Nat.lt_of_le_of_lt (show ((t.den : Int)).natAbs ≤ 9 by omega) (by decide)⟩
  refine z_cut (fun σ' H' => ∃ hv : V, σ' = [some (.ref l), some (.ref p), some (.ref pa), some (.ref p2), some (.int d), some (.int n), some (.ref pt), some (.int (ss.length : Int)), some hv, none, none, none, none, none] ∧ Same H8 H' ∧ Dp K H' hv (qD (heldQ cyc ss.length t))) ?_ ?_
  · walk_at "z"
    cases cyc with
    | true =>
      walk_at "z"
      refine z_I (wide_mul hmul.1 hmul.2 (by decide) (by decide) (by decide)) ?_
      have hm1 := hc rfl
      have hp : 0 < (ss.length : Int) * (t.den : Int) := Int.mul_pos (by omega) (by omega)
      walk_at "z"
      have a0 := Int.emod_nonneg t.num (show (ss.length : Int) * (t.den : Int) ≠ 0 by omega)
      have a1 := Int.emod_lt_of_pos t.num hp
      have a2 : (ss.length : Int) * (t.den : Int) ≤ 5 * 9 := Int.mul_le_mul (by omega) (by omega) (by omega) (by decide)
      refine ⟨_, _, rfl, by omega, lt400 (Nat.lt_of_le_of_lt (show (t.num % ((ss.length : Int) * (t.den : Int))).natAbs ≤ 45 by omega) (by decide)), lt400 (Nat.lt_of_le_of_lt (show ((t.den : Int)).natAbs ≤ 9 by omega) (by decide)), fun v9 H9 s9 e9 => ?_⟩
      walk_at "z"
      exact ⟨_, rfl, s9, e9⟩
    | false =>
      walk_at "z"
      refine z_if (fun cc => ?_) (fun cc => ?_)
      · walk_at "z"
        intro p9 H9 _ s9 h9
        walk_at "z"
        refine ⟨_, rfl, s9, ?_⟩
        have e0 : heldQ false ss.length t = 0 := by
          show clampQ ss.length t = 0
          unfold clampQ
          rw [if_pos (lt_num.mpr cc)]
        rw [e0]
        exact dp_mk h9 (.cons (.int _) (.cons (.int _) .nil))
      walk_at "z"
      refine z_I (wide_mul hmul.1 hmul.2 (by decide) (by decide) (by decide)) ?_
      walk_at "z"
      refine z_if (fun c2 => ?_) (fun c2 => ?_)
      · walk_at "z"
        intro p9 H9 _ s9 h9
        walk_at "z"
        refine ⟨_, rfl, s9, ?_⟩
        have e0 : heldQ false ss.length t = ((ss.length : Nat) : Rat) := by
          show clampQ ss.length t = _
          unfold clampQ
          rw [if_neg (fun z => cc (lt_num.mp z)), if_pos (lt_m.mpr c2)]
        rw [e0]
        exact dp_mkq (by rw [Rat.num_natCast, Rat.den_natCast]; exact h9)
      · walk_at "z"
        refine ⟨_, rfl, fun _ _ e => e, ?_⟩
        have e0 : heldQ false ss.length t = t := by
          show clampQ ss.length t = _
          unfold clampQ
          rw [if_neg (fun z => cc (lt_num.mp z)), if_neg (fun z => c2 (lt_m.mp z))]
        rw [e0]
        exact e8
  obtain ⟨h, hh⟩ : ∃ h, h = heldQ cyc ss.length t := ⟨_, rfl⟩
  rw [← hh] at h0 h9 hle hlt ⊢
  rintro σ' H9 ⟨hv, rfl, s9, eh⟩
  have P9 := P8.mono s9
  have e9 := dp_mono s9 e8
  have g1' := seqT s9 g1
  have g2' := seqT s9 g2
  have g3' := seqT s9 g3
  clear P8 e8 g1 g2 g3 hpt s9 hmul
  have hz := h.den_nz
  have zf := frac_z h0 h9
  have f0 := frac_0 h0
  have lm := fl_le h0 hle
  have lk : fl h < ks.length := by
    cases cyc with
    | true =>
      have := fl_lt h0 (hlt rfl)
      simp at n3
      omega
    | false =>
      simp at n3
      omega
  obtain ⟨ph, rfl, hph⟩ := dp_q eh
  walk_at "z"
  refine z_I (wide_div (b := 200) (by omega) (Nat.lt_of_le_of_lt (show ((h.den : Int)).natAbs ≤ 9 by omega) (by decide)) (by decide) (by decide)) ?_
  rw [← fl_eq h0]
  walk_at "z"
  intro pi HA _ sA hA
  walk_at "z"
  have nn : Dp K HA (.ref pi) (qD ((fl h : Nat) : Rat)) := dp_mkq (by rw [Rat.num_natCast, Rat.den_natCast]; exact hA)
  have m9 : (ss.length : Int) * (h.den : Int) ≤ 5 * 9 := Int.mul_le_mul (by omega) (by omega) (by omega) (by decide)
  have bh : Bl h := ⟨Nat.lt_of_le_of_lt (show h.num.natAbs ≤ 45 by omega) (by decide), Nat.lt_of_le_of_lt h9 (by decide)⟩
  have bn : Bl ((fl h : Nat) : Rat) := ⟨by rw [Rat.num_natCast]; exact Nat.lt_of_le_of_lt (show ((fl h : Nat) : Int).natAbs ≤ 5 by omega) (by decide), by rw [Rat.den_natCast]; decide⟩
  refine lop (dp_mono sA eh) nn bh bn fun vf HB sB ef => ?_
  have ef : Dp K HB vf (qD (h - ((fl h : Nat) : Rat))) := ef
  obtain ⟨pf, rfl, hpf⟩ := dp_q ef
  have sAB := sA.trans sB
  have P := P9.mono sAB
  have et := dp_mono sAB e9
  have k1 := seqT sAB g1'
  have k2 := seqT sAB g2'
  have k3 := seqT sAB g3'
  clear P9 e9 g1' g2' g3' sAB sA sB nn hA eh hph
  obtain ⟨wa, hwa, mwa⟩ := get_lt lk
  walk_at "z"
  rw [show ((fl h : Nat) : Int) % (ks.length : Int) = ((fl h : Nat) : Int) from Int.emod_eq_of_lt (by omega) (by omega)]
  refine z_ixT k2 (atI_nat hwa) ?_
  walk_at "z"
  refine z_cut (fun σ' H' => ∃ (ev : V) (nv : Option V) (x y : Rat), σ' = [some (.ref l), some (.ref p), some (.ref pa), some (.ref p2), some (.int d), some (.int n), some (.ref pt), some (.int (ss.length : Int)), some (.ref ph), some (.int ((fl h : Nat) : Int)), some (.ref pf), some ev, nv, none] ∧ Same HB H' ∧ Dp K H' ev (pD x y) ∧ PointOk K HB ks ss h x y) ?_ ?_
  · walk_at "z"
    refine z_if (fun cc => ?_) (fun cc => ?_)
    · have hne : h.den ≠ 1 := fun z => cc (f0.mpr z)
      have ls := fl_lt h0 (not_whole hle hne)
      obtain ⟨sg, hsg, msg⟩ := get_lt ls
      obtain ⟨wb, hwb, mwb⟩ := get_lt (xs := ks) (n := (fl h + 1) % ks.length) (Nat.mod_lt _ (by omega))
      obtain ⟨x, y, SP⟩ := segPt_of (h - ((fl h : Nat) : Rat)) (P.pts wa mwa) (P.sgs sg msg) (P.pts wb mwb)
      walk_at "z"
      refine z_ixT k2 (show atI ks ((((fl h : Nat) : Int) + 1) % (ks.length : Int)) = some wb from by
        rw [show (((fl h : Nat) : Int) + 1) % (ks.length : Int) = (((fl h + 1) % ks.length : Nat) : Int) by rw [Int.natCast_emod]; rfl]
        exact atI_nat hwb) ?_
      walk_at "z"
      refine z_ixT k3 (atI_nat hsg) ?_
      walk_at "z"
      refine onSeg SP ef zf fun u1 HC sC eC => ?_
      walk_at "z"
      exact ⟨_, _, x, y, rfl, sC, eC, .inr ⟨hne, wa, sg, wb, hwa, hsg, hwb, SP⟩⟩
    · have hne : h.den = 1 := f0.mp (by simpa using cc)
      obtain ⟨x, y, _, _, dw⟩ := P.pts wa mwa
      walk_at "z"
      exact ⟨_, _, x, y, rfl, fun _ _ e => e, dw, .inl ⟨hne, wa, hwa, dw⟩⟩
  rintro σ' HC ⟨ev, nv, x, y, rfl, sC, eC, O⟩
  walk_at "z"
  refine ⟨_, _, ks, ss, cyc, t, x, y, rfl, P.mono sC, dp_mono sC et, bt, by rw [← hh]; exact O.mono sC, fun u1 HD sD eD => ?_⟩
  walk_at "z"
  refine isP eD ?_
  walk_at "z"
  refine z_eqSame eD (dp_mono sD eC) (shaped_p _ _) ?_
  exact q _
end

theorem all_mk {l : PySem.W.OpenLaw} {w : World} {K : PySem.W.Frag} {h : Heap} {mg : Str → Option Value} {fa : Addr} (X : K.In h) (G : h.Ns mainGlobals mg) (hfa : mg "law" = some (.ref fa))
    {a3 : Addr} {od3 an3 : Option Addr} {sl3 : Array (Option Value)} {oc3 kV3 dc3 pm3 cd3 ct3 : Value} {a4 : Addr} {od4 an4 : Option Addr} {sl4 : Array (Option Value)} {oc4 kV4 dc4 pm4 cd4 ct4 : Value} {a5 : Addr} {od5 an5 : Option Addr} {sl5 : Array (Option Value)} {oc5 kV5 dc5 pm5 cd5 ct5 : Value} {a6 : Addr} {od6 an6 : Option Addr} {sl6 : Array (Option Value)} {oc6 kV6 dc6 pm6 cd6 ct6 : Value} {a7 : Addr} {od7 an7 : Option Addr} {sl7 : Array (Option Value)} {oc7 kV7 dc7 pm7 cd7 ct7 : Value} {a8 : Addr} {od8 an8 : Option Addr} {sl8 : Array (Option Value)} {oc8 kV8 dc8 pm8 cd8 ct8 : Value} {a9 : Addr} {od9 an9 : Option Addr} {sl9 : Array (Option Value)} {oc9 kV9 dc9 pm9 cd9 ct9 : Value} {a10 : Addr} {od10 an10 : Option Addr} {sl10 : Array (Option Value)} {oc10 kV10 dc10 pm10 cd10 ct10 : Value} {a11 : Addr} {od11 an11 : Option Addr} {sl11 : Array (Option Value)} {oc11 kV11 dc11 pm11 cd11 ct11 : Value} {a12 : Addr} {od12 an12 : Option Addr} {sl12 : Array (Option Value)} {oc12 kV12 dc12 pm12 cd12 ct12 : Value} {a13 : Addr} {od13 an13 : Option Addr} {sl13 : Array (Option Value)} {oc13 kV13 dc13 pm13 cd13 ct13 : Value} {a14 : Addr} {od14 an14 : Option Addr} {sl14 : Array (Option Value)} {oc14 kV14 dc14 pm14 cd14 ct14 : Value} {a15 : Addr} {od15 an15 : Option Addr} {sl15 : Array (Option Value)} {oc15 kV15 dc15 pm15 cd15 ct15 : Value} {a16 : Addr} {od16 an16 : Option Addr} {sl16 : Array (Option Value)} {oc16 kV16 dc16 pm16 cd16 ct16 : Value} {a17 : Addr} {od17 an17 : Option Addr} {sl17 : Array (Option Value)} {oc17 kV17 dc17 pm17 cd17 ct17 : Value} {a18 : Addr} {od18 an18 : Option Addr} {sl18 : Array (Option Value)} {oc18 kV18 dc18 pm18 cd18 ct18 : Value} {a19 : Addr} {od19 an19 : Option Addr} {sl19 : Array (Option Value)} {oc19 kV19 dc19 pm19 cd19 ct19 : Value} {a20 : Addr} {od20 an20 : Option Addr} {sl20 : Array (Option Value)} {oc20 kV20 dc20 pm20 cd20 ct20 : Value} {a21 : Addr} {od21 an21 : Option Addr} {sl21 : Array (Option Value)} {oc21 kV21 dc21 pm21 cd21 ct21 : Value} {a22 : Addr} {od22 an22 : Option Addr} {sl22 : Array (Option Value)} {oc22 kV22 dc22 pm22 cd22 ct22 : Value} {a23 : Addr} {od23 an23 : Option Addr} {sl23 : Array (Option Value)} {oc23 kV23 dc23 pm23 cd23 ct23 : Value} {a24 : Addr} {od24 an24 : Option Addr} {sl24 : Array (Option Value)} {oc24 kV24 dc24 pm24 cd24 ct24 : Value} {a25 : Addr} {od25 an25 : Option Addr} {sl25 : Array (Option Value)} {oc25 kV25 dc25 pm25 cd25 ct25 : Value} {a26 : Addr} {od26 an26 : Option Addr} {sl26 : Array (Option Value)} {oc26 kV26 dc26 pm26 cd26 ct26 : Value} {a27 : Addr} {od27 an27 : Option Addr} {sl27 : Array (Option Value)} {oc27 kV27 dc27 pm27 cd27 ct27 : Value} {a28 : Addr} {od28 an28 : Option Addr} {sl28 : Array (Option Value)} {oc28 kV28 dc28 pm28 cd28 ct28 : Value} {a29 : Addr} {od29 an29 : Option Addr} {sl29 : Array (Option Value)} {oc29 kV29 dc29 pm29 cd29 ct29 : Value} {a30 : Addr} {od30 an30 : Option Addr} {sl30 : Array (Option Value)} {oc30 kV30 dc30 pm30 cd30 ct30 : Value} {a31 : Addr} {od31 an31 : Option Addr} {sl31 : Array (Option Value)} {oc31 kV31 dc31 pm31 cd31 ct31 : Value} {a32 : Addr} {od32 an32 : Option Addr} {sl32 : Array (Option Value)} {oc32 kV32 dc32 pm32 cd32 ct32 : Value} {a0 : Addr} {a1 : Addr} {a2 : Addr} {t_LIMIT : Tok} {a33 : Addr} {tZERO_0_0 : Tok} {tZERO_0_1 : Tok} {odZERO_0 : Option Addr} {nnZERO_0 : Nat} {slZERO_0 : Array (Option Value)}
    (n3 : PySem.W.nsIn K mainGlobals "ratio" = some (some (.ref a3)))
    (l3 : K.lookup a3 = some ⟨oc3, od3, .func (PySem.W.fnOf "ratio" "ratio" (defArgs s_ratio) (defBody s_ratio) (defScope s_ratio) .none kV3 dc3 pm3 an3 cd3 ct3), sl3⟩)
    (c3 : PySem.W.codeIn K cd3 "ratio" = true) (k3 : PySem.W.keepIn K (.ref a3) = true)
    (n4 : PySem.W.nsIn K mainGlobals "add" = some (some (.ref a4)))
    (l4 : K.lookup a4 = some ⟨oc4, od4, .func (PySem.W.fnOf "add" "add" (defArgs s_add) (defBody s_add) (defScope s_add) .none kV4 dc4 pm4 an4 cd4 ct4), sl4⟩)
    (c4 : PySem.W.codeIn K cd4 "add" = true) (k4 : PySem.W.keepIn K (.ref a4) = true)
    (n5 : PySem.W.nsIn K mainGlobals "subtract" = some (some (.ref a5)))
    (l5 : K.lookup a5 = some ⟨oc5, od5, .func (PySem.W.fnOf "subtract" "subtract" (defArgs s_subtract) (defBody s_subtract) (defScope s_subtract) .none kV5 dc5 pm5 an5 cd5 ct5), sl5⟩)
    (c5 : PySem.W.codeIn K cd5 "subtract" = true) (k5 : PySem.W.keepIn K (.ref a5) = true)
    (n6 : PySem.W.nsIn K mainGlobals "multiply" = some (some (.ref a6)))
    (l6 : K.lookup a6 = some ⟨oc6, od6, .func (PySem.W.fnOf "multiply" "multiply" (defArgs s_multiply) (defBody s_multiply) (defScope s_multiply) .none kV6 dc6 pm6 an6 cd6 ct6), sl6⟩)
    (c6 : PySem.W.codeIn K cd6 "multiply" = true) (k6 : PySem.W.keepIn K (.ref a6) = true)
    (n7 : PySem.W.nsIn K mainGlobals "compare" = some (some (.ref a7)))
    (l7 : K.lookup a7 = some ⟨oc7, od7, .func (PySem.W.fnOf "compare" "compare" (defArgs s_compare) (defBody s_compare) (defScope s_compare) .none kV7 dc7 pm7 an7 cd7 ct7), sl7⟩)
    (c7 : PySem.W.codeIn K cd7 "compare" = true) (k7 : PySem.W.keepIn K (.ref a7) = true)
    (n8 : PySem.W.nsIn K mainGlobals "floor_of" = some (some (.ref a8)))
    (l8 : K.lookup a8 = some ⟨oc8, od8, .func (PySem.W.fnOf "floor_of" "floor_of" (defArgs s_floor_of) (defBody s_floor_of) (defScope s_floor_of) .none kV8 dc8 pm8 an8 cd8 ct8), sl8⟩)
    (c8 : PySem.W.codeIn K cd8 "floor_of" = true) (k8 : PySem.W.keepIn K (.ref a8) = true)
    (n9 : PySem.W.nsIn K mainGlobals "length" = some (some (.ref a9)))
    (l9 : K.lookup a9 = some ⟨oc9, od9, .func (PySem.W.fnOf "length" "length" (defArgs s_length) (defBody s_length) (defScope s_length) .none kV9 dc9 pm9 an9 cd9 ct9), sl9⟩)
    (c9 : PySem.W.codeIn K cd9 "length" = true) (k9 : PySem.W.keepIn K (.ref a9) = true)
    (n10 : PySem.W.nsIn K mainGlobals "between" = some (some (.ref a10)))
    (l10 : K.lookup a10 = some ⟨oc10, od10, .func (PySem.W.fnOf "between" "between" (defArgs s_between) (defBody s_between) (defScope s_between) .none kV10 dc10 pm10 an10 cd10 ct10), sl10⟩)
    (c10 : PySem.W.codeIn K cd10 "between" = true) (k10 : PySem.W.keepIn K (.ref a10) = true)
    (n11 : PySem.W.nsIn K mainGlobals "part_between" = some (some (.ref a11)))
    (l11 : K.lookup a11 = some ⟨oc11, od11, .func (PySem.W.fnOf "part_between" "part_between" (defArgs s_part_between) (defBody s_part_between) (defScope s_part_between) .none kV11 dc11 pm11 an11 cd11 ct11), sl11⟩)
    (c11 : PySem.W.codeIn K cd11 "part_between" = true) (k11 : PySem.W.keepIn K (.ref a11) = true)
    (n12 : PySem.W.nsIn K mainGlobals "cut_segment" = some (some (.ref a12)))
    (l12 : K.lookup a12 = some ⟨oc12, od12, .func (PySem.W.fnOf "cut_segment" "cut_segment" (defArgs s_cut_segment) (defBody s_cut_segment) (defScope s_cut_segment) .none kV12 dc12 pm12 an12 cd12 ct12), sl12⟩)
    (c12 : PySem.W.codeIn K cd12 "cut_segment" = true) (k12 : PySem.W.keepIn K (.ref a12) = true)
    (n13 : PySem.W.nsIn K mainGlobals "point_at" = some (some (.ref a13)))
    (l13 : K.lookup a13 = some ⟨oc13, od13, .func (PySem.W.fnOf "point_at" "point_at" (defArgs s_point_at) (defBody s_point_at) (defScope s_point_at) .none kV13 dc13 pm13 an13 cd13 ct13), sl13⟩)
    (c13 : PySem.W.codeIn K cd13 "point_at" = true) (k13 : PySem.W.keepIn K (.ref a13) = true)
    (n14 : PySem.W.nsIn K mainGlobals "time_on" = some (some (.ref a14)))
    (l14 : K.lookup a14 = some ⟨oc14, od14, .func (PySem.W.fnOf "time_on" "time_on" (defArgs s_time_on) (defBody s_time_on) (defScope s_time_on) .none kV14 dc14 pm14 an14 cd14 ct14), sl14⟩)
    (c14 : PySem.W.codeIn K cd14 "time_on" = true) (k14 : PySem.W.keepIn K (.ref a14) = true)
    (n15 : PySem.W.nsIn K mainGlobals "clamped" = some (some (.ref a15)))
    (l15 : K.lookup a15 = some ⟨oc15, od15, .func (PySem.W.fnOf "clamped" "clamped" (defArgs s_clamped) (defBody s_clamped) (defScope s_clamped) .none kV15 dc15 pm15 an15 cd15 ct15), sl15⟩)
    (c15 : PySem.W.codeIn K cd15 "clamped" = true) (k15 : PySem.W.keepIn K (.ref a15) = true)
    (n16 : PySem.W.nsIn K mainGlobals "segment_at" = some (some (.ref a16)))
    (l16 : K.lookup a16 = some ⟨oc16, od16, .func (PySem.W.fnOf "segment_at" "segment_at" (defArgs s_segment_at) (defBody s_segment_at) (defScope s_segment_at) .none kV16 dc16 pm16 an16 cd16 ct16), sl16⟩)
    (c16 : PySem.W.codeIn K cd16 "segment_at" = true) (k16 : PySem.W.keepIn K (.ref a16) = true)
    (n17 : PySem.W.nsIn K mainGlobals "_law_cell" = some (some (.ref a17)))
    (l17 : K.lookup a17 = some ⟨oc17, od17, .func (PySem.W.fnOf "_law_cell" "_law_cell" (defArgs s__law_cell) (defBody s__law_cell) (defScope s__law_cell) .none kV17 dc17 pm17 an17 cd17 ct17), sl17⟩)
    (c17 : PySem.W.codeIn K cd17 "_law_cell" = true) (k17 : PySem.W.keepIn K (.ref a17) = true)
    (n18 : PySem.W.nsIn K mainGlobals "_law_stream" = some (some (.ref a18)))
    (l18 : K.lookup a18 = some ⟨oc18, od18, .func (PySem.W.fnOf "_law_stream" "_law_stream" (defArgs s__law_stream) (defBody s__law_stream) (defScope s__law_stream) .none kV18 dc18 pm18 an18 cd18 ct18), sl18⟩)
    (c18 : PySem.W.codeIn K cd18 "_law_stream" = true) (k18 : PySem.W.keepIn K (.ref a18) = true)
    (n19 : PySem.W.nsIn K mainGlobals "_law_next" = some (some (.ref a19)))
    (l19 : K.lookup a19 = some ⟨oc19, od19, .func (PySem.W.fnOf "_law_next" "_law_next" (defArgs s__law_next) (defBody s__law_next) (defScope s__law_next) .none kV19 dc19 pm19 an19 cd19 ct19), sl19⟩)
    (c19 : PySem.W.codeIn K cd19 "_law_next" = true) (k19 : PySem.W.keepIn K (.ref a19) = true)
    (n20 : PySem.W.nsIn K mainGlobals "_law_is_integer" = some (some (.ref a20)))
    (l20 : K.lookup a20 = some ⟨oc20, od20, .func (PySem.W.fnOf "_law_is_integer" "_law_is_integer" (defArgs s__law_is_integer) (defBody s__law_is_integer) (defScope s__law_is_integer) .none kV20 dc20 pm20 an20 cd20 ct20), sl20⟩)
    (c20 : PySem.W.codeIn K cd20 "_law_is_integer" = true) (k20 : PySem.W.keepIn K (.ref a20) = true)
    (n21 : PySem.W.nsIn K mainGlobals "_law_ratio" = some (some (.ref a21)))
    (l21 : K.lookup a21 = some ⟨oc21, od21, .func (PySem.W.fnOf "_law_ratio" "_law_ratio" (defArgs s__law_ratio) (defBody s__law_ratio) (defScope s__law_ratio) .none kV21 dc21 pm21 an21 cd21 ct21), sl21⟩)
    (c21 : PySem.W.codeIn K cd21 "_law_ratio" = true) (k21 : PySem.W.keepIn K (.ref a21) = true)
    (n22 : PySem.W.nsIn K mainGlobals "_law_is_number" = some (some (.ref a22)))
    (l22 : K.lookup a22 = some ⟨oc22, od22, .func (PySem.W.fnOf "_law_is_number" "_law_is_number" (defArgs s__law_is_number) (defBody s__law_is_number) (defScope s__law_is_number) .none kV22 dc22 pm22 an22 cd22 ct22), sl22⟩)
    (c22 : PySem.W.codeIn K cd22 "_law_is_number" = true) (k22 : PySem.W.keepIn K (.ref a22) = true)
    (n23 : PySem.W.nsIn K mainGlobals "_law_sum" = some (some (.ref a23)))
    (l23 : K.lookup a23 = some ⟨oc23, od23, .func (PySem.W.fnOf "_law_sum" "_law_sum" (defArgs s__law_sum) (defBody s__law_sum) (defScope s__law_sum) .none kV23 dc23 pm23 an23 cd23 ct23), sl23⟩)
    (c23 : PySem.W.codeIn K cd23 "_law_sum" = true) (k23 : PySem.W.keepIn K (.ref a23) = true)
    (n24 : PySem.W.nsIn K mainGlobals "_law_difference" = some (some (.ref a24)))
    (l24 : K.lookup a24 = some ⟨oc24, od24, .func (PySem.W.fnOf "_law_difference" "_law_difference" (defArgs s__law_difference) (defBody s__law_difference) (defScope s__law_difference) .none kV24 dc24 pm24 an24 cd24 ct24), sl24⟩)
    (c24 : PySem.W.codeIn K cd24 "_law_difference" = true) (k24 : PySem.W.keepIn K (.ref a24) = true)
    (n25 : PySem.W.nsIn K mainGlobals "_law_product" = some (some (.ref a25)))
    (l25 : K.lookup a25 = some ⟨oc25, od25, .func (PySem.W.fnOf "_law_product" "_law_product" (defArgs s__law_product) (defBody s__law_product) (defScope s__law_product) .none kV25 dc25 pm25 an25 cd25 ct25), sl25⟩)
    (c25 : PySem.W.codeIn K cd25 "_law_product" = true) (k25 : PySem.W.keepIn K (.ref a25) = true)
    (n26 : PySem.W.nsIn K mainGlobals "_law_small" = some (some (.ref a26)))
    (l26 : K.lookup a26 = some ⟨oc26, od26, .func (PySem.W.fnOf "_law_small" "_law_small" (defArgs s__law_small) (defBody s__law_small) (defScope s__law_small) .none kV26 dc26 pm26 an26 cd26 ct26), sl26⟩)
    (c26 : PySem.W.codeIn K cd26 "_law_small" = true) (k26 : PySem.W.keepIn K (.ref a26) = true)
    (n27 : PySem.W.nsIn K mainGlobals "_law_point" = some (some (.ref a27)))
    (l27 : K.lookup a27 = some ⟨oc27, od27, .func (PySem.W.fnOf "_law_point" "_law_point" (defArgs s__law_point) (defBody s__law_point) (defScope s__law_point) .none kV27 dc27 pm27 an27 cd27 ct27), sl27⟩)
    (c27 : PySem.W.codeIn K cd27 "_law_point" = true) (k27 : PySem.W.keepIn K (.ref a27) = true)
    (n28 : PySem.W.nsIn K mainGlobals "_law_is_point" = some (some (.ref a28)))
    (l28 : K.lookup a28 = some ⟨oc28, od28, .func (PySem.W.fnOf "_law_is_point" "_law_is_point" (defArgs s__law_is_point) (defBody s__law_is_point) (defScope s__law_is_point) .none kV28 dc28 pm28 an28 cd28 ct28), sl28⟩)
    (c28 : PySem.W.codeIn K cd28 "_law_is_point" = true) (k28 : PySem.W.keepIn K (.ref a28) = true)
    (n29 : PySem.W.nsIn K mainGlobals "_law_path" = some (some (.ref a29)))
    (l29 : K.lookup a29 = some ⟨oc29, od29, .func (PySem.W.fnOf "_law_path" "_law_path" (defArgs s__law_path) (defBody s__law_path) (defScope s__law_path) .none kV29 dc29 pm29 an29 cd29 ct29), sl29⟩)
    (c29 : PySem.W.codeIn K cd29 "_law_path" = true) (k29 : PySem.W.keepIn K (.ref a29) = true)
    (n30 : PySem.W.nsIn K mainGlobals "_law_bernstein" = some (some (.ref a30)))
    (l30 : K.lookup a30 = some ⟨oc30, od30, .func (PySem.W.fnOf "_law_bernstein" "_law_bernstein" (defArgs s__law_bernstein) (defBody s__law_bernstein) (defScope s__law_bernstein) .none kV30 dc30 pm30 an30 cd30 ct30), sl30⟩)
    (c30 : PySem.W.codeIn K cd30 "_law_bernstein" = true) (k30 : PySem.W.keepIn K (.ref a30) = true)
    (n31 : PySem.W.nsIn K mainGlobals "_law_on_segment" = some (some (.ref a31)))
    (l31 : K.lookup a31 = some ⟨oc31, od31, .func (PySem.W.fnOf "_law_on_segment" "_law_on_segment" (defArgs s__law_on_segment) (defBody s__law_on_segment) (defScope s__law_on_segment) .none kV31 dc31 pm31 an31 cd31 ct31), sl31⟩)
    (c31 : PySem.W.codeIn K cd31 "_law_on_segment" = true) (k31 : PySem.W.keepIn K (.ref a31) = true)
    (n32 : PySem.W.nsIn K mainGlobals "law" = some (some (.ref a32)))
    (l32 : K.lookup a32 = some ⟨oc32, od32, .func (PySem.W.fnOf "law" "law" (defArgs s_law) (defBody s_law) (defScope s_law) .none kV32 dc32 pm32 an32 cd32 ct32), sl32⟩)
    (c32 : PySem.W.codeIn K cd32 "law" = true) (k32 : PySem.W.keepIn K (.ref a32) = true)
    (xg0 : PySem.W.nsIn K mainGlobals "FontError" = some (some (.ref a0))) (xq0 : PySem.W.excIn K a0 [.type "ValueError", .type "Exception", .type "BaseException", .type "object"] "ValueError.__new__" = true) (xk0 : PySem.W.keepIn K (.ref a0) = true) (xt0 : PySem.W.typeIn K (.ref a0) = some (.type "type"))
    (xa0 : PySem.W.findIn K (.ref a0) "__getattribute__" = some (some (.builtin "BaseException.__getattribute__"))) (xb0 : PySem.W.findIn K (.ref a0) "__getattr__" = some none) (xc0 : PySem.W.subIn K (.ref a0) (.type "BaseException") = some true) (xd0 : PySem.W.hasDictIn K a0 = true)
    (xe0 : PySem.W.findIn K (.ref a0) "__class__" = some (some (.builtin "object.__class__"))) (xf0 : PySem.W.mroIn K a0 (.type "object") = some true) (xv0 : PySem.W.subIn K (.ref a0) (.type "ValueError") = some true)
    (xg1 : PySem.W.nsIn K mainGlobals "TooGreat" = some (some (.ref a1))) (xq1 : PySem.W.excIn K a1 [.type "ValueError", .type "Exception", .type "BaseException", .type "object"] "ValueError.__new__" = true) (xk1 : PySem.W.keepIn K (.ref a1) = true) (xt1 : PySem.W.typeIn K (.ref a1) = some (.type "type"))
    (xa1 : PySem.W.findIn K (.ref a1) "__getattribute__" = some (some (.builtin "BaseException.__getattribute__"))) (xb1 : PySem.W.findIn K (.ref a1) "__getattr__" = some none) (xc1 : PySem.W.subIn K (.ref a1) (.type "BaseException") = some true) (xd1 : PySem.W.hasDictIn K a1 = true)
    (xe1 : PySem.W.findIn K (.ref a1) "__class__" = some (some (.builtin "object.__class__"))) (xf1 : PySem.W.mroIn K a1 (.type "object") = some true) (xv1 : PySem.W.subIn K (.ref a1) (.type "ValueError") = some true)
    (xg2 : PySem.W.nsIn K mainGlobals "DivisionByZero" = some (some (.ref a2))) (xq2 : PySem.W.excIn K a2 [.type "ValueError", .type "Exception", .type "BaseException", .type "object"] "ValueError.__new__" = true) (xk2 : PySem.W.keepIn K (.ref a2) = true) (xt2 : PySem.W.typeIn K (.ref a2) = some (.type "type"))
    (xa2 : PySem.W.findIn K (.ref a2) "__getattribute__" = some (some (.builtin "BaseException.__getattribute__"))) (xb2 : PySem.W.findIn K (.ref a2) "__getattr__" = some none) (xc2 : PySem.W.subIn K (.ref a2) (.type "BaseException") = some true) (xd2 : PySem.W.hasDictIn K a2 = true)
    (xe2 : PySem.W.findIn K (.ref a2) "__class__" = some (some (.builtin "object.__class__"))) (xf2 : PySem.W.mroIn K a2 (.type "object") = some true) (xv2 : PySem.W.subIn K (.ref a2) (.type "ValueError") = some true)
    (xm : PySem.W.specialIn K (.builtin "object.__class__") "__get__" = some (some (.builtin "getset_descriptor.__get__"))) (xn : PySem.W.takesIn K (.builtin "object.__class__") = some true)
    (e0_0 : PySem.W.subIn K (.ref a0) (.ref a0) = some true)
    (e0_1 : PySem.W.subIn K (.ref a0) (.ref a1) = some false)
    (e0_2 : PySem.W.subIn K (.ref a0) (.ref a2) = some false)
    (e1_0 : PySem.W.subIn K (.ref a1) (.ref a0) = some true)
    (e1_1 : PySem.W.subIn K (.ref a1) (.ref a1) = some true)
    (e1_2 : PySem.W.subIn K (.ref a1) (.ref a2) = some false)
    (e2_0 : PySem.W.subIn K (.ref a2) (.ref a0) = some true)
    (e2_1 : PySem.W.subIn K (.ref a2) (.ref a1) = some false)
    (e2_2 : PySem.W.subIn K (.ref a2) (.ref a2) = some true)
    (z_abs : PySem.W.nsIn K mainGlobals "abs" = some none)
    (z_bool : PySem.W.nsIn K mainGlobals "bool" = some none)
    (z_int : PySem.W.nsIn K mainGlobals "int" = some none)
    (z_isinstance : PySem.W.nsIn K mainGlobals "isinstance" = some none)
    (z_len : PySem.W.nsIn K mainGlobals "len" = some none)
    (z_range : PySem.W.nsIn K mainGlobals "range" = some none)
    (z_tuple : PySem.W.nsIn K mainGlobals "tuple" = some none)
    (l_gcd : PySem.W.nsIn K mainGlobals "gcd" = some (some (.builtin "math.gcd")))
    (c_LIMIT : PySem.W.nsIn K mainGlobals "LIMIT" = some (some (.int (1000000000000000000) t_LIMIT)))
    (ntZERO : PySem.W.nsIn K mainGlobals "ZERO" = some (some (.ref a33)))
    (ktZERO_0 : K.lookup a33 = some ⟨.type "tuple", odZERO_0, .seq (List.toArray [.int (0) tZERO_0_0, .int (1) tZERO_0_1]) nnZERO_0, slZERO_0⟩)
    : ∃ fd : FuncData, (∀ (s : Shared) (v : Value), BindsTo s fd ⟨[v], []⟩ [("script", v)]) ∧ ∀ base : Heap, K.In base → base.Ns mainGlobals mg → FnOk l.prog w K mg base CX0 7 fa fd ["script"] (sp_law K) := by
  have e := hfa.symm.trans (PySem.W.mg_of X G n32)
  cases e
  have F3 := fun_mk (st := s_ratio) l3 c3 k3
  have b3 := F3.binds (ps := ["n", "d"]) fun _ _ _ _ _ _ us hl => match us, hl with | [_, _], _ => rfl
  have F4 := fun_mk (st := s_add) l4 c4 k4
  have b4 := F4.binds (ps := ["a", "b"]) fun _ _ _ _ _ _ us hl => match us, hl with | [_, _], _ => rfl
  have F5 := fun_mk (st := s_subtract) l5 c5 k5
  have b5 := F5.binds (ps := ["a", "b"]) fun _ _ _ _ _ _ us hl => match us, hl with | [_, _], _ => rfl
  have F6 := fun_mk (st := s_multiply) l6 c6 k6
  have b6 := F6.binds (ps := ["a", "b"]) fun _ _ _ _ _ _ us hl => match us, hl with | [_, _], _ => rfl
  have F7 := fun_mk (st := s_compare) l7 c7 k7
  have b7 := F7.binds (ps := ["a", "b"]) fun _ _ _ _ _ _ us hl => match us, hl with | [_, _], _ => rfl
  have F8 := fun_mk (st := s_floor_of) l8 c8 k8
  have b8 := F8.binds (ps := ["a"]) fun _ _ _ _ _ _ us hl => match us, hl with | [_], _ => rfl
  have F9 := fun_mk (st := s_length) l9 c9 k9
  have b9 := F9.binds (ps := ["path"]) fun _ _ _ _ _ _ us hl => match us, hl with | [_], _ => rfl
  have F10 := fun_mk (st := s_between) l10 c10 k10
  have b10 := F10.binds (ps := ["p", "q", "fraction"]) fun _ _ _ _ _ _ us hl => match us, hl with | [_, _, _], _ => rfl
  have F11 := fun_mk (st := s_part_between) l11 c11 k11
  have b11 := F11.binds (ps := ["p", "q", "fraction"]) fun _ _ _ _ _ _ us hl => match us, hl with | [_, _, _], _ => rfl
  have F12 := fun_mk (st := s_cut_segment) l12 c12 k12
  have b12 := F12.binds (ps := ["a", "segment", "b", "fraction"]) fun _ _ _ _ _ _ us hl => match us, hl with | [_, _, _, _], _ => rfl
  have F13 := fun_mk (st := s_point_at) l13 c13 k13
  have b13 := F13.binds (ps := ["path", "time"]) fun _ _ _ _ _ _ us hl => match us, hl with | [_, _], _ => rfl
  have F14 := fun_mk (st := s_time_on) l14 c14 k14
  have b14 := F14.binds (ps := ["path", "time"]) fun _ _ _ _ _ _ us hl => match us, hl with | [_, _], _ => rfl
  have F15 := fun_mk (st := s_clamped) l15 c15 k15
  have b15 := F15.binds (ps := ["path", "time"]) fun _ _ _ _ _ _ us hl => match us, hl with | [_, _], _ => rfl
  have F16 := fun_mk (st := s_segment_at) l16 c16 k16
  have b16 := F16.binds (ps := ["path", "n"]) fun _ _ _ _ _ _ us hl => match us, hl with | [_, _], _ => rfl
  have F17 := fun_mk (st := s__law_cell) l17 c17 k17
  have b17 := F17.binds (ps := ["script", "k"]) fun _ _ _ _ _ _ us hl => match us, hl with | [_, _], _ => rfl
  have F18 := fun_mk (st := s__law_stream) l18 c18 k18
  have b18 := F18.binds (ps := ["cell"]) fun _ _ _ _ _ _ us hl => match us, hl with | [_], _ => rfl
  have F19 := fun_mk (st := s__law_next) l19 c19 k19
  have b19 := F19.binds (ps := ["stream", "size"]) fun _ _ _ _ _ _ us hl => match us, hl with | [_, _], _ => rfl
  have F20 := fun_mk (st := s__law_is_integer) l20 c20 k20
  have b20 := F20.binds (ps := ["actual"]) fun _ _ _ _ _ _ us hl => match us, hl with | [_], _ => rfl
  have F21 := fun_mk (st := s__law_ratio) l21 c21 k21
  have b21 := F21.binds (ps := ["n", "d"]) fun _ _ _ _ _ _ us hl => match us, hl with | [_, _], _ => rfl
  have F22 := fun_mk (st := s__law_is_number) l22 c22 k22
  have b22 := F22.binds (ps := ["actual"]) fun _ _ _ _ _ _ us hl => match us, hl with | [_], _ => rfl
  have F23 := fun_mk (st := s__law_sum) l23 c23 k23
  have b23 := F23.binds (ps := ["a", "b"]) fun _ _ _ _ _ _ us hl => match us, hl with | [_, _], _ => rfl
  have F24 := fun_mk (st := s__law_difference) l24 c24 k24
  have b24 := F24.binds (ps := ["a", "b"]) fun _ _ _ _ _ _ us hl => match us, hl with | [_, _], _ => rfl
  have F25 := fun_mk (st := s__law_product) l25 c25 k25
  have b25 := F25.binds (ps := ["a", "b"]) fun _ _ _ _ _ _ us hl => match us, hl with | [_, _], _ => rfl
  have F26 := fun_mk (st := s__law_small) l26 c26 k26
  have b26 := F26.binds (ps := ["stream"]) fun _ _ _ _ _ _ us hl => match us, hl with | [_], _ => rfl
  have F27 := fun_mk (st := s__law_point) l27 c27 k27
  have b27 := F27.binds (ps := ["stream"]) fun _ _ _ _ _ _ us hl => match us, hl with | [_], _ => rfl
  have F28 := fun_mk (st := s__law_is_point) l28 c28 k28
  have b28 := F28.binds (ps := ["actual"]) fun _ _ _ _ _ _ us hl => match us, hl with | [_], _ => rfl
  have F29 := fun_mk (st := s__law_path) l29 c29 k29
  have b29 := F29.binds (ps := ["stream", "most"]) fun _ _ _ _ _ _ us hl => match us, hl with | [_, _], _ => rfl
  have F30 := fun_mk (st := s__law_bernstein) l30 c30 k30
  have b30 := F30.binds (ps := ["numbers", "u"]) fun _ _ _ _ _ _ us hl => match us, hl with | [_, _], _ => rfl
  have F31 := fun_mk (st := s__law_on_segment) l31 c31 k31
  have b31 := F31.binds (ps := ["a", "segment", "b", "u"]) fun _ _ _ _ _ _ us hl => match us, hl with | [_, _, _, _], _ => rfl
  have F32 := fun_mk (st := s_law) l32 c32 k32
  have b32 := F32.binds (ps := ["script"]) fun _ _ _ _ _ _ us hl => match us, hl with | [_], _ => rfl
  let A : Nat → Addr := fun | 0 => a0 | 1 => a1 | 2 => a2 | 3 => a3 | 4 => a4 | 5 => a5 | 6 => a6 | 7 => a7 | 8 => a8 | 9 => a9 | 10 => a10 | 11 => a11 | 12 => a12 | 13 => a13 | 14 => a14 | 15 => a15 | 16 => a16 | 17 => a17 | 18 => a18 | 19 => a19 | 20 => a20 | 21 => a21 | 22 => a22 | 23 => a23 | 24 => a24 | 25 => a25 | 26 => a26 | 27 => a27 | 28 => a28 | 29 => a29 | 30 => a30 | 31 => a31 | 32 => fa | 33 => a33 | _ => 0
  let D : Nat → FuncData := fun | 3 => PySem.W.fnOf "ratio" "ratio" (defArgs s_ratio) (defBody s_ratio) (defScope s_ratio) .none kV3 dc3 pm3 an3 cd3 ct3 | 4 => PySem.W.fnOf "add" "add" (defArgs s_add) (defBody s_add) (defScope s_add) .none kV4 dc4 pm4 an4 cd4 ct4 | 5 => PySem.W.fnOf "subtract" "subtract" (defArgs s_subtract) (defBody s_subtract) (defScope s_subtract) .none kV5 dc5 pm5 an5 cd5 ct5 | 6 => PySem.W.fnOf "multiply" "multiply" (defArgs s_multiply) (defBody s_multiply) (defScope s_multiply) .none kV6 dc6 pm6 an6 cd6 ct6 | 7 => PySem.W.fnOf "compare" "compare" (defArgs s_compare) (defBody s_compare) (defScope s_compare) .none kV7 dc7 pm7 an7 cd7 ct7 | 8 => PySem.W.fnOf "floor_of" "floor_of" (defArgs s_floor_of) (defBody s_floor_of) (defScope s_floor_of) .none kV8 dc8 pm8 an8 cd8 ct8 | 9 => PySem.W.fnOf "length" "length" (defArgs s_length) (defBody s_length) (defScope s_length) .none kV9 dc9 pm9 an9 cd9 ct9 | 10 => PySem.W.fnOf "between" "between" (defArgs s_between) (defBody s_between) (defScope s_between) .none kV10 dc10 pm10 an10 cd10 ct10 | 11 => PySem.W.fnOf "part_between" "part_between" (defArgs s_part_between) (defBody s_part_between) (defScope s_part_between) .none kV11 dc11 pm11 an11 cd11 ct11 | 12 => PySem.W.fnOf "cut_segment" "cut_segment" (defArgs s_cut_segment) (defBody s_cut_segment) (defScope s_cut_segment) .none kV12 dc12 pm12 an12 cd12 ct12 | 13 => PySem.W.fnOf "point_at" "point_at" (defArgs s_point_at) (defBody s_point_at) (defScope s_point_at) .none kV13 dc13 pm13 an13 cd13 ct13 | 14 => PySem.W.fnOf "time_on" "time_on" (defArgs s_time_on) (defBody s_time_on) (defScope s_time_on) .none kV14 dc14 pm14 an14 cd14 ct14 | 15 => PySem.W.fnOf "clamped" "clamped" (defArgs s_clamped) (defBody s_clamped) (defScope s_clamped) .none kV15 dc15 pm15 an15 cd15 ct15 | 16 => PySem.W.fnOf "segment_at" "segment_at" (defArgs s_segment_at) (defBody s_segment_at) (defScope s_segment_at) .none kV16 dc16 pm16 an16 cd16 ct16 | 17 => PySem.W.fnOf "_law_cell" "_law_cell" (defArgs s__law_cell) (defBody s__law_cell) (defScope s__law_cell) .none kV17 dc17 pm17 an17 cd17 ct17 | 18 => PySem.W.fnOf "_law_stream" "_law_stream" (defArgs s__law_stream) (defBody s__law_stream) (defScope s__law_stream) .none kV18 dc18 pm18 an18 cd18 ct18 | 19 => PySem.W.fnOf "_law_next" "_law_next" (defArgs s__law_next) (defBody s__law_next) (defScope s__law_next) .none kV19 dc19 pm19 an19 cd19 ct19 | 20 => PySem.W.fnOf "_law_is_integer" "_law_is_integer" (defArgs s__law_is_integer) (defBody s__law_is_integer) (defScope s__law_is_integer) .none kV20 dc20 pm20 an20 cd20 ct20 | 21 => PySem.W.fnOf "_law_ratio" "_law_ratio" (defArgs s__law_ratio) (defBody s__law_ratio) (defScope s__law_ratio) .none kV21 dc21 pm21 an21 cd21 ct21 | 22 => PySem.W.fnOf "_law_is_number" "_law_is_number" (defArgs s__law_is_number) (defBody s__law_is_number) (defScope s__law_is_number) .none kV22 dc22 pm22 an22 cd22 ct22 | 23 => PySem.W.fnOf "_law_sum" "_law_sum" (defArgs s__law_sum) (defBody s__law_sum) (defScope s__law_sum) .none kV23 dc23 pm23 an23 cd23 ct23 | 24 => PySem.W.fnOf "_law_difference" "_law_difference" (defArgs s__law_difference) (defBody s__law_difference) (defScope s__law_difference) .none kV24 dc24 pm24 an24 cd24 ct24 | 25 => PySem.W.fnOf "_law_product" "_law_product" (defArgs s__law_product) (defBody s__law_product) (defScope s__law_product) .none kV25 dc25 pm25 an25 cd25 ct25 | 26 => PySem.W.fnOf "_law_small" "_law_small" (defArgs s__law_small) (defBody s__law_small) (defScope s__law_small) .none kV26 dc26 pm26 an26 cd26 ct26 | 27 => PySem.W.fnOf "_law_point" "_law_point" (defArgs s__law_point) (defBody s__law_point) (defScope s__law_point) .none kV27 dc27 pm27 an27 cd27 ct27 | 28 => PySem.W.fnOf "_law_is_point" "_law_is_point" (defArgs s__law_is_point) (defBody s__law_is_point) (defScope s__law_is_point) .none kV28 dc28 pm28 an28 cd28 ct28 | 29 => PySem.W.fnOf "_law_path" "_law_path" (defArgs s__law_path) (defBody s__law_path) (defScope s__law_path) .none kV29 dc29 pm29 an29 cd29 ct29 | 30 => PySem.W.fnOf "_law_bernstein" "_law_bernstein" (defArgs s__law_bernstein) (defBody s__law_bernstein) (defScope s__law_bernstein) .none kV30 dc30 pm30 an30 cd30 ct30 | 31 => PySem.W.fnOf "_law_on_segment" "_law_on_segment" (defArgs s__law_on_segment) (defBody s__law_on_segment) (defScope s__law_on_segment) .none kV31 dc31 pm31 an31 cd31 ct31 | _ => PySem.W.fnOf "law" "law" (defArgs s_law) (defBody s_law) (defScope s_law) .none kV32 dc32 pm32 an32 cd32 ct32
  have T : Txt K mg A D :=
    {F_ratio := F3,
     m_ratio := PySem.W.mg_of X G n3,
     b_ratio := b3,
     F_add := F4,
     m_add := PySem.W.mg_of X G n4,
     b_add := b4,
     F_subtract := F5,
     m_subtract := PySem.W.mg_of X G n5,
     b_subtract := b5,
     F_multiply := F6,
     m_multiply := PySem.W.mg_of X G n6,
     b_multiply := b6,
     F_compare := F7,
     m_compare := PySem.W.mg_of X G n7,
     b_compare := b7,
     F_floor_of := F8,
     m_floor_of := PySem.W.mg_of X G n8,
     b_floor_of := b8,
     F_length := F9,
     m_length := PySem.W.mg_of X G n9,
     b_length := b9,
     F_between := F10,
     m_between := PySem.W.mg_of X G n10,
     b_between := b10,
     F_part_between := F11,
     m_part_between := PySem.W.mg_of X G n11,
     b_part_between := b11,
     F_cut_segment := F12,
     m_cut_segment := PySem.W.mg_of X G n12,
     b_cut_segment := b12,
     F_point_at := F13,
     m_point_at := PySem.W.mg_of X G n13,
     b_point_at := b13,
     F_time_on := F14,
     m_time_on := PySem.W.mg_of X G n14,
     b_time_on := b14,
     F_clamped := F15,
     m_clamped := PySem.W.mg_of X G n15,
     b_clamped := b15,
     F_segment_at := F16,
     m_segment_at := PySem.W.mg_of X G n16,
     b_segment_at := b16,
     F__law_cell := F17,
     m__law_cell := PySem.W.mg_of X G n17,
     b__law_cell := b17,
     F__law_stream := F18,
     m__law_stream := PySem.W.mg_of X G n18,
     b__law_stream := b18,
     F__law_next := F19,
     m__law_next := PySem.W.mg_of X G n19,
     b__law_next := b19,
     F__law_is_integer := F20,
     m__law_is_integer := PySem.W.mg_of X G n20,
     b__law_is_integer := b20,
     F__law_ratio := F21,
     m__law_ratio := PySem.W.mg_of X G n21,
     b__law_ratio := b21,
     F__law_is_number := F22,
     m__law_is_number := PySem.W.mg_of X G n22,
     b__law_is_number := b22,
     F__law_sum := F23,
     m__law_sum := PySem.W.mg_of X G n23,
     b__law_sum := b23,
     F__law_difference := F24,
     m__law_difference := PySem.W.mg_of X G n24,
     b__law_difference := b24,
     F__law_product := F25,
     m__law_product := PySem.W.mg_of X G n25,
     b__law_product := b25,
     F__law_small := F26,
     m__law_small := PySem.W.mg_of X G n26,
     b__law_small := b26,
     F__law_point := F27,
     m__law_point := PySem.W.mg_of X G n27,
     b__law_point := b27,
     F__law_is_point := F28,
     m__law_is_point := PySem.W.mg_of X G n28,
     b__law_is_point := b28,
     F__law_path := F29,
     m__law_path := PySem.W.mg_of X G n29,
     b__law_path := b29,
     F__law_bernstein := F30,
     m__law_bernstein := PySem.W.mg_of X G n30,
     b__law_bernstein := b30,
     F__law_on_segment := F31,
     m__law_on_segment := PySem.W.mg_of X G n31,
     b__law_on_segment := b31,
     F_law := F32,
     m_law := PySem.W.mg_of X G n32,
     b_law := b32,
     x_FontError := ⟨PySem.W.mg_of X G xg0, xq0, xk0, xt0, ⟨xa0, xb0, xc0, xd0, xe0, xm, xn, xf0⟩, xv0⟩,
     x_TooGreat := ⟨PySem.W.mg_of X G xg1, xq1, xk1, xt1, ⟨xa1, xb1, xc1, xd1, xe1, xm, xn, xf1⟩, xv1⟩,
     x_DivisionByZero := ⟨PySem.W.mg_of X G xg2, xq2, xk2, xt2, ⟨xa2, xb2, xc2, xd2, xe2, xm, xn, xf2⟩, xv2⟩,
     e_FontError_FontError := e0_0,
     e_FontError_TooGreat := e0_1,
     e_FontError_DivisionByZero := e0_2,
     e_TooGreat_FontError := e1_0,
     e_TooGreat_TooGreat := e1_1,
     e_TooGreat_DivisionByZero := e1_2,
     e_DivisionByZero_FontError := e2_0,
     e_DivisionByZero_TooGreat := e2_1,
     e_DivisionByZero_DivisionByZero := e2_2,
     z_abs := PySem.W.mg_none_of X G z_abs,
     z_bool := PySem.W.mg_none_of X G z_bool,
     z_int := PySem.W.mg_none_of X G z_int,
     z_isinstance := PySem.W.mg_none_of X G z_isinstance,
     z_len := PySem.W.mg_none_of X G z_len,
     z_range := PySem.W.mg_none_of X G z_range,
     z_tuple := PySem.W.mg_none_of X G z_tuple,
     l_gcd := PySem.W.mg_of X G l_gcd,
     c_ZERO := PySem.W.mg_of X G ntZERO,
     d_ZERO := fun H => (Z.dpk (vs := [.int (0), .int (1)]) ktZERO_0 (Nat.le_of_ble_eq_true rfl) (.cons ⟨_, rfl⟩ (.cons ⟨_, rfl⟩ .nil)) (.cons (.int _) (.cons (.int _) .nil))),
     c_LIMIT := ⟨_, PySem.W.mg_of X G c_LIMIT, _, rfl⟩}
  exact ⟨_, fun s v => .of_eq rfl, fun base _ _ => ok_law T⟩
end G
open PySem PySem.W PyProof.Rows
set_option maxRecDepth 100000 in
set_option maxHeartbeats 0 in
theorem PySem.Challenge.cw_fontwinding_k14_points_at_times_holds : PySem.Challenge.rw_fontwinding_k14_points_at_times.Holds := by
  w_on; o_law; k_head; (case hw => w_witness2)
  k_fill
  refine L2.walk_of (l := PySem.Challenge.rw_fontwinding_k14_points_at_times) (n := 63) (k := 7) (x := "script") (CX := fun _ => L2.CX0) (sp := fun w => G.sp_law _) rfl (by decide) rfl ⟨rfl, by decide, by decide⟩ (fun w h Y => PySem.W.kIn_of Y) ?F (fun _ _ a ns hl _ hS => ⟨a, ns, rfl, hS, hl, fun _ => rfl⟩) (fun _ _ _ _ _ h => h)
  case F =>
    intro w mg fa h KX G0 hmg
    refine' G.all_mk KX G0 hmg ?n3 ?l3 ?c3 ?k3 ?n4 ?l4 ?c4 ?k4 ?n5 ?l5 ?c5 ?k5 ?n6 ?l6 ?c6 ?k6 ?n7 ?l7 ?c7 ?k7 ?n8 ?l8 ?c8 ?k8 ?n9 ?l9 ?c9 ?k9 ?n10 ?l10 ?c10 ?k10 ?n11 ?l11 ?c11 ?k11 ?n12 ?l12 ?c12 ?k12 ?n13 ?l13 ?c13 ?k13 ?n14 ?l14 ?c14 ?k14 ?n15 ?l15 ?c15 ?k15 ?n16 ?l16 ?c16 ?k16 ?n17 ?l17 ?c17 ?k17 ?n18 ?l18 ?c18 ?k18 ?n19 ?l19 ?c19 ?k19 ?n20 ?l20 ?c20 ?k20 ?n21 ?l21 ?c21 ?k21 ?n22 ?l22 ?c22 ?k22 ?n23 ?l23 ?c23 ?k23 ?n24 ?l24 ?c24 ?k24 ?n25 ?l25 ?c25 ?k25 ?n26 ?l26 ?c26 ?k26 ?n27 ?l27 ?c27 ?k27 ?n28 ?l28 ?c28 ?k28 ?n29 ?l29 ?c29 ?k29 ?n30 ?l30 ?c30 ?k30 ?n31 ?l31 ?c31 ?k31 ?n32 ?l32 ?c32 ?k32 ?xg0 ?xq0 ?xk0 ?xt0 ?xa0 ?xb0 ?xc0 ?xd0 ?xe0 ?xf0 ?xv0 ?xg1 ?xq1 ?xk1 ?xt1 ?xa1 ?xb1 ?xc1 ?xd1 ?xe1 ?xf1 ?xv1 ?xg2 ?xq2 ?xk2 ?xt2 ?xa2 ?xb2 ?xc2 ?xd2 ?xe2 ?xf2 ?xv2 ?xm ?xn ?e0_0 ?e0_1 ?e0_2 ?e1_0 ?e1_1 ?e1_2 ?e2_0 ?e2_1 ?e2_2 ?z_abs ?z_bool ?z_int ?z_isinstance ?z_len ?z_range ?z_tuple ?l_gcd ?c_LIMIT ?ntZERO ?ktZERO_0
    (case n3 => k_is)
    (case l3 => k_is)
    (case c3 => k_is)
    (case k3 => k_is)
    (case n4 => k_is)
    (case l4 => k_is)
    (case c4 => k_is)
    (case k4 => k_is)
    (case n5 => k_is)
    (case l5 => k_is)
    (case c5 => k_is)
    (case k5 => k_is)
    (case n6 => k_is)
    (case l6 => k_is)
    (case c6 => k_is)
    (case k6 => k_is)
    (case n7 => k_is)
    (case l7 => k_is)
    (case c7 => k_is)
    (case k7 => k_is)
    (case n8 => k_is)
    (case l8 => k_is)
    (case c8 => k_is)
    (case k8 => k_is)
    (case n9 => k_is)
    (case l9 => k_is)
    (case c9 => k_is)
    (case k9 => k_is)
    (case n10 => k_is)
    (case l10 => k_is)
    (case c10 => k_is)
    (case k10 => k_is)
    (case n11 => k_is)
    (case l11 => k_is)
    (case c11 => k_is)
    (case k11 => k_is)
    (case n12 => k_is)
    (case l12 => k_is)
    (case c12 => k_is)
    (case k12 => k_is)
    (case n13 => k_is)
    (case l13 => k_is)
    (case c13 => k_is)
    (case k13 => k_is)
    (case n14 => k_is)
    (case l14 => k_is)
    (case c14 => k_is)
    (case k14 => k_is)
    (case n15 => k_is)
    (case l15 => k_is)
    (case c15 => k_is)
    (case k15 => k_is)
    (case n16 => k_is)
    (case l16 => k_is)
    (case c16 => k_is)
    (case k16 => k_is)
    (case n17 => k_is)
    (case l17 => k_is)
    (case c17 => k_is)
    (case k17 => k_is)
    (case n18 => k_is)
    (case l18 => k_is)
    (case c18 => k_is)
    (case k18 => k_is)
    (case n19 => k_is)
    (case l19 => k_is)
    (case c19 => k_is)
    (case k19 => k_is)
    (case n20 => k_is)
    (case l20 => k_is)
    (case c20 => k_is)
    (case k20 => k_is)
    (case n21 => k_is)
    (case l21 => k_is)
    (case c21 => k_is)
    (case k21 => k_is)
    (case n22 => k_is)
    (case l22 => k_is)
    (case c22 => k_is)
    (case k22 => k_is)
    (case n23 => k_is)
    (case l23 => k_is)
    (case c23 => k_is)
    (case k23 => k_is)
    (case n24 => k_is)
    (case l24 => k_is)
    (case c24 => k_is)
    (case k24 => k_is)
    (case n25 => k_is)
    (case l25 => k_is)
    (case c25 => k_is)
    (case k25 => k_is)
    (case n26 => k_is)
    (case l26 => k_is)
    (case c26 => k_is)
    (case k26 => k_is)
    (case n27 => k_is)
    (case l27 => k_is)
    (case c27 => k_is)
    (case k27 => k_is)
    (case n28 => k_is)
    (case l28 => k_is)
    (case c28 => k_is)
    (case k28 => k_is)
    (case n29 => k_is)
    (case l29 => k_is)
    (case c29 => k_is)
    (case k29 => k_is)
    (case n30 => k_is)
    (case l30 => k_is)
    (case c30 => k_is)
    (case k30 => k_is)
    (case n31 => k_is)
    (case l31 => k_is)
    (case c31 => k_is)
    (case k31 => k_is)
    (case n32 => k_is)
    (case l32 => k_is)
    (case c32 => k_is)
    (case k32 => k_is)
    (case xg0 => k_is)
    (case xq0 => k_exc)
    (case xk0 => k_is)
    (case xt0 => k_is)
    (case xa0 => k_is)
    (case xb0 => k_is)
    (case xc0 => k_is)
    (case xd0 => k_is)
    (case xe0 => k_is)
    (case xf0 => k_is)
    (case xv0 => k_is)
    (case xg1 => k_is)
    (case xq1 => k_exc)
    (case xk1 => k_is)
    (case xt1 => k_is)
    (case xa1 => k_is)
    (case xb1 => k_is)
    (case xc1 => k_is)
    (case xd1 => k_is)
    (case xe1 => k_is)
    (case xf1 => k_is)
    (case xv1 => k_is)
    (case xg2 => k_is)
    (case xq2 => k_exc)
    (case xk2 => k_is)
    (case xt2 => k_is)
    (case xa2 => k_is)
    (case xb2 => k_is)
    (case xc2 => k_is)
    (case xd2 => k_is)
    (case xe2 => k_is)
    (case xf2 => k_is)
    (case xv2 => k_is)
    (case xm => k_is)
    (case xn => k_is)
    (case e0_0 => k_is)
    (case e0_1 => k_is)
    (case e0_2 => k_is)
    (case e1_0 => k_is)
    (case e1_1 => k_is)
    (case e1_2 => k_is)
    (case e2_0 => k_is)
    (case e2_1 => k_is)
    (case e2_2 => k_is)
    (case z_abs => k_is)
    (case z_bool => k_is)
    (case z_int => k_is)
    (case z_isinstance => k_is)
    (case z_len => k_is)
    (case z_range => k_is)
    (case z_tuple => k_is)
    (case l_gcd => k_is)
    (case c_LIMIT => k_is)
    (case ntZERO => k_is)
    (case ktZERO_0 => k_is)
