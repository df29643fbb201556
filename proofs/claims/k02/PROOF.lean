import PyProof.Rows.All
import Wide.All
import OpenK.AllK
import Wide.FinOn
import HandS.ForMost
import HandS.ForExc
import HandS.Wide
import HandS.Gcd
import HandS.IsInst
import HandS.ExcIs
import HandS.TryMany
import HandS.Evl
import PySem.Challenge.RW_fontwinding_k02_four_operations
set_option Elab.async false
set_option linter.all false
set_option maxRecDepth 100000
set_option maxHeartbeats 4000000
namespace Z
open PySem PySem.Spec PyProof.Rows L2

/-! ### operators -/
section
variable {X : Cx}
def CFd (_ j : Int) : Prop := j ≠ 0 ∧ j.natAbs.log2 < 9000
theorem op_fdivZ : OpR X (binaryOp .FloorDiv) (rI CFd fun i j => .int (i.fdiv j)) := opI fun i j _ _ _ _ _ hc q => floordiv_int hc.1 q (.inl (PyProof.noPylong_of_log2 hc.2))
theorem pe_globE {x : Str} {pos : Pos} {v : V} (h : ∃ u, X.mg x = some u ∧ RelV v u) (hg : Gl X x := by rfl) (hdb : (x == ("__debug__" : Str)) = false := by decide) : PE X (.Name x pos) (tC v) := by
  obtain ⟨u, h1, h2⟩ := h
  exact pe_glob hg h1 h2 hdb
theorem pe_globR {x : Str} {pos : Pos} {a : Addr} (h : X.mg x = some (.ref a)) (hg : Gl X x := by rfl) (hdb : (x == ("__debug__" : Str)) = false := by decide) : PE X (.Name x pos) (tC (.ref a)) := pe_glob hg h rfl hdb
end
/-- an own error class over ValueError -/
structure ExcX (K : PySem.W.Frag) (mg : Str → Option Value) (x : Str) (C : Addr) : Prop where
  g : mg x = some (.ref C)
  q : PySem.W.excIn K C [.type "ValueError", .type "Exception", .type "BaseException", .type "object"] "ValueError.__new__" = true
  k : PySem.W.keepIn K (.ref C) = true
  t : PySem.W.typeIn K (.ref C) = some (.type "type")
  c : ExcC K C
  v : PySem.W.subIn K (.ref C) (.type "ValueError") = some true
section
variable {X : Cx} {C D : Addr} {K : PySem.W.Frag} {mg : Str → Option Value} {x y : Str} {b : Bool}
theorem pmk {m : Str} {j : Nat} {p p2 pos : Pos} (E : ExcX X.K X.mg x C) (hg : Gl X x) (hdb : (x == ("__debug__" : Str)) = false := by decide) :
    PMk X (.Call (.Name x p) [.Constant (.str m) j p2] [] pos) (fun _ H Q => Q (.ref C) none H) := pmk_own PySem.F.excBase_ValueError E.q E.g E.k (raises_own E.c.hs E.t) hg hdb
theorem exm (E : ExcX K mg x C) (h : PySem.W.subIn K (.ref D) (.ref C) = some b) : PySem.W.exmOne K (.ref D) (.ref C) = some b := PySem.W.exm_ref E.c.hs E.c.hd E.t h
theorem kit_own (E : ExcX K mg x C) (h : PySem.W.subIn K (.ref D) (.ref C) = some b) (hs : PySem.W.subIn K (.ref C) (.ref C) = some true) : PySem.W.kitOne K (.ref D) (.ref C) = some b := by
  unfold PySem.W.kitOne
  by_cases e : D = C
  · subst e
    rw [hs] at h
    cases h
    rw [if_pos (by simp)]
  · rw [if_neg (by simpa using e)]
    unfold PySem.W.kitCls
    obtain ⟨cd, hc, _⟩ := PySem.W.any_some E.c.hd
    have e2 : ((PySem.W.clsIn K C).isSome && PySem.W.typeIn K (.ref C) == some (.type "type")) = true := by rw [hc, E.t] <;> rfl
    show (if _ then _ else _) = _
    rw [if_pos e2, h]
theorem kit_ve (E : ExcX K mg x D) : PySem.W.kitOne K (.ref D) (.type "ValueError") = some true := by
  unfold PySem.W.kitOne
  rw [if_neg (by simp)]
  unfold PySem.W.kitCls
  show (if _ then _ else _) = _
  rw [if_pos (by decide +kernel), E.v]
/-- isinstance of the error that a suite holds -/
def rIsEx (K : PySem.W.Frag) (cls : Value) (d : Option Addr) (a : Addr) : List V → Hp → VK → Prop := fun xs H Q => ∃ D, cls = .ref D ∧ d = none ∧ ExcC K D ∧ rIsE K D a xs H Q
theorem call_isE {a : Addr} {oe : Obj} {cls : Value} {d : Option Addr} {pn : List (Addr × Obj)} (hz : Zc cls d oe) (hf : ∃ vs, oe.data = .fields vs) : CallR (X.suite a ((a, oe) :: pn)) (.builtin "isinstance") (rIsEx X.K cls d a) := by
  intro pins s σ H xs us Q I r h
  obtain ⟨D, e1, e2, c, h⟩ := h
  subst e1
  subst e2
  exact L2.call_isE c hz hf pins s σ H xs us Q I r h
end

/-! ### heaps -/
theorem same_upd {H : Hp} {p : Addr} {o : HO} (h : H p = none) : Same H (upd H p o) := fun b x e => by
  rw [upd_ne (ne_of_none e h)]
  exact e
theorem Same.seqT {K : PySem.W.Frag} {H H' : Hp} {a : Addr} {xs : List V} (e : Same H H') (h : SqT K H a xs) : SqT K H' a xs := by
  rcases h with (h | ⟨o, h⟩) | h
  · exact .inl (.inl (e _ _ h))
  · exact .inl (.inr ⟨o, e _ _ h⟩)
  · exact .inr h
theorem seqT {K : PySem.W.Frag} {H H' : Hp} {a : Addr} {xs : List V} (e : Same H H') (h : SqT K H a xs) : SqT K H' a xs := Same.seqT e h
theorem sz {n : Nat} (h : n ≤ 1000) : n ≤ sizeLine := Nat.le_trans h (by decide)

/-! ### readings, step by step -/
def NewT (Q : VK) : List V → Hp → Prop := fun xs H1 => xs.length ≤ sizeLine ∧ ∀ p, H1 p = none → Q (.ref p) (upd H1 p (.tup xs))
def NewL (Q : VK) : List V → Hp → Prop := fun xs H1 => xs.length ≤ sizeLine ∧ ∀ p, H1 p = none → Q (.ref p) (upd H1 p (.lst xs))
section
variable {σ : L2.St} {H : Hp} {n : L2.St → Hp → Prop} {r : VK} {b c : L2.St → Hp → Prop} {t u : TS} {te ta tb : TE} {tt tu : TT} {Q : VK} {QB : Bool → Hp → Prop} {v w x y : V} {i j : Int} {K : PySem.W.Frag}
theorem z_seq (h : t ⟨u ⟨n, r, b, c⟩, r, b, c⟩ σ H) : tSeq t u ⟨n, r, b, c⟩ σ H := h
theorem z_asg {k : Nat} (h : te σ H fun x H1 => n (σ.set k (some x)) H1) : tAsg te (gName k) ⟨n, r, b, c⟩ σ H := h
theorem z_asgS {to ti : TE} {st : TSet} (h : te σ H fun v H0 => to σ H0 fun o H1 => ti σ H1 fun k H2 => st o k v H2 fun H3 => n σ H3) : tAsg te (gSub to ti st) ⟨n, r, b, c⟩ σ H := h
theorem z_drop (h : te σ H fun _ H1 => n σ H1) : tDrop te ⟨n, r, b, c⟩ σ H := h
theorem z_ret (h : te σ H r) : tRet te ⟨n, r, b, c⟩ σ H := h
theorem z_retN (h : r .non H) : tRetN ⟨n, r, b, c⟩ σ H := h
theorem z_next (h : n σ H) : tNext ⟨n, r, b, c⟩ σ H := h
theorem z_brk (h : b σ H) : tBreak ⟨n, r, b, c⟩ σ H := h
theorem z_cont (h : c σ H) : tCont ⟨n, r, b, c⟩ σ H := h
theorem z_ifs (h : tt σ H fun k H1 => if k = true then t ⟨n, r, b, c⟩ σ H1 else u ⟨n, r, b, c⟩ σ H1) : tIfS tt t u ⟨n, r, b, c⟩ σ H := h
theorem z_par {p q : Nat} {tl : TA} (h : tl σ H fun vs H1 => ∃ v w, vs = [v, w] ∧ n ((σ.set p (some v)).set q (some w)) H1) : tPar p q tl ⟨n, r, b, c⟩ σ H := h
theorem z_two {R : V → V → Prop} (h : R v w) : ∃ v' w', [v, w] = [v', w'] ∧ R v' w' := ⟨v, w, rfl, h⟩
theorem z_aug {k : Nat} {ti : TIp} (h : σ[k]? = some (some x)) (q : te σ H fun y H1 => ti x y H1 fun z H2 => n (σ.set k (some z)) H2) : tAug k te ti ⟨n, r, b, c⟩ σ H := ⟨x, h, q⟩
theorem z_ipI {f : Int → Int → Int} (q : Q (.int (f i j)) H) : ipI f (.int i) (.int j) H Q := ⟨i, j, rfl, rfl, q⟩
theorem z_var {k : Nat} (h : σ[k]? = some (some v)) (q : Q v H) : tVar k σ H Q := ⟨v, h, q⟩
theorem z_c (q : Q v H) : tC v σ H Q := q
theorem z_op {g : R2} (h : ta σ H fun x H1 => tb σ H1 fun y H2 => g x y H2 Q) : tOp g ta tb σ H Q := h
theorem z_un {g : V → Hp → VK → Prop} (h : ta σ H fun x H1 => g x H1 Q) : tUn g ta σ H Q := h
theorem z_I0 {g : Int → Int → V} (q : Q (g i j) H) : rI0 g (.int i) (.int j) H Q := ⟨i, j, rfl, rfl, q⟩
theorem z_I {C : Int → Int → Prop} {g : Int → Int → V} (hc : C i j) (q : Q (g i j) H) : rI C g (.int i) (.int j) H Q := ⟨i, j, rfl, rfl, hc, q⟩
theorem z_U {g : Int → V} (q : Q (g i) H) : rU g (.int i) H Q := ⟨i, rfl, q⟩
theorem z_eqI (q : Q (.bl (decide (i = j))) H) : rEq (.int i) (.int j) H Q := ⟨rfl, by rw [show decide (V.int i = V.int j) = decide (i = j) by simp]; exact q⟩
theorem z_neI (q : Q (.bl (decide (¬ i = j))) H) : rNe (.int i) (.int j) H Q := ⟨rfl, by rw [show (!decide (V.int i = V.int j)) = decide (¬ i = j) by simp]; exact q⟩
theorem z_eq (h : scal x y = true) (q : Q (.bl (decide (x = y))) H) : rEq x y H Q := ⟨h, q⟩
theorem z_test (h : te σ H fun x H1 => ∃ k, x = .bl k ∧ QB k H1) : tTest te σ H QB := h
theorem z_tB (h : te σ H fun x H1 => ∃ k, x = .bl k ∧ QB k H1) : tB te σ H QB := h
theorem z_bl {k : Bool} {R : Bool → Prop} (q : R k) : ∃ k', V.bl k = V.bl k' ∧ R k' := ⟨k, rfl, q⟩
theorem z_notT (h : tt σ H fun k H1 => QB (!k) H1) : tNot tt σ H QB := h
theorem z_andT (h : tt σ H fun k H1 => if k = true then tu σ H1 QB else QB false H1) : tAnd tt tu σ H QB := h
theorem z_orT (h : tt σ H fun k H1 => if k = true then QB true H1 else tu σ H1 QB) : tOr tt tu σ H QB := h
theorem z_andV (h : ta σ H fun x H1 => ∃ k, x = .bl k ∧ if k = true then tb σ H1 Q else Q (.bl false) H1) : tAndV ta tb σ H Q := h
theorem z_orV (h : ta σ H fun x H1 => ∃ k, x = .bl k ∧ if k = true then Q (.bl true) H1 else tb σ H1 Q) : tOrV ta tb σ H Q := h
theorem z_notV (h : ta σ H fun x H1 => ∃ k, x = .bl k ∧ Q (.bl (!k)) H1) : tNotV ta σ H Q := h
theorem z_ifE (h : tt σ H fun k H1 => if k = true then ta σ H1 Q else tb σ H1 Q) : tIf tt ta tb σ H Q := h
theorem z_chain {g g' : R2} {tc : TE} (h : ta σ H fun x H1 => tb σ H1 fun y H2 => g x y H2 fun z H3 => ∃ k, z = .bl k ∧ (if k = true then tc σ H3 fun w' H4 => g' y w' H4 Q else Q (.bl false) H3)) : tChain g g' ta tb tc σ H Q := h
theorem z_nil {R : List V → Hp → Prop} (q : R [] H) : tNil σ H R := q
theorem z_cons {tr : TA} {R : List V → Hp → Prop} (h : ta σ H fun x H1 => tr σ H1 fun xs H2 => R (x :: xs) H2) : tCons ta tr σ H R := h
theorem z_tup {tl : TA} (h : tl σ H (NewT Q)) : tTup tl σ H Q := h
theorem z_lst {tl : TA} (h : tl σ H (NewL Q)) : tLst tl σ H Q := h
theorem z_newT {xs : List V} (hl : xs.length ≤ 1000) (q : ∀ p H', H p = none → Same H H' → H' p = some (.tup xs) → Q (.ref p) H') : NewT Q xs H := ⟨sz hl, fun p hp => q p _ hp (same_upd hp) upd_same⟩
theorem z_newL {xs : List V} (hl : xs.length ≤ 1000) (q : ∀ p H', H p = none → Same H H' → H' p = some (.lst xs) → Q (.ref p) H') : NewL Q xs H := ⟨sz hl, fun p hp => q p _ hp (same_upd hp) upd_same⟩
theorem z_cb {g : List V → Hp → VK → Prop} {tl : TA} (h : tl σ H fun vs H1 => g vs H1 Q) : tCB g tl σ H Q := h
theorem z_call {sp : Sp} {E : XK} {tl : TA} (h : tl σ H fun vs H1 => sp vs H1 Q E) : tCall sp [] E tl σ H Q := by
  unfold tCall
  simpa only [List.append_nil] using h
theorem z_callS {sp : Sp} {E : L2.St → XK} {tl : TA} (h : tl σ H fun vs H1 => sp vs H1 Q (E σ)) : tCallS sp E tl σ H Q := h
theorem z_ixL {p : Addr} {xs : List V} (h : SqL K H p xs) (ha : atI xs i = some v) (q : Q v H) : rIxL K (.ref p) (.int i) H Q := ⟨p, xs, i, v, rfl, rfl, h, ha, q⟩
theorem z_ixT {p : Addr} {xs : List V} (h : SqT K H p xs) (ha : atI xs i = some v) (q : Q v H) : rIxT K (.ref p) (.int i) H Q := ⟨p, xs, i, v, rfl, rfl, h, ha, q⟩
theorem z_setL {p : Addr} {xs : List V} {k : Nat} {R : Hp → Prop} (h : H p = some (.lst xs)) (hk : ixN xs.length i = some k) (q : R (upd H p (.lst (xs.set k v)))) : rSetL (.ref p) (.int i) v H R := ⟨p, xs, i, k, rfl, rfl, h, hk, q⟩
theorem z_if {p : Prop} [Decidable p] {A B : Prop} (h1 : p → A) (h2 : ¬ p → B) : if decide p = true then A else B := by
  by_cases h : p
  · rw [if_pos (decide_eq_true h)]
    exact h1 h
  · rw [if_neg (by simpa using h)]
    exact h2 h
theorem z_ifB {k : Bool} {A B : Prop} (h1 : k = true → A) (h2 : k = false → B) : if k = true then A else B := by
  cases k with
  | true => exact h1 rfl
  | false => exact h2 rfl
/-- and, or, not of a test whose answer is known, the heap as it was -/
theorem z_andK {k k' : Bool} (h : k = true → ∀ R : Bool → Hp → Prop, R k' H → tu σ H R) (q : QB (k && k') H) : if k = true then tu σ H QB else QB false H := by
  cases k with
  | true => exact h rfl QB q
  | false => exact q
theorem z_orK {k k' : Bool} (h : k = false → ∀ R : Bool → Hp → Prop, R k' H → tu σ H R) (q : QB (k || k') H) : if k = true then QB true H else tu σ H QB := by
  cases k with
  | true => exact q
  | false => exact h rfl QB q
theorem z_andKV {k k' : Bool} (h : k = true → ∀ R : VK, R (.bl k') H → tb σ H R) (q : Q (.bl (k && k')) H) : if k = true then tb σ H Q else Q (.bl false) H := by
  cases k with
  | true => exact h rfl Q q
  | false => exact q
theorem z_orKV {k k' : Bool} (h : k = false → ∀ R : VK, R (.bl k') H → tb σ H R) (q : Q (.bl (k || k')) H) : if k = true then Q (.bl true) H else tb σ H Q := by
  cases k with
  | true => exact q
  | false => exact h rfl Q q
/-- the second comparison of a chain -/
theorem z_chK {k k' : Bool} {tc : TE} {g' : R2} (h : k = true → ∀ R : VK, R (.bl k') H → tc σ H fun w' H4 => g' y w' H4 R) (q : Q (.bl (k && k')) H) :
    if k = true then tc σ H fun w' H4 => g' y w' H4 Q else Q (.bl false) H := by
  cases k with
  | true => exact h rfl Q q
  | false => exact q
theorem z_ty {x : V} {t : String} {T : String} {k : Bool} {H : Hp} {Q : VK} (h : TyX K H x (.type t)) (e : kitB t T = some k) (q : Q (.bl k) H) : rIsi K [x, .ty T] H Q := ⟨x, .ty T, .type t, .type T, k, rfl, .ty T, h, kit_ty e, q⟩
end
end Z
namespace Z
open PySem PySem.Spec PyProof.Rows L2
theorem pe_powc {X : Cx} {a b v : Int} {j1 j2 : Nat} {p1 p2 pos : Pos} (h0 : CPow a b) (hv : a ^ b.toNat = v) : PE X (.BinOp (.Constant (.int a) j1 p1) .Pow (.Constant (.int b) j2 p2) pos) (tC (.int v)) := by
  subst hv
  exact ⟨fun pins s σ H Q I h => (pe_op op_pow pe_int pe_int).run pins s σ H Q I ⟨a, b, rfl, rfl, h0, h⟩⟩
def rInt1 : List V → Hp → VK → Prop := fun xs H Q => (∃ i, xs = [.int i] ∧ Q (.int i) H) ∨ ∃ k, xs = [.bl k] ∧ Q (.int (if k then 1 else 0)) H
def rAbs : List V → Hp → VK → Prop := fun xs H Q => ∃ i, xs = [.int i] ∧ Q (.int (if i < 0 then -i else i)) H
def rLen (K : PySem.W.Frag) : List V → Hp → VK → Prop := fun xs H Q => ∃ p ys, xs = [.ref p] ∧ (SqL K H p ys ∨ SqT K H p ys) ∧ Q (.int ys.length) H
theorem c_int {X : Cx} : CallR X (.type "int") rInt1 := call_int1
theorem c_abs {X : Cx} : CallR X (.builtin "abs") rAbs := call_abs
theorem c_len {X : Cx} : CallR X (.builtin "len") (rLen X.K) := call_len_seq
section
variable {H : Hp} {Q : VK} {i j : Int} {v : V} {R : Prop}
theorem z_int1 (q : Q (.int i) H) : rInt1 [.int i] H Q := .inl ⟨i, rfl, q⟩
theorem z_int1b {k : Bool} (q : Q (.int (if k then 1 else 0)) H) : rInt1 [.bl k] H Q := .inr ⟨k, rfl, q⟩
theorem z_abs (q : Q (.int (if i < 0 then -i else i)) H) : rAbs [.int i] H Q := ⟨i, rfl, q⟩
theorem z_gcd (q : Q (.int ((Nat.gcd i.natAbs j.natAbs : Nat) : Int)) H) : rGcd [.int i, .int j] H Q := ⟨i, j, rfl, q⟩
theorem z_lenL {K : PySem.W.Frag} {p : Addr} {xs : List V} (h : SqL K H p xs) (q : Q (.int (xs.length : Int)) H) : rLen K [.ref p] H Q := ⟨p, xs, rfl, .inl h, q⟩
theorem z_lenT {K : PySem.W.Frag} {p : Addr} {xs : List V} (h : SqT K H p xs) (q : Q (.int (xs.length : Int)) H) : rLen K [.ref p] H Q := ⟨p, xs, rfl, .inr h, q⟩
theorem z_isII {K : PySem.W.Frag} (q : Q (.bl true) H) : rIsi K [.int i, .ty "int"] H Q := z_ty (.base (.int i)) (by decide +kernel) q
theorem z_isIB {K : PySem.W.Frag} (q : Q (.bl false) H) : rIsi K [.int i, .ty "bool"] H Q := z_ty (.base (.int i)) (by decide +kernel) q
theorem z_isBB {K : PySem.W.Frag} {k : Bool} (q : Q (.bl true) H) : rIsi K [.bl k, .ty "bool"] H Q := z_ty (.base (.bl k)) (by decide +kernel) q
theorem z_isTT {K : PySem.W.Frag} {p : Addr} {xs : List V} (h : H p = some (.tup xs)) (q : Q (.bl true) H) : rIsi K [.ref p, .ty "tuple"] H Q := z_ty (.base (.tup h)) (by decide +kernel) q
theorem z_isLL {K : PySem.W.Frag} {p : Addr} {xs : List V} (h : H p = some (.lst xs)) (q : Q (.bl true) H) : rIsi K [.ref p, .ty "list"] H Q := z_ty (.base (.lst h)) (by decide +kernel) q
theorem z_new {xs : List V} {F : Addr → Prop} (h : xs.length ≤ 1000) (q : ∀ p, H p = none → F p) : xs.length ≤ sizeLine ∧ ∀ p, H p = none → F p := ⟨sz h, q⟩
end
end Z
namespace Z
open PySem PySem.Spec PyProof.Rows L2
section
variable {σ : L2.St} {H : Hp} {n : L2.St → Hp → Prop} {r : VK} {b c : L2.St → Hp → Prop} {tb : TS} {K : PySem.W.Frag}
/-- for k in range(m) -/
theorem z_forR1 {ta : TA} {k : Nat} (m : Nat) (hm : m < 2 ^ 62) (ha : ∀ R : List V → Hp → Prop, R [.int (m : Int)] H → ta σ H R) (Pv : Nat → L2.St → Hp → Prop) (h0 : Pv 0 σ H)
    (hs : ∀ i σ H, i < m → Pv i σ H → tb ⟨Pv (i + 1), r, n, Pv (i + 1)⟩ (σ.set k (some (.int (i : Int)))) H) (hd : ∀ σ H, Pv m σ H → n σ H) : tFor (iRng1 ta) (gName k) tb ⟨n, r, b, c⟩ σ H := by
  refine ha _ ⟨(m : Int), rfl, by omega, by omega, ?_⟩
  refine for_range (lo := 0) (n := (m : Int).toNat) Pv h0 (fun i σ' H' hi p => ?_) (fun σ' H' p => hd σ' H' (by simpa using p))
  have e : (0 : Int) + (i : Int) = (i : Int) := Int.zero_add _
  show tb _ (σ'.set k (some (.int ((0 : Int) + (i : Int))))) H'
  rw [e]
  exact hs i σ' H' (by simpa using hi) p
/-- for k in range(lo, hi) -/
theorem z_forR2 {ta : TA} {k : Nat} (lo : Int) (m : Nat) (hl : -(2 ^ 61) ≤ lo ∧ lo < 2 ^ 61) (hm : m < 2 ^ 61) (ha : ∀ R : List V → Hp → Prop, R [.int lo, .int (lo + (m : Int))] H → ta σ H R) (Pv : Nat → L2.St → Hp → Prop) (h0 : Pv 0 σ H)
    (hs : ∀ i σ H, i < m → Pv i σ H → tb ⟨Pv (i + 1), r, n, Pv (i + 1)⟩ (σ.set k (some (.int (lo + (i : Int))))) H) (hd : ∀ σ H, Pv m σ H → n σ H) : tFor (iRng2 ta) (gName k) tb ⟨n, r, b, c⟩ σ H := by
  refine ha _ ⟨lo, lo + (m : Int), rfl, by omega, ?_⟩
  have en : (lo + (m : Int) - lo).toNat = m := by omega
  rw [en]
  exact for_range (lo := lo) (n := m) Pv h0 hs hd
/-- for x in a list, in a tuple -/
theorem z_forL {tl : TE} {g : TG} {a : Addr} {xs : List V} (ha : ∀ R : VK, R (.ref a) H → tl σ H R) (hx : SqL K H a xs) (Pv : Nat → L2.St → Hp → Prop) (h0 : Pv 0 σ H) (hl : ∀ i σ H, i ≤ xs.length → Pv i σ H → SqL K H a xs)
    (hs : ∀ i x σ H, xs[i]? = some x → Pv i σ H → g x σ H fun σ2 H2 => tb ⟨Pv (i + 1), r, n, Pv (i + 1)⟩ σ2 H2) (hd : ∀ σ H, Pv xs.length σ H → n σ H) : tFor (iList K tl) g tb ⟨n, r, b, c⟩ σ H :=
  ha _ ⟨a, rfl, ⟨xs, hx⟩, for_list Pv h0 hl hs hd⟩
theorem z_forT {tl : TE} {g : TG} {a : Addr} {xs : List V} (ha : ∀ R : VK, R (.ref a) H → tl σ H R) (hx : SqT K H a xs) (Pv : Nat → L2.St → Hp → Prop) (h0 : Pv 0 σ H) (hl : ∀ i σ H, i ≤ xs.length → Pv i σ H → SqT K H a xs)
    (hs : ∀ i x σ H, xs[i]? = some x → Pv i σ H → g x σ H fun σ2 H2 => tb ⟨Pv (i + 1), r, n, Pv (i + 1)⟩ σ2 H2) (hd : ∀ σ H, Pv xs.length σ H → n σ H) : tFor (iTup K tl) g tb ⟨n, r, b, c⟩ σ H :=
  ha _ ⟨a, rfl, ⟨xs, hx⟩, for_tup Pv h0 hl hs hd⟩
theorem z_gName {k : Nat} {v : V} {R : L2.St → Hp → Prop} (q : R (σ.set k (some v)) H) : gName k v σ H R := q
end
end Z
namespace Z
section
variable {A B : Prop}
theorem z_ifT (q : A) : if true = true then A else B := by
  rw [if_pos rfl]
  exact q
theorem z_ifF (q : B) : if false = true then A else B := by
  rw [if_neg Bool.false_ne_true]
  exact q
theorem z_ifNF (q : A) : if (!false) = true then A else B := z_ifT q
theorem z_ifNT (q : B) : if (!true) = true then A else B := z_ifF q
theorem z_ifN {p : Prop} [Decidable p] (h1 : ¬ p → A) (h2 : p → B) : if (!decide p) = true then A else B := by
  by_cases h : p
  · rw [if_neg (by simpa using h)]
    exact h2 h
  · rw [if_pos (by simpa using h)]
    exact h1 h
end
end Z
namespace Z
theorem z_ifYes {A B : Prop} {k : Bool} (h : k = true) (q : A) : if k = true then A else B := by
  rw [if_pos h]
  exact q
theorem z_ifNo {A B : Prop} {k : Bool} (h : k = false) (q : B) : if k = true then A else B := by
  rw [if_neg (by rw [h]; exact Bool.false_ne_true)]
  exact q
end Z
namespace Z
open PySem PySem.Spec PyProof.Rows L2
theorem z_exc {K : PySem.W.Frag} {cv cls : Value} {i : Nat} {ts : Addr → Value → Option Addr → TS} {Wout : WX} {n : L2.St → Hp → Prop} {r : VK} {b c : L2.St → Hp → Prop} {d : Option Addr} {σ : L2.St} {H : Hp} (e : PySem.W.exmOne K cls cv = some true)
    (h : ∀ a, H a = none → ts a cls d ⟨fun σ' H' => n (σ'.set i none) H', r, fun σ' H' => b (σ'.set i none) H', fun σ' H' => c (σ'.set i none) H'⟩ (σ.set i (some (.ref a))) H) : WE (wAs K cv i ts Wout ⟨n, r, b, c⟩) σ cls d H :=
  ⟨true, e, fun _ a ha => h a ha, fun z => Bool.noConfusion z⟩
theorem z_excO {K : PySem.W.Frag} {cv cls : Value} {ts : Addr → Value → Option Addr → TS} {Wout : WX} {D : Ends} {d : Option Addr} {σ : L2.St} {H : Hp} (e : PySem.W.exmOne K cls cv = some true)
    (h : ∀ a, H a = none → ts a cls d D σ H) : WE (wOnly K cv ts Wout D) σ cls d H :=
  ⟨true, e, fun _ a ha => h a ha, fun z => Bool.noConfusion z⟩
theorem z_isEr {K : PySem.W.Frag} {a C D : Addr} {k : Bool} {H : Hp} {Q : VK} (x : ExcC K D) (e : PySem.W.kitOne K (.ref D) (.ref C) = some k) (q : Q (.bl k) H) : rIsEx K (.ref D) none a [.ref a, .ref C] H Q :=
  ⟨D, rfl, rfl, x, .ref C, .ref C, k, rfl, fun u h => h, e, q⟩
theorem z_isEt {K : PySem.W.Frag} {a D : Addr} {t : String} {k : Bool} {H : Hp} {Q : VK} (x : ExcC K D) (e : PySem.W.kitOne K (.ref D) (.type t) = some k) (q : Q (.bl k) H) : rIsEx K (.ref D) none a [.ref a, .ty t] H Q :=
  ⟨D, rfl, rfl, x, .ty t, .type t, k, rfl, fun u h => h, e, q⟩
/-- two lists, tuples of flat things compared -/
theorem z_eqD {K : PySem.W.Frag} {x y : V} {d e : PyData} {H : Hp} {Q : VK} (h1 : Dp K H x d) (h2 : Dp K H y e) (s1 : SeqAt.shaped d = true) (s2 : SeqAt.shaped e = true) (q : Q (.bl (PyData.eqv d e)) H) : rEqD K x y H Q := ⟨d, e, h1, h2, s1, s2, q⟩
end Z
namespace Z
open PySem PySem.Spec PyProof.Rows L2
theorem z_eqSame {K : PySem.W.Frag} {x y : V} {d : PyData} {H : Hp} {Q : VK} (h1 : Dp K H x d) (h2 : Dp K H y d) (s : SeqAt.shaped d = true) (q : Q (.bl true) H) : rEqD K x y H Q :=
  ⟨d, d, h1, h2, s, s, by rw [SeqAt.eqv_refl d (SeqAt.canLay_of_shaped s)]; exact q⟩
theorem dpT2 {K : PySem.W.Frag} {H : Hp} {p : Addr} {n d : Int} (h : H p = some (.tup [.int n, .int d])) : Dp K H (.ref p) (.tuple [.int n, .int d]) := .tup (.inl (.inl h)) (.cons (.int n) (.cons (.int d) .nil))
theorem dpB3 {K : PySem.W.Frag} {H : Hp} {p : Addr} {a b c : Bool} (h : H p = some (.lst [.bl a, .bl b, .bl c])) : Dp K H (.ref p) (.list [.bool a, .bool b, .bool c]) := .lst (.inl (.inl h)) (.cons (.bl a) (.cons (.bl b) (.cons (.bl c) .nil)))
end Z
namespace Z
open PySem PySem.Spec PyProof.Rows L2
theorem z_cut {t u : TS} {n : L2.St → Hp → Prop} {r : VK} {b c : L2.St → Hp → Prop} {σ : L2.St} {H : Hp} (Mid : L2.St → Hp → Prop) (h : t ⟨Mid, r, b, c⟩ σ H) (k : ∀ σ' H', Mid σ' H' → u ⟨n, r, b, c⟩ σ' H') : Evl.tCut t u ⟨n, r, b, c⟩ σ H := ⟨Mid, h, k⟩
end Z
namespace Z
open PySem PySem.Spec PyProof.Rows L2
section
variable {σ : L2.St} {H : Hp} {n : L2.St → Hp → Prop} {r : VK} {b c : L2.St → Hp → Prop} {te : TE} {K : PySem.W.Frag} {a : Addr} {xs : List V} {gs : TGs} {m : Nat} {v : V}
theorem z_asgT (h : te σ H fun x H1 => ∃ a xs, x = .ref a ∧ SqT K H1 a xs ∧ xs.length = m ∧ gs xs σ H1 n) : tAsg te (gTup K m gs) ⟨n, r, b, c⟩ σ H := h
theorem z_asgL (h : te σ H fun x H1 => ∃ a xs, x = .ref a ∧ SqL K H1 a xs ∧ xs.length = m ∧ gs xs σ H1 n) : tAsg te (gLst K m gs) ⟨n, r, b, c⟩ σ H := h
theorem z_up (h : SqT K H a xs) (hm : xs.length = m) (q : gs xs σ H n) : ∃ a' xs', V.ref a = .ref a' ∧ SqT K H a' xs' ∧ xs'.length = m ∧ gs xs' σ H n := ⟨a, xs, rfl, h, hm, q⟩
theorem z_upL (h : SqL K H a xs) (hm : xs.length = m) (q : gs xs σ H n) : ∃ a' xs', V.ref a = .ref a' ∧ SqL K H a' xs' ∧ xs'.length = m ∧ gs xs' σ H n := ⟨a, xs, rfl, h, hm, q⟩
theorem z_gT (h : SqT K H a xs) (hm : xs.length = m) (q : gs xs σ H n) : gTup K m gs (.ref a) σ H n := ⟨a, xs, rfl, h, hm, q⟩
theorem z_gcons {t : TG} {u : TGs} {R : L2.St → Hp → Prop} (h : t v σ H fun σ' H' => u xs σ' H' R) : gCons t u (v :: xs) σ H R := ⟨v, xs, rfl, h⟩
theorem z_gnil {R : L2.St → Hp → Prop} (h : R σ H) : gNil [] σ H R := ⟨rfl, h⟩
end
end Z
namespace Z
open PySem PySem.Spec PyProof.Rows L2
section
variable {K : PySem.W.Frag} {Wout : WX} {D : Ends} {c cls : Value} {ts : Addr → Value → Option Addr → TS} {l : List (Value × (Addr → Value → Option Addr → TS))} {σ : L2.St} {H : Hp} {d : Option Addr}
theorem z_many1 (e : PySem.W.exmOne K cls c = some true) (h : ∀ a, H a = none → ts a cls d D σ H) : WE (wMany K Wout D ((c, ts) :: l)) σ cls d H := ⟨true, e, fun _ a ha => h a ha, fun z => Bool.noConfusion z⟩
theorem z_many0 (e : PySem.W.exmOne K cls c = some false) (h : WE (wMany K Wout D l) σ cls d H) : WE (wMany K Wout D ((c, ts) :: l)) σ cls d H := ⟨false, e, fun z => Bool.noConfusion z, fun _ => h⟩
theorem z_eqS {x : Str} {Q : VK} (q : Q (.bl true) H) : rEq (.str x) (.str x) H Q := ⟨rfl, by rw [decide_eq_true rfl]; exact q⟩
end
end Z

namespace G
open PySem PySem.Spec PyProof.Rows L2 Z
def topS (i : Nat) : Stmt := PySem.Challenge.pw_fontwinding_k02_four_operations.main.body.getD i (.Pass ⟨0, 0, 0, 0⟩)
abbrev s_ratio : Stmt := topS 7
abbrev s_add : Stmt := topS 8
abbrev s_subtract : Stmt := topS 9
abbrev s_multiply : Stmt := topS 10
abbrev s_divide : Stmt := topS 11
abbrev s__law_cell : Stmt := topS 13
abbrev s__law_stream : Stmt := topS 14
abbrev s__law_next : Stmt := topS 15
abbrev s__law_is_integer : Stmt := topS 16
abbrev s__law_ratio : Stmt := topS 17
abbrev s__law_is_number : Stmt := topS 18
abbrev s__law_drawn : Stmt := topS 19
abbrev s__law_told : Stmt := topS 20
abbrev s__law_holds : Stmt := topS 21
abbrev s_law : Stmt := topS 22
theorem sc_ratio : FnScope ["n", "d", "common", "top", "bottom"] ["n", "d"] (defScope s_ratio) := ⟨rfl, rfl, rfl, by decide +kernel, rfl, by decide +kernel, by decide +kernel⟩
theorem sc_add : FnScope ["a", "b"] ["a", "b"] (defScope s_add) := ⟨rfl, rfl, rfl, by decide +kernel, rfl, by decide +kernel, by decide +kernel⟩
theorem sc_subtract : FnScope ["a", "b"] ["a", "b"] (defScope s_subtract) := ⟨rfl, rfl, rfl, by decide +kernel, rfl, by decide +kernel, by decide +kernel⟩
theorem sc_multiply : FnScope ["a", "b"] ["a", "b"] (defScope s_multiply) := ⟨rfl, rfl, rfl, by decide +kernel, rfl, by decide +kernel, by decide +kernel⟩
theorem sc_divide : FnScope ["a", "b"] ["a", "b"] (defScope s_divide) := ⟨rfl, rfl, rfl, by decide +kernel, rfl, by decide +kernel, by decide +kernel⟩
theorem sc__law_cell : FnScope ["script", "k"] ["script", "k"] (defScope s__law_cell) := ⟨rfl, rfl, rfl, by decide +kernel, rfl, by decide +kernel, by decide +kernel⟩
theorem sc__law_stream : FnScope ["cell"] ["cell"] (defScope s__law_stream) := ⟨rfl, rfl, rfl, by decide +kernel, rfl, by decide +kernel, by decide +kernel⟩
theorem sc__law_next : FnScope ["stream", "size", "drawn", "mixed"] ["stream", "size"] (defScope s__law_next) := ⟨rfl, rfl, rfl, by decide +kernel, rfl, by decide +kernel, by decide +kernel⟩
theorem sc__law_is_integer : FnScope ["actual"] ["actual"] (defScope s__law_is_integer) := ⟨rfl, rfl, rfl, by decide +kernel, rfl, by decide +kernel, by decide +kernel⟩
theorem sc__law_ratio : FnScope ["n", "d", "a", "b", "k"] ["n", "d"] (defScope s__law_ratio) := ⟨rfl, rfl, rfl, by decide +kernel, rfl, by decide +kernel, by decide +kernel⟩
theorem sc__law_is_number : FnScope ["actual"] ["actual"] (defScope s__law_is_number) := ⟨rfl, rfl, rfl, by decide +kernel, rfl, by decide +kernel, by decide +kernel⟩
theorem sc__law_drawn : FnScope ["stream", "kind", "n", "d"] ["stream"] (defScope s__law_drawn) := ⟨rfl, rfl, rfl, by decide +kernel, rfl, by decide +kernel, by decide +kernel⟩
theorem sc__law_told : FnScope ["kind", "a", "b"] ["kind", "a", "b"] (defScope s__law_told) := ⟨rfl, rfl, rfl, by decide +kernel, rfl, by decide +kernel, by decide +kernel⟩
theorem sc__law_holds : FnScope ["kind", "a", "b", "n", "d", "word", "actual", "expected"] ["kind", "a", "b"] (defScope s__law_holds) := ⟨rfl, rfl, rfl, by decide +kernel, rfl, by decide +kernel, by decide +kernel⟩
theorem sc_law : FnScope ["script", "stream", "a", "b", "kind"] ["script"] (defScope s_law) := ⟨rfl, rfl, rfl, by decide +kernel, rfl, by decide +kernel, by decide +kernel⟩
structure Txt (K : PySem.W.Frag) (mg : Str → Option Value) (A : Nat → Addr) (D : Nat → FuncData) : Prop where
  F_ratio : Fun K "ratio" "ratio" s_ratio (A 3) (D 3)
  m_ratio : mg "ratio" = some (.ref (A 3))
  b_ratio : Binds K (D 3) ["n", "d"] []
  F_add : Fun K "add" "add" s_add (A 4) (D 4)
  m_add : mg "add" = some (.ref (A 4))
  b_add : Binds K (D 4) ["a", "b"] []
  F_subtract : Fun K "subtract" "subtract" s_subtract (A 5) (D 5)
  m_subtract : mg "subtract" = some (.ref (A 5))
  b_subtract : Binds K (D 5) ["a", "b"] []
  F_multiply : Fun K "multiply" "multiply" s_multiply (A 6) (D 6)
  m_multiply : mg "multiply" = some (.ref (A 6))
  b_multiply : Binds K (D 6) ["a", "b"] []
  F_divide : Fun K "divide" "divide" s_divide (A 7) (D 7)
  m_divide : mg "divide" = some (.ref (A 7))
  b_divide : Binds K (D 7) ["a", "b"] []
  F__law_cell : Fun K "_law_cell" "_law_cell" s__law_cell (A 8) (D 8)
  m__law_cell : mg "_law_cell" = some (.ref (A 8))
  b__law_cell : Binds K (D 8) ["script", "k"] []
  F__law_stream : Fun K "_law_stream" "_law_stream" s__law_stream (A 9) (D 9)
  m__law_stream : mg "_law_stream" = some (.ref (A 9))
  b__law_stream : Binds K (D 9) ["cell"] []
  F__law_next : Fun K "_law_next" "_law_next" s__law_next (A 10) (D 10)
  m__law_next : mg "_law_next" = some (.ref (A 10))
  b__law_next : Binds K (D 10) ["stream", "size"] []
  F__law_is_integer : Fun K "_law_is_integer" "_law_is_integer" s__law_is_integer (A 11) (D 11)
  m__law_is_integer : mg "_law_is_integer" = some (.ref (A 11))
  b__law_is_integer : Binds K (D 11) ["actual"] []
  F__law_ratio : Fun K "_law_ratio" "_law_ratio" s__law_ratio (A 12) (D 12)
  m__law_ratio : mg "_law_ratio" = some (.ref (A 12))
  b__law_ratio : Binds K (D 12) ["n", "d"] []
  F__law_is_number : Fun K "_law_is_number" "_law_is_number" s__law_is_number (A 13) (D 13)
  m__law_is_number : mg "_law_is_number" = some (.ref (A 13))
  b__law_is_number : Binds K (D 13) ["actual"] []
  F__law_drawn : Fun K "_law_drawn" "_law_drawn" s__law_drawn (A 14) (D 14)
  m__law_drawn : mg "_law_drawn" = some (.ref (A 14))
  b__law_drawn : Binds K (D 14) ["stream"] []
  F__law_told : Fun K "_law_told" "_law_told" s__law_told (A 15) (D 15)
  m__law_told : mg "_law_told" = some (.ref (A 15))
  b__law_told : Binds K (D 15) ["kind", "a", "b"] []
  F__law_holds : Fun K "_law_holds" "_law_holds" s__law_holds (A 16) (D 16)
  m__law_holds : mg "_law_holds" = some (.ref (A 16))
  b__law_holds : Binds K (D 16) ["kind", "a", "b"] []
  F_law : Fun K "law" "law" s_law (A 17) (D 17)
  m_law : mg "law" = some (.ref (A 17))
  b_law : Binds K (D 17) ["script"] []
  x_FontError : Z.ExcX K mg "FontError" (A 0)
  x_TooGreat : Z.ExcX K mg "TooGreat" (A 1)
  x_DivisionByZero : Z.ExcX K mg "DivisionByZero" (A 2)
  e_FontError_FontError : PySem.W.subIn K (.ref (A 0)) (.ref (A 0)) = some true
  e_FontError_TooGreat : PySem.W.subIn K (.ref (A 0)) (.ref (A 1)) = some false
  e_FontError_DivisionByZero : PySem.W.subIn K (.ref (A 0)) (.ref (A 2)) = some false
  e_TooGreat_FontError : PySem.W.subIn K (.ref (A 1)) (.ref (A 0)) = some true
  e_TooGreat_TooGreat : PySem.W.subIn K (.ref (A 1)) (.ref (A 1)) = some true
  e_TooGreat_DivisionByZero : PySem.W.subIn K (.ref (A 1)) (.ref (A 2)) = some false
  e_DivisionByZero_FontError : PySem.W.subIn K (.ref (A 2)) (.ref (A 0)) = some true
  e_DivisionByZero_TooGreat : PySem.W.subIn K (.ref (A 2)) (.ref (A 1)) = some false
  e_DivisionByZero_DivisionByZero : PySem.W.subIn K (.ref (A 2)) (.ref (A 2)) = some true
  z_abs : mg "abs" = none
  z_bool : mg "bool" = none
  z_int : mg "int" = none
  z_isinstance : mg "isinstance" = none
  z_len : mg "len" = none
  z_range : mg "range" = none
  z_tuple : mg "tuple" = none
  l_gcd : mg "gcd" = some (.builtin "math.gcd")
  c_LIMIT : ∃ u, mg "LIMIT" = some u ∧ RelV (.int (1000000000000000000)) u
local macro_rules | `(tactic| walk_at "z1") => `(tactic| first
  | with_reducible refine z_seq ?_
  | with_reducible refine z_asg ?_
  | with_reducible refine z_asgS ?_
  | with_reducible refine z_ifs ?_
  | ((with_reducible refine' z_var ?h ?_); case h => with_unfolding_all exact rfl)
  | with_reducible refine z_c ?_
  | with_reducible refine z_op ?_
  | with_reducible refine z_un ?_
  | with_reducible refine z_I0 ?_
  | ((with_reducible refine z_I ?h ?_); case h => first | (exact Or.inr ⟨by decide, by decide⟩) | (exact Or.inl ⟨by decide, by decide⟩) | (show (0 : Int) < _; first | assumption | omega))
  | with_reducible refine z_U ?_
  | with_reducible refine z_eqI ?_
  | with_reducible refine z_neI ?_
  | with_reducible refine z_test ?_
  | with_reducible refine z_tB ?_
  | with_reducible refine z_bl ?_
  | with_reducible refine z_notT ?_
  | with_reducible refine z_andT ?_
  | with_reducible refine z_orT ?_
  | with_reducible refine z_andV ?_
  | with_reducible refine z_orV ?_
  | with_reducible refine z_notV ?_
  | with_reducible refine z_ifE ?_
  | with_reducible refine z_ifT ?_
  | with_reducible refine z_ifF ?_
  | with_reducible refine z_ifNT ?_
  | with_reducible refine z_ifNF ?_
  | with_reducible refine z_chain ?_
  | with_reducible refine z_nil ?_
  | with_reducible refine z_cons ?_
  | with_reducible refine z_tup ?_
  | with_reducible refine z_lst ?_
  | with_reducible refine z_cb ?_
  | with_reducible refine z_call ?_
  | with_reducible refine z_callS ?_
  | with_reducible refine z_int1 ?_
  | with_reducible refine z_int1b ?_
  | with_reducible refine z_abs ?_
  | with_reducible refine z_gcd ?_
  | with_reducible refine z_ret ?_
  | with_reducible refine z_retN ?_
  | with_reducible refine z_drop ?_
  | with_reducible refine z_next ?_
  | with_reducible refine z_brk ?_
  | with_reducible refine z_cont ?_
  | with_reducible refine z_par ?_
  | with_reducible refine z_two ?_
  | with_reducible refine z_asgT ?_
  | with_reducible refine z_gName ?_
  | with_reducible refine z_gcons ?_
  | with_reducible refine z_gnil ?_
  | ((with_reducible refine' z_up ?h ?hm ?_); (case h => walk_at "sq"); (case hm => exact rfl))
  | ((with_reducible refine' z_gT ?h ?hm ?_); (case h => walk_at "sq"); (case hm => exact rfl))
  | with_reducible refine z_isII ?_
  | with_reducible refine z_isIB ?_
  | with_reducible refine z_isBB ?_
  | ((with_reducible refine' z_isTT ?h ?_); case h => assumption)
  | ((with_reducible refine' z_isLL ?h ?_); case h => assumption)
  | ((with_reducible refine z_newT ?h ?_); case h => exact Nat.le_of_ble_eq_true rfl)
  | ((with_reducible refine z_newL ?h ?_); case h => exact Nat.le_of_ble_eq_true rfl)
  | ((with_reducible refine' z_ixL ?h ?h2 ?_); (case h => walk_at "sq"); (case h2 => exact rfl))
  | ((with_reducible refine' z_ixT ?h ?h2 ?_); (case h => walk_at "sq"); (case h2 => exact rfl))
  | ((with_reducible refine' z_lenL ?h ?_); case h => walk_at "sq")
  | ((with_reducible refine' z_lenT ?h ?_); case h => walk_at "sq")
  | ((with_reducible refine z_ifYes ?h ?_); (case h => exact rfl))
  | ((with_reducible refine z_ifNo ?h ?_); (case h => exact rfl)))
local macro_rules | `(tactic| walk_at "sq") => `(tactic| first | assumption | exact Or.inl (Or.inl (by assumption)) | exact Or.inl (Or.inl upd_same))
local macro_rules | `(tactic| walk_at "z") => `(tactic| repeat (walk_at "z1"))
/-! ### promises -/
def sp__law_cell (K : PySem.W.Frag) : Sp := fun vs H Q _ => ∃ (l : Addr) (ns : List Int) (j : Nat), vs = [.ref l, .int (j : Int)] ∧ SqL K H l (ns.map V.int) ∧ ∀ v, Q (.int v) H
/-- a stream: three ints, whatever they are -/
def IsStm (H : Hp) (p : Addr) : Prop := ∃ a b m : Int, H p = some (.lst [.int a, .int b, .int m])
def sp__law_stream : Sp := fun vs H Q _ => ∃ c : Int, vs = [.int c] ∧ ∀ p H' a b m, H p = none → Same H H' → H' p = some (.lst [.int a, .int b, .int m]) → Q (.ref p) H'
def sp__law_next : Sp := fun vs H Q _ => ∃ (p : Addr) (z : Int), vs = [.ref p, .int z] ∧ IsStm H p ∧ 0 < z ∧ z.natAbs < 2 ^ 1000 ∧ ∀ v a b m, 0 ≤ v → v < z → Q (.int v) (upd H p (.lst [.int a, .int b, .int m]))
section
theorem ok__law_cell {P : Program} {w : World} {K : PySem.W.Frag} {mg : Str → Option Value} {base : Heap} {A : Nat → Addr} {D : Nat → FuncData} (T : Txt K mg A D) : FnOk P w K mg base (L2.CX P w) 1 (A 8) (D 8) ["script", "k"] (sp__law_cell K) := by
  refine T.F__law_cell.okX sc__law_cell (fun vs H Q E h => ?_) (fun cdv A' outer s H vs Q E hr h => ?_)
  · obtain ⟨l, ns, j, rfl, _⟩ := h
    rfl
  obtain ⟨l, ns, j, rfl, hS, q⟩ := h
  refine ⟨_, (pss_cons (ps_if (pt_cmpR op_lt (pv 1) (pe_callB Z.c_len (by rfl) T.z_len (by decide +kernel) (pa_cons (pv 0) pa_nil)) (nomark _))
  (pss_one (ps_ret (pe_ix ix_list (pv 0) (pv 1) (fun _ _ => rfl))))
  pss_nil)
  (pss_one (ps_ret pe_int))), ?_⟩
  walk_at "z"
  refine z_if (fun hj => ?_) (fun _ => ?_)
  · walk_at "z"
    rw [List.length_map] at hj
    have hj' : j < ns.length := by omega
    refine z_ixL hS (v := .int ns[j]) (atI_nat (by rw [List.getElem?_map, List.getElem?_eq_getElem hj']; rfl)) (q _)
  · walk_at "z"
    exact q 0
theorem ok__law_stream {P : Program} {w : World} {K : PySem.W.Frag} {mg : Str → Option Value} {base : Heap} {A : Nat → Addr} {D : Nat → FuncData} (T : Txt K mg A D) : FnOk P w K mg base (L2.CX P w) 1 (A 9) (D 9) ["cell"] sp__law_stream := by
  refine T.F__law_stream.okX sc__law_stream (fun vs H Q E h => ?_) (fun cdv A' outer s H vs Q E hr h => ?_)
  · obtain ⟨c, rfl, _⟩ := h
    rfl
  obtain ⟨c, rfl, q⟩ := h
  refine ⟨_, (pss_cons (ps_if (pt_cmpR op_ge (pv 0) (Z.pe_powc (v := 1000000000000000000) ⟨by decide, by decide, by decide⟩ (by decide)) (nomark _))
  (pss_one (ps_ret (pe_lst (pa_cons (pv 0) (pa_cons pe_int (pa_cons (pe_op op_mod (pe_callTy Z.c_int (by rfl) T.z_int (by decide +kernel) (pa_cons (pv 0) pa_nil)) pe_int) pa_nil))))))
  pss_nil)
  (pss_one (ps_ret (pe_lst (pa_cons pe_int (pa_cons pe_int (pa_cons (pe_op op_mod (pe_callTy Z.c_int (by rfl) T.z_int (by decide +kernel) (pa_cons (pv 0) pa_nil)) pe_int) pa_nil))))))), ?_⟩
  walk_at "z"
  refine z_if (fun hj => ?_) (fun _ => ?_)
  · walk_at "z"
    exact fun p H' hp s h => q p H' _ _ _ hp s h
  · walk_at "z"
    exact fun p H' hp s h => q p H' _ _ _ hp s h
theorem ok__law_next {P : Program} {w : World} {K : PySem.W.Frag} {mg : Str → Option Value} {base : Heap} {A : Nat → Addr} {D : Nat → FuncData} (T : Txt K mg A D) : FnOk P w K mg base (L2.CX P w) 1 (A 10) (D 10) ["stream", "size"] sp__law_next := by
  refine T.F__law_next.okX sc__law_next (fun vs H Q E h => ?_) (fun cdv A' outer s H vs Q E hr h => ?_)
  · obtain ⟨p, z, rfl, _⟩ := h
    rfl
  obtain ⟨p, z, rfl, ⟨a, b, m, hp⟩, hz, hz2, q⟩ := h
  refine ⟨_, (pss_cons (ps_if (pt_cmpR op_gt (pe_ix ix_list (pv 0) pe_int (fun _ _ => rfl)) pe_int (nomark _))
  (pss_cons (ps_set (i := 2) sc__law_next.nd rfl (.inl rfl) (pe_op op_mod (pe_callTy Z.c_int (by rfl) T.z_int (by decide +kernel) (pa_cons (pe_ix ix_list (pv 0) pe_int (fun _ _ => rfl)) pa_nil)) (pv 1)))
  (pss_cons (ps_asg (pe_op op_fdivW (pe_ix ix_list (pv 0) pe_int (fun _ _ => rfl)) (pv 1)) (pg_sub (pv 0) pe_int set_list))
  (pss_one (ps_ret (pv 2)))))
  pss_nil)
  (pss_cons (ps_asg (pe_op op_add (pe_ix ix_list (pv 0) pe_int (fun _ _ => rfl)) pe_int) (pg_sub (pv 0) pe_int set_list))
  (pss_cons (ps_set (i := 3) sc__law_next.nd rfl (.inl rfl) (pe_op op_mod (pe_callTy Z.c_int (by rfl) T.z_int (by decide +kernel) (pa_cons (pe_op op_add (pe_op op_mul (pe_ix ix_list (pv 0) pe_int (fun _ _ => rfl)) pe_int) (pe_op op_mul (pe_ix ix_list (pv 0) pe_int (fun _ _ => rfl)) pe_int)) pa_nil)) pe_int))
  (pss_cons (ps_set (i := 3) sc__law_next.nd rfl (.inl rfl) (pe_op op_mod (pe_callTy Z.c_int (by rfl) T.z_int (by decide +kernel) (pa_cons (pe_op op_add (pe_op op_mulW (pv 3) (pv 3)) (pe_op op_mul (pe_ix ix_list (pv 0) pe_int (fun _ _ => rfl)) pe_int)) pa_nil)) pe_int))
  (pss_cons (ps_set (i := 3) sc__law_next.nd rfl (.inl rfl) (pe_op op_mod (pe_callTy Z.c_int (by rfl) T.z_int (by decide +kernel) (pa_cons (pe_op op_add (pe_op op_mul (pv 3) pe_int) (pe_ix ix_list (pv 0) pe_int (fun _ _ => rfl))) pa_nil)) pe_int))
  (pss_one (ps_ret (pe_op op_mod (pe_callTy Z.c_int (by rfl) T.z_int (by decide +kernel) (pa_cons (pv 3) pa_nil)) (pv 1))))))))), ?_⟩
  walk_at "z"
  refine z_if (fun hj => ?_) (fun _ => ?_)
  · walk_at "z"
    refine z_I (wide_div hz hz2 (by decide) (by decide)) ?_
    walk_at "z"
    refine z_setL hp rfl ?_
    walk_at "z"
    exact q _ _ _ _ (Int.emod_nonneg _ (by omega)) (Int.emod_lt_of_pos _ hz)
  · walk_at "z"
    refine z_setL hp rfl ?_
    have hp1 : (upd H p (HO.lst ([V.int a, V.int b, V.int m].set (Int.toNat 1) (V.int (b + 1))))) p = some (.lst [V.int a, V.int (b + 1), V.int m]) := upd_same
    walk_at "z"
    refine z_I ?_ ?_
    · exact wide_mul (a := 32) (b := 32) (by omega) (by omega) (by decide) (by decide) (by decide)
    walk_at "z"
    exact q _ _ _ _ (Int.emod_nonneg _ (by omega)) (Int.emod_lt_of_pos _ hz)
end
def sp__law_is_integer : Sp := fun vs H Q _ => ∃ i, vs = [.int i] ∧ Q (.bl true) H
section
theorem ok__law_is_integer {P : Program} {w : World} {K : PySem.W.Frag} {mg : Str → Option Value} {base : Heap} {A : Nat → Addr} {D : Nat → FuncData} (T : Txt K mg A D) : FnOk P w K mg base (L2.CX P w) 1 (A 11) (D 11) ["actual"] sp__law_is_integer := by
  refine T.F__law_is_integer.okX sc__law_is_integer (fun vs H Q E h => ?_) (fun cdv A' outer s H vs Q E hr h => ?_)
  · obtain ⟨i, rfl, _⟩ := h
    rfl
  obtain ⟨i, rfl, q⟩ := h
  refine ⟨_, (pss_one (ps_ret (pe_and (pe_callB call_isi (by rfl) T.z_isinstance (by decide +kernel) (pa_cons (pv 0) (pa_cons (pe_bltn (v := .ty "int") (by rfl) T.z_int (by decide +kernel) rfl) pa_nil))) (pe_one (pe_not (pe_callB call_isi (by rfl) T.z_isinstance (by decide +kernel) (pa_cons (pv 0) (pa_cons (pe_bltn (v := .ty "bool") (by rfl) T.z_bool (by decide +kernel) rfl) pa_nil)))))))), ?_⟩
  walk_at "z"
  exact q
end
theorem isI {i : Int} {H : Hp} {Q : VK} {E : XK} (q : Q (.bl true) H) : sp__law_is_integer [.int i] H Q E := ⟨i, rfl, q⟩
local macro_rules | `(tactic| walk_at "z1") => `(tactic| with_reducible refine isI ?_)

/-! ### numbers in lowest terms -/
def gd (n d : Int) : Int := ((Nat.gcd n.natAbs d.natAbs : Nat) : Int)
def rn (n d : Int) : Int := (if d < 0 then -n else n) / gd n d
def rd (n d : Int) : Int := (if d < 0 then -d else d) / gd n d
def lim : Int := 1000000000000000000
def fits (n d : Int) : Prop := -lim ≤ rn n d ∧ rn n d ≤ lim ∧ rd n d ≤ lim
instance (n d : Int) : Decidable (fits n d) := inferInstanceAs (Decidable (_ ∧ _ ∧ _))
theorem gd_pos {n d : Int} (h : d ≠ 0) : 0 < gd n d := by
  unfold gd
  have : 0 < Nat.gcd n.natAbs d.natAbs := Nat.gcd_pos_of_pos_right _ (by omega)
  omega
theorem gd_dvd_l (n d : Int) : gd n d ∣ n := by
  unfold gd
  exact Int.dvd_trans (Int.natCast_dvd_natCast.mpr (Nat.gcd_dvd_left _ _)) (Int.natAbs_dvd_self)
theorem gd_dvd_r (n d : Int) : gd n d ∣ d := by
  unfold gd
  exact Int.dvd_trans (Int.natCast_dvd_natCast.mpr (Nat.gcd_dvd_right _ _)) (Int.natAbs_dvd_self)
theorem rd_pos {n d : Int} (h : d ≠ 0) : 0 < rd n d := by
  have g := gd_pos (n := n) h
  obtain ⟨k, hk⟩ := gd_dvd_r n d
  unfold rd
  split
  · rename_i hd
    have e : -d = gd n d * (-k) := by rw [Int.mul_neg, ← hk]
    rw [e, Int.mul_ediv_cancel_left _ (by omega)]
    have : ¬ 0 ≤ k := fun z => by have := Int.mul_nonneg (Int.le_of_lt g) z; omega
    omega
  · rename_i hd
    have e : d / gd n d = k := Int.ediv_eq_of_eq_mul_right (by omega) hk
    rw [e]
    have : ¬ k ≤ 0 := fun z => by have := Int.mul_nonpos_of_nonneg_of_nonpos (Int.le_of_lt g) z; omega
    omega
/-- what the program divides: by the negative of the common divisor where d is negative -/
theorem fdiv_neg {n g : Int} (hg : 0 < g) (h : g ∣ n) : Int.fdiv n (-g) = -n / g := by
  obtain ⟨k, rfl⟩ := h
  rw [show g * k = (-g) * (-k) by rw [Int.neg_mul_neg], Int.mul_fdiv_cancel_left _ (by omega), Int.neg_mul_neg, show -(g * k) = g * (-k) by rw [Int.mul_neg], Int.mul_ediv_cancel_left _ (by omega)]
theorem fdiv_pos {n g : Int} (hg : 0 < g) : Int.fdiv n g = n / g := Int.fdiv_eq_ediv_of_nonneg _ (by omega)
theorem gd_log {n d : Int} {k : Nat} (h : d ≠ 0) (hd : d.natAbs < 2 ^ k) : (gd n d).natAbs < 2 ^ k := by
  have : Nat.gcd n.natAbs d.natAbs ≤ d.natAbs := Nat.gcd_le_right _ (by omega)
  unfold gd
  omega
theorem cfd {j : Int} (h : j ≠ 0) (hj : j.natAbs < 2 ^ 1000) : CFd 0 j := ⟨h, Nat.lt_of_lt_of_le (PySem.Flt.log2_lt_of (by decide) hj) (by decide)⟩
theorem lt4 {a : Nat} (h : a < 2 ^ 400) : a < 2 ^ 1000 := Nat.lt_of_lt_of_le h (Nat.pow_le_pow_right (by decide) (by decide))
theorem lt1000 {a : Nat} (h : a < 2 ^ 100) : a < 2 ^ 1000 := Nat.lt_of_lt_of_le h (Nat.pow_le_pow_right (by decide) (by decide))
/-! ### ratio -/
def sp_ratio (A : Nat → Addr) : Sp := fun vs H Q E => ∃ n d : Int, vs = [.int n, .int d] ∧ n.natAbs < 2 ^ 1000 ∧ d.natAbs < 2 ^ 1000 ∧ (d = 0 → E (.ref (A 2)) none H) ∧
  (d ≠ 0 → ¬ fits n d → E (.ref (A 1)) none H) ∧ (d ≠ 0 → fits n d → ∀ p H', Same H H' → H' p = some (.tup [.int (rn n d), .int (rd n d)]) → Q (.ref p) H')
section
theorem ok_ratio {P : Program} {w : World} {K : PySem.W.Frag} {mg : Str → Option Value} {base : Heap} {A : Nat → Addr} {D : Nat → FuncData} (T : Txt K mg A D) : FnOk P w K mg base (L2.CX P w) 1 (A 3) (D 3) ["n", "d"] (sp_ratio A) := by
  refine T.F_ratio.okX sc_ratio (fun vs H Q E h => ?_) (fun cdv A' outer s H vs Q E hr h => ?_)
  · obtain ⟨n, d, rfl, _⟩ := h
    rfl
  obtain ⟨n, d, rfl, hn, hd, k0, kG, kS⟩ := h
  refine ⟨_, (pss_cons (ps_if (pt_cmpR op_eq (pv 1) pe_int (nomark _))
  (pss_one (ps_raise rfl (takes_of rfl rfl rfl rfl) (Z.pmk T.x_DivisionByZero (by rfl))))
  pss_nil)
  (pss_cons (ps_set (i := 2) sc_ratio.nd rfl (.inl rfl) (pe_callBfun cr_gcd (by rfl) T.l_gcd (pa_cons (pv 0) (pa_cons (pv 1) pa_nil))))
  (pss_cons (ps_if (pt_cmpR op_lt (pv 1) pe_int (nomark _))
  (pss_one (ps_set (i := 2) sc_ratio.nd rfl (.inl rfl) (pe_un un_neg (pv 2))))
  pss_nil)
  (pss_cons (ps_set (i := 3) sc_ratio.nd rfl (.inl rfl) (pe_op Z.op_fdivZ (pv 0) (pv 2)))
  (pss_cons (ps_set (i := 4) sc_ratio.nd rfl (.inl rfl) (pe_op Z.op_fdivZ (pv 1) (pv 2)))
  (pss_cons (ps_if (PW.pt (pw_or (pt_not (pt_chain op_le op_le (pe_un un_neg (Z.pe_globE T.c_LIMIT)) (pv 3) (Z.pe_globE T.c_LIMIT))) (pw_or1 (pt_cmpR op_gt (pv 4) (Z.pe_globE T.c_LIMIT) (nomark _)))))
  (pss_one (ps_raise rfl (takes_of rfl rfl rfl rfl) (Z.pmk T.x_TooGreat (by rfl))))
  pss_nil)
  (pss_one (ps_ret (pe_tup (pa_cons (pv 3) (pa_cons (pv 4) pa_nil))))))))))), ?_⟩
  walk_at "z"
  refine z_if (fun h0 => k0 h0) (fun h0 => ?_)
  walk_at "z"
  have hg := gd_pos (n := n) h0
  have hgl := gd_log (n := n) h0 hd
  have end1 : ¬ fits n d → E (.ref (A 1)) none H := kG h0
  have end2 : fits n d → ∀ p H', Same H H' → H' p = some (.tup [.int (rn n d), .int (rd n d)]) → Q (.ref p) H' := kS h0
  clear k0 kG kS
  refine z_if (fun hd0 => ?_) (fun hd0 => ?_)
  · have e1 : Int.fdiv n (-((Nat.gcd n.natAbs d.natAbs : Nat) : Int)) = rn n d := by
      show Int.fdiv n (-gd n d) = rn n d
      rw [fdiv_neg hg (gd_dvd_l n d)]
      unfold rn
      rw [if_pos hd0]
    have e2 : Int.fdiv d (-((Nat.gcd n.natAbs d.natAbs : Nat) : Int)) = rd n d := by
      show Int.fdiv d (-gd n d) = rd n d
      rw [fdiv_neg hg (gd_dvd_r n d)]
      unfold rd
      rw [if_pos hd0]
    walk_at "z"
    refine z_I (show CFd _ (-gd n d) from cfd (by omega) (by omega)) ?_
    rw [e1]
    walk_at "z"
    refine z_I (show CFd _ (-gd n d) from cfd (by omega) (by omega)) ?_
    rw [e2]
    walk_at "z"
    refine z_if (fun c1 => ?_) (fun c1 => ?_)
    · walk_at "z"
      refine z_ifN (fun c2 => ?_) (fun c2 => ?_)
      · walk_at "z"
        exact end1 fun f => c2 f.2.1
      · walk_at "z"
        refine z_if (fun c3 => ?_) (fun c3 => ?_)
        · exact end1 fun f => by have := f.2.2; unfold lim at this; omega
        · walk_at "z"
          exact fun p H' _ s h => end2 ⟨c1, c2, by unfold lim; omega⟩ p H' s h
    · walk_at "z"
      exact end1 fun f => c1 f.1
  · have e1 : Int.fdiv n (((Nat.gcd n.natAbs d.natAbs : Nat) : Int)) = rn n d := by
      show Int.fdiv n (gd n d) = rn n d
      rw [fdiv_pos hg]
      unfold rn
      rw [if_neg hd0]
    have e2 : Int.fdiv d (((Nat.gcd n.natAbs d.natAbs : Nat) : Int)) = rd n d := by
      show Int.fdiv d (gd n d) = rd n d
      rw [fdiv_pos hg]
      unfold rd
      rw [if_neg hd0]
    walk_at "z"
    refine z_I (show CFd _ (gd n d) from cfd (by omega) (by omega)) ?_
    rw [e1]
    walk_at "z"
    refine z_I (show CFd _ (gd n d) from cfd (by omega) (by omega)) ?_
    rw [e2]
    walk_at "z"
    refine z_if (fun c1 => ?_) (fun c1 => ?_)
    · walk_at "z"
      refine z_ifN (fun c2 => ?_) (fun c2 => ?_)
      · walk_at "z"
        exact end1 fun f => c2 f.2.1
      · walk_at "z"
        refine z_if (fun c3 => ?_) (fun c3 => ?_)
        · exact end1 fun f => by have := f.2.2; unfold lim at this; omega
        · walk_at "z"
          exact fun p H' _ s h => end2 ⟨c1, c2, by unfold lim; omega⟩ p H' s h
    · walk_at "z"
      exact end1 fun f => c1 f.1
end

/-! ### the law's own Euclid -/
structure Eu (M : Nat) (G i a b : Nat) : Prop where
  g : Nat.gcd a b = G
  o : (i = 0 ∧ a * b = M) ∨ (b < a ∧ a * b * 2 ^ i ≤ 2 * M)
theorem Eu.start {a b : Nat} : Eu (a * b) (Nat.gcd a b) 0 a b := ⟨rfl, .inl ⟨rfl, rfl⟩⟩
theorem Eu.next {M G i a b : Nat} (h : Eu M G i a b) (hb : b ≠ 0) : Eu M G (i + 1) b (a % b) := by
  have hlt : a % b < b := Nat.mod_lt _ (by omega)
  refine ⟨?_, .inr ⟨hlt, ?_⟩⟩
  · rw [← h.g, Nat.gcd_comm a b, Nat.gcd_comm b (a % b)]
    exact (Nat.gcd_rec b a).symm
  · have hm : a * b * 2 ^ i ≤ 2 * M := by
      rcases h.o with ⟨z, w⟩ | ⟨_, w⟩
      · subst z
        rw [w]
        omega
      · exact w
    by_cases hab : a < b
    · have e : a % b = a := Nat.mod_eq_of_lt hab
      have hi : i = 0 ∧ a * b = M := by
        rcases h.o with z | z
        · exact z
        · omega
      obtain ⟨rfl, w⟩ := hi
      rw [e, Nat.mul_comm b a, w]
      omega
    · have h2 : 2 * (a % b) ≤ a := by
        have h3 : a % b ≤ a - b := by
          rw [Nat.mod_eq_sub_mod (by omega)]
          exact Nat.mod_le _ _
        omega
      have h4 : b * (a % b) * 2 ≤ a * b := by
        rw [Nat.mul_assoc, Nat.mul_comm (a % b) 2, Nat.mul_comm a b]
        exact Nat.mul_le_mul_left b h2
      calc b * (a % b) * 2 ^ (i + 1) = (b * (a % b) * 2) * 2 ^ i := by rw [Nat.pow_succ, Nat.mul_comm (2 ^ i) 2, ← Nat.mul_assoc]
        _ ≤ (a * b) * 2 ^ i := Nat.mul_le_mul_right _ h4
        _ ≤ 2 * M := hm
set_option exponentiation.threshold 2000 in
theorem Eu.zero {G a b x y : Nat} (h : Eu (x * y) G 1000 a b) (hx : x < 2 ^ 400) (hy : y < 2 ^ 400) : b = 0 := by
  have h1 : x * y < 2 ^ 400 * 2 ^ 400 := Nat.mul_lt_mul'' hx hy
  rcases h.o with ⟨z, _⟩ | ⟨w, h2⟩
  · omega
  have h3 : a * b = 0 := by
    rcases Nat.eq_zero_or_pos (a * b) with z | z
    · exact z
    · have : 2 ^ 1000 ≤ a * b * 2 ^ 1000 := Nat.le_mul_of_pos_left _ z
      have e : 2 * (2 ^ 400 * 2 ^ 400) < 2 ^ 1000 := by decide
      omega
  rcases Nat.mul_eq_zero.mp h3 with z | z
  · omega
  · exact z
def sp__law_ratio : Sp := fun vs H Q _ => ∃ n d : Int, vs = [.int n, .int d] ∧ d ≠ 0 ∧ n.natAbs < 2 ^ 400 ∧ d.natAbs < 2 ^ 400 ∧ ∀ p H', Same H H' → H' p = some (.tup [.int (rn n d), .int (rd n d)]) → Q (.ref p) H'
theorem abs_eq (n : Int) : (if n < 0 then -n else n) = (n.natAbs : Int) := by
  split <;> omega
section
theorem ok__law_ratio {P : Program} {w : World} {K : PySem.W.Frag} {mg : Str → Option Value} {base : Heap} {A : Nat → Addr} {D : Nat → FuncData} (T : Txt K mg A D) : FnOk P w K mg base (L2.CX P w) 1 (A 12) (D 12) ["n", "d"] sp__law_ratio := by
  refine T.F__law_ratio.okX sc__law_ratio (fun vs H Q E h => ?_) (fun cdv A' outer s H vs Q E hr h => ?_)
  · obtain ⟨n, d, rfl, _⟩ := h
    rfl
  obtain ⟨n, d, rfl, h0, hn, hd, q⟩ := h
  refine ⟨_, (pss_cons (ps_set (i := 2) sc__law_ratio.nd rfl (.inl rfl) (pe_callB Z.c_abs (by rfl) T.z_abs (by decide +kernel) (pa_cons (pv 0) pa_nil)))
  (pss_cons (ps_set (i := 3) sc__law_ratio.nd rfl (.inl rfl) (pe_callB Z.c_abs (by rfl) T.z_abs (by decide +kernel) (pa_cons (pv 1) pa_nil)))
  (pss_cons (ps_for (passes_of rfl) rfl (pi_range1 (by rfl) T.z_range (pa_cons pe_int pa_nil)) (pg_name (i := 4) sc__law_ratio.nd rfl (.inl rfl))
  (pss_cons (ps_if (pt_cmpR op_eq (pv 3) pe_int (nomark _))
  (pss_one ps_break)
  pss_nil)
  (pss_one (ps_par (i := 2) (j := 3) (by rfl) sc__law_ratio.nd rfl rfl (by decide) rfl rfl (pa_cons (pv 3) (pa_cons (pe_op op_mod (pe_callTy Z.c_int (by rfl) T.z_int (by decide +kernel) (pa_cons (pv 2) pa_nil)) (pv 3)) pa_nil)) (by rfl)))))
  (pss_cons (ps_if (pt_cmpR op_lt (pv 1) pe_int (nomark _))
  (pss_one (ps_set (i := 0) sc__law_ratio.nd rfl (.inl rfl) (pe_op op_sub pe_int (pv 0))))
  pss_nil)
  (pss_one (ps_ret (pe_tup (pa_cons (pe_op op_fdivW (pv 0) (pv 2)) (pa_cons (pe_op op_fdivW (pe_callB Z.c_abs (by rfl) T.z_abs (by decide +kernel) (pa_cons (pv 1) pa_nil)) (pv 2)) pa_nil))))))))), ?_⟩
  walk_at "z"
  rw [abs_eq, abs_eq]
  have fin : ∀ (σ' : L2.St) (kv : Option V), σ' = [some (.int n), some (.int d), some (.int (gd n d)), some (.int 0), kv] →
      (tSeq (tIfS (tTest (tOp (rI0 fun i j => V.bl (decide (i < j))) (tVar 1) (tC (V.int 0)))) (tAsg (tOp (rI0 fun i j => V.int (i - j)) (tC (V.int 0)) (tVar 0)) (gName 0)) tNext)
          (tRet (tTup (tCons (tOp (rI CDivW fun i j => V.int (i / j)) (tVar 0) (tVar 2)) (tCons (tOp (rI CDivW fun i j => V.int (i / j)) (tCB rAbs (tCons (tVar 1) tNil)) (tVar 2)) tNil))))
          { nx := fun x H' => Q V.non H', rt := Q }) σ' H := by
    rintro σ' kv rfl
    have hg := gd_pos (n := n) h0
    have hgl := gd_log (n := n) h0 hd
    walk_at "z"
    refine z_if (fun c => ?_) (fun c => ?_)
    · walk_at "z"
      refine z_I (wide_div hg hgl (by decide) (by decide)) ?_
      walk_at "z"
      refine z_I (wide_div hg hgl (by decide) (by decide)) ?_
      walk_at "z"
      have e1 : (0 - n) / gd n d = rn n d := by
        unfold rn
        rw [if_pos c, Int.zero_sub]
      have e2 : (if d < 0 then -d else d) / gd n d = rd n d := rfl
      rw [e1, e2]
      exact fun p H' _ s h => q p H' s h
    · walk_at "z"
      refine z_I (wide_div hg hgl (by decide) (by decide)) ?_
      walk_at "z"
      refine z_I (wide_div hg hgl (by decide) (by decide)) ?_
      walk_at "z"
      have e1 : n / gd n d = rn n d := by
        unfold rn
        rw [if_neg c]
      have e2 : (if d < 0 then -d else d) / gd n d = rd n d := rfl
      rw [e1, e2]
      exact fun p H' _ s h => q p H' s h
  refine z_forR1 1000 (by decide) (fun R q => by walk_at "z"; exact q) (fun i σ' H' => H' = H ∧ ∃ (a b : Nat) (kv : Option V), σ' = [some (.int n), some (.int d), some (.int (a : Int)), some (.int (b : Int)), kv] ∧ Eu (n.natAbs * d.natAbs) (Nat.gcd n.natAbs d.natAbs) i a b)
    ⟨rfl, _, _, _, rfl, Eu.start⟩ ?_ ?_
  · rintro i σ' H' hi ⟨rfl, a, b, kv, rfl, eu⟩
    walk_at "z"
    refine z_if (fun c => ?_) (fun c => ?_)
    · walk_at "z1"
      have hb : b = 0 := by omega
      subst hb
      have ha : a = Nat.gcd n.natAbs d.natAbs := by rw [← eu.g, Nat.gcd_zero_right]
      subst ha
      exact fin _ _ rfl
    · walk_at "z"
      refine ⟨rfl, b, a % b, some (.int (i : Int)), ?_, eu.next (by omega)⟩
      rw [Int.natCast_emod]
      rfl
  · rintro σ' H' ⟨rfl, a, b, kv, rfl, eu⟩
    have hb := eu.zero hn hd
    subst hb
    have ha : a = Nat.gcd n.natAbs d.natAbs := by rw [← eu.g, Nat.gcd_zero_right]
    subst ha
    exact fin _ _ rfl
end

def sp__law_is_number : Sp := fun vs H Q _ => ∃ (p : Addr) (n d : Int), vs = [.ref p] ∧ H p = some (.tup [.int n, .int d]) ∧ Q (.bl true) H
section
theorem ok__law_is_number {P : Program} {w : World} {K : PySem.W.Frag} {mg : Str → Option Value} {base : Heap} {A : Nat → Addr} {D : Nat → FuncData} (T : Txt K mg A D) : FnOk P w K mg base (L2.CX P w) 2 (A 13) (D 13) ["actual"] sp__law_is_number := by
  refine T.F__law_is_number.okX sc__law_is_number (fun vs H Q E h => ?_) (fun cdv A' outer s H vs Q E hr h => ?_)
  · obtain ⟨p, n, d, rfl, _⟩ := h
    rfl
  obtain ⟨p, n, d, rfl, hp, q⟩ := h
  refine ⟨_, (pss_cons (ps_if (PW.pt (pw_or (pt_not (pt_val (pe_callB call_isi (by rfl) T.z_isinstance (by decide +kernel) (pa_cons (pv 0) (pa_cons (pe_bltn (v := .ty "tuple") (by rfl) T.z_tuple (by decide +kernel) rfl) pa_nil))))) (pw_or1 (pt_cmpR op_ne (pe_callB Z.c_len (by rfl) T.z_len (by decide +kernel) (pa_cons (pv 0) pa_nil)) pe_int (nomark _)))))
  (pss_one (ps_ret pe_bl))
  pss_nil)
  (pss_one (ps_ret (pe_and (pe_call (ok__law_is_integer T) (hr.mono (by decide)) (by rfl) T.m__law_is_integer T.F__law_is_integer.kp T.b__law_is_integer .nil (passes_call (takes_of rfl rfl rfl rfl) (fun _ _ _ _ h => h)) (pa_cons (pe_ix ix_tup (pv 0) pe_int (fun _ _ => rfl)) pa_nil)) (pe_one (pe_call (ok__law_is_integer T) (hr.mono (by decide)) (by rfl) T.m__law_is_integer T.F__law_is_integer.kp T.b__law_is_integer .nil (passes_call (takes_of rfl rfl rfl rfl) (fun _ _ _ _ h => h)) (pa_cons (pe_ix ix_tup (pv 0) pe_int (fun _ _ => rfl)) pa_nil))))))), ?_⟩
  walk_at "z"
  exact q
end

/-! ### the draws of a law: the heap H0 stands, a stream stands at p -/
structure Sd (H0 H : Hp) (p : Addr) : Prop where
  same : Same H0 H
  fresh : H0 p = none
  stm : IsStm H p
theorem Sd.mk0 {H H' : Hp} {p : Addr} {a b m : Int} (h : H p = none) (s : Same H H') (e : H' p = some (.lst [.int a, .int b, .int m])) : Sd H H' p := ⟨s, h, a, b, m, e⟩
theorem Sd.mono {H0 H H' : Hp} {p : Addr} (S : Sd H0 H p) (s : Same H H') : Sd H0 H' p := by
  obtain ⟨a, b, m, e⟩ := S.stm
  exact ⟨S.same.trans s, S.fresh, a, b, m, s _ _ e⟩
theorem nx {H0 H : Hp} {p : Addr} {z : Int} {Q : VK} {E : XK} (S : Sd H0 H p) (hz : 0 < z) (hz2 : z.natAbs < 2 ^ 1000) (q : ∀ v H', 0 ≤ v → v < z → Sd H0 H' p → (∀ b, b ≠ p → H' b = H b) → Q (.int v) H') : sp__law_next [.ref p, .int z] H Q E := by
  refine ⟨p, z, rfl, S.stm, hz, hz2, fun v a b m h0 h1 => q v _ h0 h1 ⟨fun c o e => ?_, S.fresh, a, b, m, upd_same⟩ fun b hb => upd_ne hb⟩
  rw [upd_ne (ne_of_none e S.fresh)]
  exact S.same c o e
theorem Sd.ext {H0 H : Hp} {p q : Addr} {o : HO} (S : Sd H0 H p) (h : H q = none) : Sd H0 (upd H q o) p := by
  obtain ⟨a, b, m, hp⟩ := S.stm
  exact ⟨S.same.trans (same_upd h), S.fresh, a, b, m, by rw [upd_ne (ne_of_none hp h)]; exact hp⟩
def Kp (p : Addr) (H H' : Hp) : Prop := ∀ b o, b ≠ p → H b = some o → H' b = some o
theorem Kp.refl {p : Addr} {H : Hp} : Kp p H H := fun _ _ _ e => e
theorem Kp.trans {p : Addr} {H H1 H2 : Hp} (a : Kp p H H1) (b : Kp p H1 H2) : Kp p H H2 := fun c o h e => b c o h (a c o h e)
theorem Kp.eq {p : Addr} {H H' : Hp} (k : ∀ b, b ≠ p → H' b = H b) : Kp p H H' := fun b o h e => by
  rw [k b h]
  exact e
theorem Kp.of {p : Addr} {H H' : Hp} (s : Same H H') : Kp p H H' := fun b x _ e => s b x e
theorem Sd.ne {H0 H : Hp} {p q : Addr} {xs : List V} (S : Sd H0 H p) (h : H q = some (.tup xs)) : q ≠ p := by
  obtain ⟨_, _, _, e⟩ := S.stm
  exact ne_of h e (by intro z; cases z)
theorem Sd.ne0 {H0 H : Hp} {p q : Addr} (S : Sd H0 H p) (h : H q = none) : q ≠ p := by
  obtain ⟨_, _, _, e⟩ := S.stm
  exact Ne.symm (ne_of_none e h)
theorem rn_abs (n d : Int) : (rn n d).natAbs ≤ n.natAbs := by
  unfold rn
  refine Nat.le_trans (Int.natAbs_ediv_le_natAbs _ _) ?_
  split <;> omega
theorem rd_abs (n d : Int) : (rd n d).natAbs ≤ d.natAbs := by
  unfold rd
  refine Nat.le_trans (Int.natAbs_ediv_le_natAbs _ _) ?_
  split <;> omega
theorem lt400 {a : Nat} (h : a < 2 ^ 100) : a < 2 ^ 400 := Nat.lt_of_lt_of_le h (Nat.pow_le_pow_right (by decide) (by decide))
/-! ### the four operations -/
def IsN (K : PySem.W.Frag) (H : Hp) (v : V) (n d : Int) : Prop := ∃ p, v = .ref p ∧ SqT K H p [.int n, .int d] ∧ n.natAbs < 2 ^ 200 ∧ d.natAbs < 2 ^ 200
theorem IsN.mono {K : PySem.W.Frag} {H H' : Hp} {v : V} {n d : Int} (h : IsN K H v n d) (s : Same H H') : IsN K H' v n d := by
  obtain ⟨p, e, h, b⟩ := h
  exact ⟨p, e, Z.Same.seqT s h, b⟩
/-- what ratio n d does -/
def RatK (A : Nat → Addr) (n d : Int) (H : Hp) (Q : VK) (E : XK) : Prop := (d = 0 → E (.ref (A 2)) none H) ∧
  (d ≠ 0 → ¬ fits n d → E (.ref (A 1)) none H) ∧ (d ≠ 0 → fits n d → ∀ p H', Same H H' → H' p = some (.tup [.int (rn n d), .int (rd n d)]) → Q (.ref p) H')
theorem rat_use {A : Nat → Addr} {n d : Int} {H : Hp} {Q : VK} {E : XK} (hn : n.natAbs < 2 ^ 1000) (hd : d.natAbs < 2 ^ 1000) (k : RatK A n d H Q E) : sp_ratio A [.int n, .int d] H Q E := ⟨n, d, rfl, hn, hd, k⟩
theorem lt1000' {a : Nat} (h : a < 2 ^ 600) : a < 2 ^ 1000 := Nat.lt_of_lt_of_le h (Nat.pow_le_pow_right (by decide) (by decide))
theorem mul600 {a b : Int} (ha : a.natAbs < 2 ^ 200) (hb : b.natAbs < 2 ^ 200) : (a * b).natAbs < 2 ^ 400 := wide_lt ha hb
theorem add600 {a b : Int} (ha : a.natAbs < 2 ^ 400) (hb : b.natAbs < 2 ^ 400) : (a + b).natAbs < 2 ^ 1000 := by
  have h1 : (a + b).natAbs ≤ a.natAbs + b.natAbs := Int.natAbs_add_le a b
  have h2 : (2 : Nat) ^ 400 + 2 ^ 400 ≤ 2 ^ 1000 := by
    rw [show (2 : Nat) ^ 400 + 2 ^ 400 = 2 ^ 401 by rw [← Nat.two_mul, ← Nat.pow_succ']]
    exact Nat.pow_le_pow_right (by decide) (by decide)
  omega
theorem sub600 {a b : Int} (ha : a.natAbs < 2 ^ 400) (hb : b.natAbs < 2 ^ 400) : (a - b).natAbs < 2 ^ 1000 := by
  rw [Int.sub_eq_add_neg]
  exact add600 ha (by rw [Int.natAbs_neg]; exact hb)
def sp_op (K : PySem.W.Frag) (A : Nat → Addr) (N D : Int → Int → Int → Int → Int) : Sp := fun vs H Q E => ∃ (v w : V) (n d m e : Int), vs = [v, w] ∧ IsN K H v n d ∧ IsN K H w m e ∧ RatK A (N n d m e) (D n d m e) H Q E
def N0 (n d m e : Int) : Int := n * e + m * d
def N1 (n d m e : Int) : Int := n * e - m * d
def N2 (n _ m _ : Int) : Int := n * m
def N3 (n _ _ e : Int) : Int := n * e
def D0 (_ d _ e : Int) : Int := d * e
def D3 (_ d m _ : Int) : Int := d * m
theorem pin {a : Nat} (h : a < 2 ^ 400) : a < 2 ^ 1000 := lt4 h
section
theorem ok_add {P : Program} {w : World} {K : PySem.W.Frag} {mg : Str → Option Value} {base : Heap} {A : Nat → Addr} {D : Nat → FuncData} (T : Txt K mg A D) : FnOk P w K mg base (L2.CX P w) 2 (A 4) (D 4) ["a", "b"] (sp_op K A N0 D0) := by
  refine T.F_add.okX sc_add (fun vs H Q E h => ?_) (fun cdv A' outer s H vs Q E hr h => ?_)
  · obtain ⟨v, w', n, d, m, e, rfl, _⟩ := h
    rfl
  obtain ⟨_, _, n, d, m, e, rfl, ⟨p, rfl, hp, hn, hd⟩, ⟨p2, rfl, hp2, hm, he⟩, q⟩ := h
  refine ⟨_, (pss_one (ps_ret (pe_call (ok_ratio T) (hr.mono (by decide)) (by rfl) T.m_ratio T.F_ratio.kp T.b_ratio .nil (passes_call (takes_of rfl rfl rfl rfl) (fun _ _ _ _ h => h)) (pa_cons (pe_op op_add (pe_op op_mulW (pe_ix ix_tup (pv 0) pe_int (fun _ _ => rfl)) (pe_ix ix_tup (pv 1) pe_int (fun _ _ => rfl))) (pe_op op_mulW (pe_ix ix_tup (pv 1) pe_int (fun _ _ => rfl)) (pe_ix ix_tup (pv 0) pe_int (fun _ _ => rfl)))) (pa_cons (pe_op op_mulW (pe_ix ix_tup (pv 0) pe_int (fun _ _ => rfl)) (pe_ix ix_tup (pv 1) pe_int (fun _ _ => rfl))) pa_nil))))), ?_⟩
  walk_at "z"
  refine z_I (wide_mul hn he (by decide) (by decide) (by decide)) ?_
  walk_at "z"
  refine z_I (wide_mul hm hd (by decide) (by decide) (by decide)) ?_
  walk_at "z"
  refine z_I (wide_mul hd he (by decide) (by decide) (by decide)) ?_
  walk_at "z"
  exact rat_use (add600 (mul600 hn he) (mul600 hm hd)) (lt4 (mul600 hd he)) q

theorem ok_subtract {P : Program} {w : World} {K : PySem.W.Frag} {mg : Str → Option Value} {base : Heap} {A : Nat → Addr} {D : Nat → FuncData} (T : Txt K mg A D) : FnOk P w K mg base (L2.CX P w) 2 (A 5) (D 5) ["a", "b"] (sp_op K A N1 D0) := by
  refine T.F_subtract.okX sc_subtract (fun vs H Q E h => ?_) (fun cdv A' outer s H vs Q E hr h => ?_)
  · obtain ⟨v, w', n, d, m, e, rfl, _⟩ := h
    rfl
  obtain ⟨_, _, n, d, m, e, rfl, ⟨p, rfl, hp, hn, hd⟩, ⟨p2, rfl, hp2, hm, he⟩, q⟩ := h
  refine ⟨_, (pss_one (ps_ret (pe_call (ok_ratio T) (hr.mono (by decide)) (by rfl) T.m_ratio T.F_ratio.kp T.b_ratio .nil (passes_call (takes_of rfl rfl rfl rfl) (fun _ _ _ _ h => h)) (pa_cons (pe_op op_sub (pe_op op_mulW (pe_ix ix_tup (pv 0) pe_int (fun _ _ => rfl)) (pe_ix ix_tup (pv 1) pe_int (fun _ _ => rfl))) (pe_op op_mulW (pe_ix ix_tup (pv 1) pe_int (fun _ _ => rfl)) (pe_ix ix_tup (pv 0) pe_int (fun _ _ => rfl)))) (pa_cons (pe_op op_mulW (pe_ix ix_tup (pv 0) pe_int (fun _ _ => rfl)) (pe_ix ix_tup (pv 1) pe_int (fun _ _ => rfl))) pa_nil))))), ?_⟩
  walk_at "z"
  refine z_I (wide_mul hn he (by decide) (by decide) (by decide)) ?_
  walk_at "z"
  refine z_I (wide_mul hm hd (by decide) (by decide) (by decide)) ?_
  walk_at "z"
  refine z_I (wide_mul hd he (by decide) (by decide) (by decide)) ?_
  walk_at "z"
  exact rat_use (sub600 (mul600 hn he) (mul600 hm hd)) (lt4 (mul600 hd he)) q

theorem ok_multiply {P : Program} {w : World} {K : PySem.W.Frag} {mg : Str → Option Value} {base : Heap} {A : Nat → Addr} {D : Nat → FuncData} (T : Txt K mg A D) : FnOk P w K mg base (L2.CX P w) 2 (A 6) (D 6) ["a", "b"] (sp_op K A N2 D0) := by
  refine T.F_multiply.okX sc_multiply (fun vs H Q E h => ?_) (fun cdv A' outer s H vs Q E hr h => ?_)
  · obtain ⟨v, w', n, d, m, e, rfl, _⟩ := h
    rfl
  obtain ⟨_, _, n, d, m, e, rfl, ⟨p, rfl, hp, hn, hd⟩, ⟨p2, rfl, hp2, hm, he⟩, q⟩ := h
  refine ⟨_, (pss_one (ps_ret (pe_call (ok_ratio T) (hr.mono (by decide)) (by rfl) T.m_ratio T.F_ratio.kp T.b_ratio .nil (passes_call (takes_of rfl rfl rfl rfl) (fun _ _ _ _ h => h)) (pa_cons (pe_op op_mulW (pe_ix ix_tup (pv 0) pe_int (fun _ _ => rfl)) (pe_ix ix_tup (pv 1) pe_int (fun _ _ => rfl))) (pa_cons (pe_op op_mulW (pe_ix ix_tup (pv 0) pe_int (fun _ _ => rfl)) (pe_ix ix_tup (pv 1) pe_int (fun _ _ => rfl))) pa_nil))))), ?_⟩
  walk_at "z"
  refine z_I (wide_mul hn hm (by decide) (by decide) (by decide)) ?_
  walk_at "z"
  refine z_I (wide_mul hd he (by decide) (by decide) (by decide)) ?_
  walk_at "z"
  exact rat_use (lt4 (mul600 hn hm)) (lt4 (mul600 hd he)) q

theorem ok_divide {P : Program} {w : World} {K : PySem.W.Frag} {mg : Str → Option Value} {base : Heap} {A : Nat → Addr} {D : Nat → FuncData} (T : Txt K mg A D) : FnOk P w K mg base (L2.CX P w) 2 (A 7) (D 7) ["a", "b"] (sp_op K A N3 D3) := by
  refine T.F_divide.okX sc_divide (fun vs H Q E h => ?_) (fun cdv A' outer s H vs Q E hr h => ?_)
  · obtain ⟨v, w', n, d, m, e, rfl, _⟩ := h
    rfl
  obtain ⟨_, _, n, d, m, e, rfl, ⟨p, rfl, hp, hn, hd⟩, ⟨p2, rfl, hp2, hm, he⟩, q⟩ := h
  refine ⟨_, (pss_one (ps_ret (pe_call (ok_ratio T) (hr.mono (by decide)) (by rfl) T.m_ratio T.F_ratio.kp T.b_ratio .nil (passes_call (takes_of rfl rfl rfl rfl) (fun _ _ _ _ h => h)) (pa_cons (pe_op op_mulW (pe_ix ix_tup (pv 0) pe_int (fun _ _ => rfl)) (pe_ix ix_tup (pv 1) pe_int (fun _ _ => rfl))) (pa_cons (pe_op op_mulW (pe_ix ix_tup (pv 0) pe_int (fun _ _ => rfl)) (pe_ix ix_tup (pv 1) pe_int (fun _ _ => rfl))) pa_nil))))), ?_⟩
  walk_at "z"
  refine z_I (wide_mul hn he (by decide) (by decide) (by decide)) ?_
  walk_at "z"
  refine z_I (wide_mul hd hm (by decide) (by decide) (by decide)) ?_
  walk_at "z"
  exact rat_use (lt4 (mul600 hn he)) (lt4 (mul600 hd hm)) q

end
/-! ### a drawn number -/
def sp__law_drawn : Sp := fun vs H Q _ => ∃ (p : Addr) (H0 : Hp), vs = [.ref p] ∧ Sd H0 H p ∧ ∀ (n d : Int) (p' : Addr) (H' : Hp), 0 < d → n.natAbs < 2 ^ 100 → d.natAbs < 2 ^ 100 → Sd H0 H' p → H' p' = some (.tup [.int n, .int d]) → Kp p H H' → Q (.ref p') H'
section
theorem ok__law_drawn {P : Program} {w : World} {K : PySem.W.Frag} {mg : Str → Option Value} {base : Heap} {A : Nat → Addr} {D : Nat → FuncData} (T : Txt K mg A D) : FnOk P w K mg base (L2.CX P w) 2 (A 14) (D 14) ["stream"] sp__law_drawn := by
  refine T.F__law_drawn.okX sc__law_drawn (fun vs H Q E h => ?_) (fun cdv A' outer s H vs Q E hr h => ?_)
  · obtain ⟨p, H0, rfl, _⟩ := h
    rfl
  obtain ⟨p, H0, rfl, S, q⟩ := h
  refine ⟨_, (pss_cons (ps_set (i := 1) sc__law_drawn.nd rfl (.inl rfl) (pe_call (ok__law_next T) (hr.mono (by decide)) (by rfl) T.m__law_next T.F__law_next.kp T.b__law_next .nil (passes_call (takes_of rfl rfl rfl rfl) (fun _ _ _ _ h => h)) (pa_cons (pv 0) (pa_cons pe_int pa_nil))))
  (pss_cons (ps_set (i := 2) sc__law_drawn.nd rfl (.inl rfl) (pe_op op_sub (pe_call (ok__law_next T) (hr.mono (by decide)) (by rfl) T.m__law_next T.F__law_next.kp T.b__law_next .nil (passes_call (takes_of rfl rfl rfl rfl) (fun _ _ _ _ h => h)) (pa_cons (pv 0) (pa_cons pe_int pa_nil))) pe_int))
  (pss_cons (ps_set (i := 3) sc__law_drawn.nd rfl (.inl rfl) (pe_op op_add (pe_call (ok__law_next T) (hr.mono (by decide)) (by rfl) T.m__law_next T.F__law_next.kp T.b__law_next .nil (passes_call (takes_of rfl rfl rfl rfl) (fun _ _ _ _ h => h)) (pa_cons (pv 0) (pa_cons pe_int pa_nil))) pe_int))
  (Evl.pss_cut (ps_if (pt_cmpR op_eq (pv 1) pe_int (nomark _))
  (pss_cons (ps_set (i := 2) sc__law_drawn.nd rfl (.inl rfl) (pe_op op_sub (pe_call (ok__law_next T) (hr.mono (by decide)) (by rfl) T.m__law_next T.F__law_next.kp T.b__law_next .nil (passes_call (takes_of rfl rfl rfl rfl) (fun _ _ _ _ h => h)) (pa_cons (pv 0) (pa_cons (pe_op op_mul pe_int (Z.pe_powc (v := 1000000) ⟨by decide, by decide, by decide⟩ (by decide))) pa_nil))) (Z.pe_powc (v := 1000000) ⟨by decide, by decide, by decide⟩ (by decide))))
  (pss_one (ps_set (i := 3) sc__law_drawn.nd rfl (.inl rfl) (pe_ix ix_list (pe_lst (pa_cons pe_int (pa_cons pe_int (pa_cons pe_int (pa_cons pe_int (pa_cons pe_int pa_nil)))))) (pe_call (ok__law_next T) (hr.mono (by decide)) (by rfl) T.m__law_next T.F__law_next.kp T.b__law_next .nil (passes_call (takes_of rfl rfl rfl rfl) (fun _ _ _ _ h => h)) (pa_cons (pv 0) (pa_cons pe_int pa_nil))) (fun _ _ => rfl)))))
  pss_nil)
  (Evl.pss_cut (ps_if (pt_cmpR op_eq (pv 1) pe_int (nomark _))
  (pss_cons (ps_set (i := 2) sc__law_drawn.nd rfl (.inl rfl) (pe_op op_sub (pe_call (ok__law_next T) (hr.mono (by decide)) (by rfl) T.m__law_next T.F__law_next.kp T.b__law_next .nil (passes_call (takes_of rfl rfl rfl rfl) (fun _ _ _ _ h => h)) (pa_cons (pv 0) (pa_cons (pe_op op_add (pe_op op_mul pe_int (Z.pe_powc (v := 1000000000000000000) ⟨by decide, by decide, by decide⟩ (by decide))) pe_int) pa_nil))) (Z.pe_powc (v := 1000000000000000000) ⟨by decide, by decide, by decide⟩ (by decide))))
  (pss_one (ps_set (i := 3) sc__law_drawn.nd rfl (.inl rfl) (pe_op op_add (pe_call (ok__law_next T) (hr.mono (by decide)) (by rfl) T.m__law_next T.F__law_next.kp T.b__law_next .nil (passes_call (takes_of rfl rfl rfl rfl) (fun _ _ _ _ h => h)) (pa_cons (pv 0) (pa_cons (Z.pe_powc (v := 1000000000000000000) ⟨by decide, by decide, by decide⟩ (by decide)) pa_nil))) pe_int))))
  pss_nil)
  (Evl.pss_cut (ps_if (pt_cmpR op_eq (pv 1) pe_int (nomark _))
  (pss_cons (ps_set (i := 2) sc__law_drawn.nd rfl (.inl rfl) (pe_op op_sub (Z.pe_powc (v := 1000000000000000000) ⟨by decide, by decide, by decide⟩ (by decide)) (pe_call (ok__law_next T) (hr.mono (by decide)) (by rfl) T.m__law_next T.F__law_next.kp T.b__law_next .nil (passes_call (takes_of rfl rfl rfl rfl) (fun _ _ _ _ h => h)) (pa_cons (pv 0) (pa_cons pe_int pa_nil)))))
  (pss_one (ps_set (i := 3) sc__law_drawn.nd rfl (.inl rfl) (pe_ix ix_list (pe_lst (pa_cons pe_int (pa_cons pe_int (pa_cons pe_int (pa_cons pe_int (pa_cons (Z.pe_powc (v := 1000000000000000000) ⟨by decide, by decide, by decide⟩ (by decide)) (pa_cons (pe_op op_sub (Z.pe_powc (v := 1000000000000000000) ⟨by decide, by decide, by decide⟩ (by decide)) pe_int) pa_nil))))))) (pe_call (ok__law_next T) (hr.mono (by decide)) (by rfl) T.m__law_next T.F__law_next.kp T.b__law_next .nil (passes_call (takes_of rfl rfl rfl rfl) (fun _ _ _ _ h => h)) (pa_cons (pv 0) (pa_cons pe_int pa_nil))) (fun _ _ => rfl)))))
  pss_nil)
  (Evl.pss_cut (ps_if (PW.pt (pw_and (pt_cmpR op_eq (pv 1) pe_int (nomark _)) (pw_and1 (pt_cmpR op_eq (pe_call (ok__law_next T) (hr.mono (by decide)) (by rfl) T.m__law_next T.F__law_next.kp T.b__law_next .nil (passes_call (takes_of rfl rfl rfl rfl) (fun _ _ _ _ h => h)) (pa_cons (pv 0) (pa_cons pe_int pa_nil))) pe_int (nomark _)))))
  (pss_one (ps_set (i := 2) sc__law_drawn.nd rfl (.inl rfl) (pe_op op_sub pe_int (pv 2))))
  pss_nil)
  (pss_one (ps_ret (pe_call (ok__law_ratio T) (hr.mono (by decide)) (by rfl) T.m__law_ratio T.F__law_ratio.kp T.b__law_ratio .nil (passes_call (takes_of rfl rfl rfl rfl) (fun _ _ _ _ h => h)) (pa_cons (pv 2) (pa_cons (pv 3) pa_nil)))))))))))), ?_⟩
  walk_at "z"
  refine nx S (by decide) (lt1000 (by decide)) fun kind H1 k0 k1 S1 e1 => ?_
  walk_at "z"
  refine nx S1 (by decide) (lt1000 (by decide)) fun n1 H2 n10 n11 S2 e2 => ?_
  walk_at "z"
  refine nx S2 (by decide) (lt1000 (by decide)) fun d1 H3 d10 d11 S3 e3 => ?_
  walk_at "z"
  have K3 : Kp p H H3 := ((Kp.eq e1).trans (Kp.eq e2)).trans (Kp.eq e3)
  let W : L2.St → Hp → Prop := fun σ H' => ∃ n d : Int, σ = [some (.ref p), some (.int kind), some (.int n), some (.int d)] ∧ 0 < d ∧ n.natAbs < 2 ^ 100 ∧ d.natAbs < 2 ^ 100 ∧ Sd H0 H' p ∧ Kp p H H'
  have pick : ∀ (xs : List V) (i : Int), 0 ≤ i → i < xs.length → (∀ x ∈ xs, ∃ y : Int, x = .int y ∧ 0 < y ∧ y.natAbs < 2 ^ 100) → ∃ y : Int, atI xs i = some (.int y) ∧ 0 < y ∧ y.natAbs < 2 ^ 100 := by
    intro xs i h0 h1 hx
    obtain ⟨j, rfl⟩ : ∃ j : Nat, i = j := ⟨i.toNat, by omega⟩
    have hj : j < xs.length := by omega
    obtain ⟨y, hy, z⟩ := hx xs[j] (List.getElem_mem hj)
    exact ⟨y, by rw [← hy]; exact atI_nat (List.getElem?_eq_getElem hj), z⟩
  refine z_cut W ?_ ?_
  · walk_at "z"
    refine z_if (fun c => ?_) (fun c => ?_)
    · walk_at "z"
      refine nx S3 (by decide) (lt1000 (by decide)) fun n2 H4 n20 n21 S4 e4 => ?_
      walk_at "z"
      intro p' H9 hp' s9 hl9
      walk_at "z"
      refine nx (S4.mono s9) (by decide) (lt1000 (by decide)) fun i1 H5 i10 i11 S5 e5 => ?_
      obtain ⟨x, hx, hx0, hxb⟩ := pick [V.int 64, V.int 90, V.int 128, V.int 1000, V.int 999983] i1 i10 (by simpa using i11) (by
        intro x hx
        simp only [List.mem_cons, List.not_mem_nil, or_false] at hx
        rcases hx with rfl | rfl | rfl | rfl | rfl <;> exact ⟨_, rfl, by decide, by decide⟩)
      have hl : H5 p' = some (.lst [V.int 64, V.int 90, V.int 128, V.int 1000, V.int 999983]) := by
        rw [e5 p' (S4.ne0 hp')]
        exact hl9
      refine z_ixL (.inl (.inl hl)) hx ?_
      walk_at "z"
      exact ⟨_, _, rfl, hx0, by omega, hxb, S5, ((K3.trans (Kp.eq e4)).trans (Kp.of s9)).trans (Kp.eq e5)⟩
    · walk_at "z"
      exact ⟨_, _, rfl, by omega, by omega, by omega, S3, K3⟩
  clear S S1 S2 S3 e1 e2 e3 n10 n11 d10 d11 K3
  rintro σ' H5 ⟨n, d, rfl, d0, hn, hd, S5, K5⟩
  refine z_cut W ?_ ?_
  · walk_at "z"
    refine z_if (fun c => ?_) (fun c => ?_)
    · walk_at "z"
      refine nx S5 (by decide) (lt1000 (by decide)) fun n2 H4 n20 n21 S4 e4 => ?_
      walk_at "z"
      refine nx S4 (by decide) (lt1000 (by decide)) fun d2 H6 d20 d21 S6 e6 => ?_
      walk_at "z"
      exact ⟨_, _, rfl, by omega, by omega, by omega, S6, (K5.trans (Kp.eq e4)).trans (Kp.eq e6)⟩
    · walk_at "z"
      exact ⟨_, _, rfl, d0, hn, hd, S5, K5⟩
  clear d0 hn hd S5 K5 n d H5
  rintro σ' H5 ⟨n, d, rfl, d0, hn, hd, S5, K5⟩
  refine z_cut W ?_ ?_
  · walk_at "z"
    refine z_if (fun c => ?_) (fun c => ?_)
    · walk_at "z"
      refine nx S5 (by decide) (lt1000 (by decide)) fun n2 H4 n20 n21 S4 e4 => ?_
      walk_at "z"
      intro p' H9 hp' s9 hl9
      walk_at "z"
      refine nx (S4.mono s9) (by decide) (lt1000 (by decide)) fun i1 H7 i10 i11 S7 e7 => ?_
      obtain ⟨x, hx, hx0, hxb⟩ := pick [V.int 1, V.int 1, V.int 2, V.int 3, V.int 1000000000000000000, V.int (1000000000000000000 - 1)] i1 i10 (by simpa using i11) (by
        intro x hx
        simp only [List.mem_cons, List.not_mem_nil, or_false] at hx
        rcases hx with rfl | rfl | rfl | rfl | rfl | rfl <;> exact ⟨_, rfl, by decide, by decide⟩)
      have hl : H7 p' = some (.lst [V.int 1, V.int 1, V.int 2, V.int 3, V.int 1000000000000000000, V.int (1000000000000000000 - 1)]) := by
        rw [e7 p' (S4.ne0 hp')]
        exact hl9
      refine z_ixL (.inl (.inl hl)) hx ?_
      walk_at "z"
      exact ⟨_, _, rfl, hx0, by omega, hxb, S7, ((K5.trans (Kp.eq e4)).trans (Kp.of s9)).trans (Kp.eq e7)⟩
    · walk_at "z"
      exact ⟨_, _, rfl, d0, hn, hd, S5, K5⟩
  clear d0 hn hd S5 K5 n d H5
  rintro σ' H5 ⟨n, d, rfl, d0, hn, hd, S5, K5⟩
  refine z_cut W ?_ ?_
  · walk_at "z"
    refine z_if (fun c => ?_) (fun c => ?_)
    · walk_at "z"
      refine nx S5 (by decide) (lt1000 (by decide)) fun n2 H4 n20 n21 S4 e4 => ?_
      walk_at "z"
      refine z_if (fun c => ?_) (fun c => ?_)
      · walk_at "z"
        exact ⟨_, _, rfl, d0, by omega, hd, S4, K5.trans (Kp.eq e4)⟩
      · walk_at "z"
        exact ⟨_, _, rfl, d0, hn, hd, S4, K5.trans (Kp.eq e4)⟩
    · walk_at "z"
      exact ⟨_, _, rfl, d0, hn, hd, S5, K5⟩
  clear d0 hn hd S5 K5 n d H5
  rintro σ' H5 ⟨n, d, rfl, d0, hn, hd, S5, K5⟩
  walk_at "z"
  refine ⟨n, d, rfl, by omega, lt400 hn, lt400 hd, fun p1 H9 s9 h9 => ?_⟩
  exact q (rn n d) (rd n d) p1 _ (rd_pos (by omega)) (Nat.lt_of_le_of_lt (rn_abs n d) hn) (Nat.lt_of_le_of_lt (rd_abs n d) hd) (S5.mono s9) h9 (K5.trans (Kp.of s9))
end
/-! ### what is told -/
def opN (k n d m e : Int) : Int := if k = 0 then N0 n d m e else if k = 1 then N1 n d m e else if k = 2 then N2 n d m e else N3 n d m e
def opD (k n d m e : Int) : Int := if k = 3 then D3 n d m e else D0 n d m e
def sZero : V := .str (Str.ofString "zero")
def sGreat : V := .str (Str.ofString "great")
def sNil : V := .str (Str.ofString "")
/-- what the outcome of ratio N D is told as -/
def Told (N D : Int) (H : Hp) (Q : VK) : Prop := (D = 0 → ∀ p H', Same H H' → H' p = some (.tup [sZero, .non]) → Q (.ref p) H') ∧ (D ≠ 0 → ¬ fits N D → ∀ p H', Same H H' → H' p = some (.tup [sGreat, .non]) → Q (.ref p) H') ∧
  (D ≠ 0 → fits N D → ∀ p p' H', Same H H' → H' p = some (.tup [.int (rn N D), .int (rd N D)]) → H' p' = some (.tup [sNil, .ref p]) → Q (.ref p') H')
def sp__law_told (K : PySem.W.Frag) : Sp := fun vs H Q _ => ∃ (k : Int) (v w : V) (n d m e : Int), vs = [.int k, v, w] ∧ 0 ≤ k ∧ k < 4 ∧ IsN K H v n d ∧ IsN K H w m e ∧ Told (opN k n d m e) (opD k n d m e) H Q
theorem told_core {K : PySem.W.Frag} {mg : Str → Option Value} {A : Nat → Addr} {D : Nat → FuncData} (T : Txt K mg A D) {N Dd : Int} {H : Hp} {Q : VK} {σ : L2.St} {n0 b0 c0 : L2.St → Hp → Prop} (q : Told N Dd H Q) :
    RatK A N Dd H (fun x H1 => tNil σ H1 fun xs H2 => NewT Q (sNil :: x :: xs) H2)
      (WE (wMany K (fun _ _ _ _ => False) ⟨n0, Q, b0, c0⟩ [(.ref (A 1), fun _ _ _ => tRet (tTup (tCons (tC sGreat) (tCons (tC .non) tNil)))), (.ref (A 2), fun _ _ _ => tRet (tTup (tCons (tC sZero) (tCons (tC .non) tNil))))]) σ) := by
  refine ⟨fun h0 => ?_, fun h0 hf => ?_, fun h0 hf p H1 s1 h1 => ?_⟩
  · refine z_many0 (exm T.x_TooGreat T.e_DivisionByZero_TooGreat) (z_many1 (exm T.x_DivisionByZero T.e_DivisionByZero_DivisionByZero) fun a ha => ?_)
    walk_at "z"
    exact fun p H' _ s h => q.1 h0 p H' s h
  · refine z_many1 (exm T.x_TooGreat T.e_TooGreat_TooGreat) fun a ha => ?_
    walk_at "z"
    exact fun p H' _ s h => q.2.1 h0 hf p H' s h
  · walk_at "z"
    exact fun p' H2 _ s2 h2 => q.2.2 h0 hf p p' H2 (s1.trans s2) (s2 _ _ h1) h2
section
theorem ok__law_told {P : Program} {w : World} {K : PySem.W.Frag} {mg : Str → Option Value} {base : Heap} {A : Nat → Addr} {D : Nat → FuncData} (T : Txt K mg A D) : FnOk P w K mg base (L2.CX P w) 3 (A 15) (D 15) ["kind", "a", "b"] (sp__law_told K) := by
  refine T.F__law_told.okX sc__law_told (fun vs H Q E h => ?_) (fun cdv A' outer s H vs Q E hr h => ?_)
  · obtain ⟨k, v, w', n, d, m, e, rfl, _⟩ := h
    rfl
  obtain ⟨k, v, w', n, d, m, e, rfl, k0, k1, hv, hw, q⟩ := h
  refine ⟨_, (pss_one (ps_try_many (Wout := fun _ _ _ _ => False) rfl rfl takes0 (fun W pn xe tk PO => (pss_cons (ps_if (pt_cmpR op_eq (pv 0) pe_int (nomark _))
  (pss_one (ps_ret (pe_tup (pa_cons pe_str (pa_cons (pe_callS (ok_add T) (hr.mono (by decide)) (by rfl) T.m_add T.F_add.kp T.b_add (fun σ => passAt tk σ) (by exact (pa_cons (pv 1) (pa_cons (pv 2) pa_nil)))) pa_nil)))))
  pss_nil)
  (pss_cons (ps_if (pt_cmpR op_eq (pv 0) pe_int (nomark _))
  (pss_one (ps_ret (pe_tup (pa_cons pe_str (pa_cons (pe_callS (ok_subtract T) (hr.mono (by decide)) (by rfl) T.m_subtract T.F_subtract.kp T.b_subtract (fun σ => passAt tk σ) (by exact (pa_cons (pv 1) (pa_cons (pv 2) pa_nil)))) pa_nil)))))
  pss_nil)
  (pss_cons (ps_if (pt_cmpR op_eq (pv 0) pe_int (nomark _))
  (pss_one (ps_ret (pe_tup (pa_cons pe_str (pa_cons (pe_callS (ok_multiply T) (hr.mono (by decide)) (by rfl) T.m_multiply T.F_multiply.kp T.b_multiply (fun σ => passAt tk σ) (by exact (pa_cons (pv 1) (pa_cons (pv 2) pa_nil)))) pa_nil)))))
  pss_nil)
  (pss_one (ps_ret (pe_tup (pa_cons pe_str (pa_cons (pe_callS (ok_divide T) (hr.mono (by decide)) (by rfl) T.m_divide T.F_divide.kp T.b_divide (fun σ => passAt tk σ) (by exact (pa_cons (pv 1) (pa_cons (pv 2) pa_nil)))) pa_nil)))))))))
  (.cons ⟨rfl, by decide, .inl T.x_TooGreat.g⟩ (fun a oe cls d pn hz hf => (pss_one (ps_ret (pe_tup (pa_cons pe_str (pa_cons pe_non pa_nil))))))
   (.cons ⟨rfl, by decide, .inl T.x_DivisionByZero.g⟩ (fun a oe cls d pn hz hf => (pss_one (ps_ret (pe_tup (pa_cons pe_str (pa_cons pe_non pa_nil))))))
   .nil)))), ?_⟩
  walk_at "z"
  refine z_if (fun c => ?_) (fun c0 => ?_)
  · walk_at "z"
    subst c
    exact ⟨v, w', n, d, m, e, rfl, hv, hw, told_core T q⟩
  walk_at "z"
  refine z_if (fun c => ?_) (fun c1 => ?_)
  · walk_at "z"
    subst c
    exact ⟨v, w', n, d, m, e, rfl, hv, hw, told_core T q⟩
  walk_at "z"
  refine z_if (fun c => ?_) (fun c2 => ?_)
  · walk_at "z"
    subst c
    exact ⟨v, w', n, d, m, e, rfl, hv, hw, told_core T q⟩
  walk_at "z"
  obtain rfl : k = 3 := by omega
  exact ⟨v, w', n, d, m, e, rfl, hv, hw, told_core T q⟩
end
def sp__law_holds (K : PySem.W.Frag) : Sp := fun vs H Q _ => ∃ (k : Int) (v w : V) (n d m e : Int), vs = [.int k, v, w] ∧ 0 ≤ k ∧ k < 4 ∧ IsN K H v n d ∧ IsN K H w m e ∧ n.natAbs < 2 ^ 100 ∧ m.natAbs < 2 ^ 100 ∧ d.natAbs < 2 ^ 100 ∧ e.natAbs < 2 ^ 100 ∧ ∀ H', Same H H' → Q (.bl true) H'
section
theorem ok__law_holds {P : Program} {w : World} {K : PySem.W.Frag} {mg : Str → Option Value} {base : Heap} {A : Nat → Addr} {D : Nat → FuncData} (T : Txt K mg A D) : FnOk P w K mg base (L2.CX P w) 4 (A 16) (D 16) ["kind", "a", "b"] (sp__law_holds K) := by
  refine T.F__law_holds.okX sc__law_holds (fun vs H Q E h => ?_) (fun cdv A' outer s H vs Q E hr h => ?_)
  · obtain ⟨k, v, w', n, d, m, e, rfl, _⟩ := h
    rfl
  obtain ⟨k, v, w', n, d, m, e, rfl, k0, k1, ⟨p1, rfl, hp1, hn2, hd2⟩, ⟨p2, rfl, hp2, hm2, he2⟩, hn, hm, hd, he, q⟩ := h
  refine ⟨_, (pss_cons (ps_set (i := 3) sc__law_holds.nd rfl (.inl rfl) (pe_ix ix_list (pe_lst (pa_cons (pe_op op_add (pe_op op_mulW (pe_ix ix_tup (pv 1) pe_int (fun _ _ => rfl)) (pe_ix ix_tup (pv 2) pe_int (fun _ _ => rfl))) (pe_op op_mulW (pe_ix ix_tup (pv 2) pe_int (fun _ _ => rfl)) (pe_ix ix_tup (pv 1) pe_int (fun _ _ => rfl)))) (pa_cons (pe_op op_sub (pe_op op_mulW (pe_ix ix_tup (pv 1) pe_int (fun _ _ => rfl)) (pe_ix ix_tup (pv 2) pe_int (fun _ _ => rfl))) (pe_op op_mulW (pe_ix ix_tup (pv 2) pe_int (fun _ _ => rfl)) (pe_ix ix_tup (pv 1) pe_int (fun _ _ => rfl)))) (pa_cons (pe_op op_mulW (pe_ix ix_tup (pv 1) pe_int (fun _ _ => rfl)) (pe_ix ix_tup (pv 2) pe_int (fun _ _ => rfl))) (pa_cons (pe_op op_mulW (pe_ix ix_tup (pv 1) pe_int (fun _ _ => rfl)) (pe_ix ix_tup (pv 2) pe_int (fun _ _ => rfl))) pa_nil))))) (pv 0) (fun _ _ => rfl)))
  (pss_cons (ps_set (i := 4) sc__law_holds.nd rfl (.inl rfl) (pe_ix ix_list (pe_lst (pa_cons (pe_op op_mulW (pe_ix ix_tup (pv 1) pe_int (fun _ _ => rfl)) (pe_ix ix_tup (pv 2) pe_int (fun _ _ => rfl))) (pa_cons (pe_op op_mulW (pe_ix ix_tup (pv 1) pe_int (fun _ _ => rfl)) (pe_ix ix_tup (pv 2) pe_int (fun _ _ => rfl))) (pa_cons (pe_op op_mulW (pe_ix ix_tup (pv 1) pe_int (fun _ _ => rfl)) (pe_ix ix_tup (pv 2) pe_int (fun _ _ => rfl))) (pa_cons (pe_op op_mulW (pe_ix ix_tup (pv 1) pe_int (fun _ _ => rfl)) (pe_ix ix_tup (pv 2) pe_int (fun _ _ => rfl))) pa_nil))))) (pv 0) (fun _ _ => rfl)))
  (pss_cons (ps_asg (pe_call (ok__law_told T) (hr.mono (by decide)) (by rfl) T.m__law_told T.F__law_told.kp T.b__law_told .nil (passes_call (takes_of rfl rfl rfl rfl) (fun _ _ _ _ h => h)) (pa_cons (pv 0) (pa_cons (pv 1) (pa_cons (pv 2) pa_nil)))) (pg_tup (by rfl) (pgs_cons (pg_name (i := 5) sc__law_holds.nd rfl (.inl rfl)) (pgs_cons (pg_name (i := 6) sc__law_holds.nd rfl (.inl rfl)) pgs_nil))))
  (pss_cons (ps_if (pt_cmpR op_eq (pv 4) pe_int (nomark _))
  (pss_one (ps_ret (pe_cmpR op_eq (pv 5) pe_str (nomark _))))
  pss_nil)
  (pss_cons (ps_set (i := 7) sc__law_holds.nd rfl (.inl rfl) (pe_call (ok__law_ratio T) (hr.mono (by decide)) (by rfl) T.m__law_ratio T.F__law_ratio.kp T.b__law_ratio .nil (passes_call (takes_of rfl rfl rfl rfl) (fun _ _ _ _ h => h)) (pa_cons (pv 3) (pa_cons (pv 4) pa_nil))))
  (pss_cons (ps_if (PW.pt (pw_or (pt_cmpR op_gt (pe_callB Z.c_abs (by rfl) T.z_abs (by decide +kernel) (pa_cons (pe_ix ix_tup (pv 7) pe_int (fun _ _ => rfl)) pa_nil)) (Z.pe_powc (v := 1000000000000000000) ⟨by decide, by decide, by decide⟩ (by decide)) (nomark _)) (pw_or1 (pt_cmpR op_gt (pe_ix ix_tup (pv 7) pe_int (fun _ _ => rfl)) (Z.pe_powc (v := 1000000000000000000) ⟨by decide, by decide, by decide⟩ (by decide)) (nomark _)))))
  (pss_one (ps_ret (pe_cmpR op_eq (pv 5) pe_str (nomark _))))
  pss_nil)
  (pss_one (ps_ret (pe_and (pe_cmpR op_eq (pv 5) pe_str (nomark _)) (pe_and (pe_call (ok__law_is_number T) (hr.mono (by decide)) (by rfl) T.m__law_is_number T.F__law_is_number.kp T.b__law_is_number .nil (passes_call (takes_of rfl rfl rfl rfl) (fun _ _ _ _ h => h)) (pa_cons (pv 6) pa_nil)) (pe_one (pe_cmpR (op_eqD hr.units) (pv 6) (pv 7) (nomark _))))))))))))), ?_⟩
  walk_at "z"
  refine z_I (wide_mul hn2 he2 (by decide) (by decide) (by decide)) ?_
  walk_at "z"
  refine z_I (wide_mul hm2 hd2 (by decide) (by decide) (by decide)) ?_
  walk_at "z"
  refine z_I (wide_mul hn2 he2 (by decide) (by decide) (by decide)) ?_
  walk_at "z"
  refine z_I (wide_mul hm2 hd2 (by decide) (by decide) (by decide)) ?_
  walk_at "z"
  refine z_I (wide_mul hn2 hm2 (by decide) (by decide) (by decide)) ?_
  walk_at "z"
  refine z_I (wide_mul hn2 he2 (by decide) (by decide) (by decide)) ?_
  walk_at "z"
  intro a H1 _ s1 hl1
  walk_at "z"
  have eN : atI [V.int (n * e + m * d), V.int (n * e - m * d), V.int (n * m), V.int (n * e)] k = some (.int (opN k n d m e)) := by
    rcases (by omega : k = 0 ∨ k = 1 ∨ k = 2 ∨ k = 3) with rfl | rfl | rfl | rfl <;> rfl
  have eD : atI [V.int (d * e), V.int (d * e), V.int (d * e), V.int (d * m)] k = some (.int (opD k n d m e)) := by
    rcases (by omega : k = 0 ∨ k = 1 ∨ k = 2 ∨ k = 3) with rfl | rfl | rfl | rfl <;> rfl
  have m200 : ∀ {x y : Int}, x.natAbs < 2 ^ 100 → y.natAbs < 2 ^ 100 → (x * y).natAbs < 2 ^ 200 := fun hx hy => wide_lt hx hy
  have bN : (opN k n d m e).natAbs < 2 ^ 400 := by
    have h1 := m200 hn he
    have h2 := m200 hm hd
    have h3 := m200 hn hm
    have h4 : (2 : Nat) ^ 200 + 2 ^ 200 < 2 ^ 400 := by
      rw [← Nat.two_mul, ← Nat.pow_succ']
      exact Nat.pow_lt_pow_right (by decide) (by decide)
    unfold opN N0 N1 N2 N3
    split
    · omega
    split
    · omega
    split
    · omega
    · omega
  have bD : (opD k n d m e).natAbs < 2 ^ 400 := by
    have h4 : (2 : Nat) ^ 200 < 2 ^ 400 := Nat.pow_lt_pow_right (by decide) (by decide)
    have h1 := m200 hd he
    have h2 := m200 hd hm
    unfold opD D0 D3
    split <;> omega
  have gp1 := seqT s1 hp1
  have gp2 := seqT s1 hp2
  refine z_ixL (.inl (.inl hl1)) eN ?_
  walk_at "z"
  refine z_I (wide_mul hd2 he2 (by decide) (by decide) (by decide)) ?_
  walk_at "z"
  refine z_I (wide_mul hd2 he2 (by decide) (by decide) (by decide)) ?_
  walk_at "z"
  refine z_I (wide_mul hd2 he2 (by decide) (by decide) (by decide)) ?_
  walk_at "z"
  refine z_I (wide_mul hd2 hm2 (by decide) (by decide) (by decide)) ?_
  walk_at "z"
  intro a2 H2 _ s2 hl2
  walk_at "z"
  refine z_ixL (.inl (.inl hl2)) eD ?_
  walk_at "z"
  have fp1 : IsN K H2 (.ref p1) n d := ⟨p1, rfl, seqT s2 gp1, hn2, hd2⟩
  have fp2 : IsN K H2 (.ref p2) m e := ⟨p2, rfl, seqT s2 gp2, hm2, he2⟩
  have hsame := s1.trans s2
  clear gp1 gp2 hp1 hp2 hl1 hl2 s1 s2
  refine ⟨k, _, _, n, d, m, e, rfl, k0, k1, fp1, fp2, fun h0 p3 H3 s3 h3 => ?_, fun h0 hf p3 H3 s3 h3 => ?_, fun h0 hf p3 p4 H3 s3 h3 h4 => ?_⟩
  · walk_at "z"
    refine z_if (fun _ => ?_) (fun c => absurd h0 c)
    walk_at "z"
    refine z_eqS (q _ (hsame.trans s3))
  · walk_at "z"
    refine z_if (fun c => absurd c h0) (fun _ => ?_)
    walk_at "z"
    refine ⟨_, _, rfl, h0, bN, bD, fun p5 H5 s5 h5 => ?_⟩
    walk_at "z"
    have hr0 := rd_pos (n := opN k n d m e) h0
    refine z_if (fun c1 => ?_) (fun c1 => ?_)
    · walk_at "z"
      exact z_eqS (q _ ((hsame.trans s3).trans s5))
    walk_at "z"
    refine z_if (fun c2 => ?_) (fun c2 => ?_)
    · walk_at "z"
      exact z_eqS (q _ ((hsame.trans s3).trans s5))
    exact absurd (by unfold fits lim; split at c1 <;> omega) hf
  · walk_at "z"
    refine z_if (fun c => absurd c h0) (fun _ => ?_)
    walk_at "z"
    refine ⟨_, _, rfl, h0, bN, bD, fun p5 H5 s5 h5 => ?_⟩
    walk_at "z"
    refine z_if (fun c1 => ?_) (fun c1 => ?_)
    · have h1 := hf.1
      have h2 := hf.2.1
      unfold lim at h1 h2
      split at c1 <;> omega
    walk_at "z"
    refine z_if (fun c2 => ?_) (fun c2 => ?_)
    · have h1 := hf.2.2
      unfold lim at h1
      omega
    walk_at "z"
    refine z_eqS ?_
    walk_at "z"
    have h3' := s5 _ _ h3
    refine ⟨p3, _, _, rfl, h3', ?_⟩
    walk_at "z"
    refine z_eqSame (dpT2 h3') (dpT2 h5) rfl ?_
    exact q _ ((hsame.trans s3).trans s5)
end
/-! ### the law -/
theorem lt200 {a : Nat} (h : a < 2 ^ 100) : a < 2 ^ 200 := Nat.lt_of_lt_of_le h (Nat.pow_le_pow_right (by decide) (by decide))
def sp_law (K : PySem.W.Frag) : Sp := fun vs H Q _ => ∃ (a : Addr) (ns : List Int), vs = [.ref a] ∧ SqL K H a (ns.map V.int) ∧ ns.length ≤ 63 ∧ ∀ H', Q (.bl true) H'
def Nb (H : Hp) (p : Addr) (n d : Int) : Prop := H p = some (.tup [.int n, .int d]) ∧ 0 < d ∧ n.natAbs < 2 ^ 100 ∧ d.natAbs < 2 ^ 100
theorem Nb.is {K : PySem.W.Frag} {H : Hp} {p : Addr} {n d : Int} (h : Nb H p n d) : IsN K H (.ref p) n d := ⟨p, rfl, .inl (.inl h.1), lt200 h.2.2.1, lt200 h.2.2.2⟩
theorem Nb.mono {H H' : Hp} {p : Addr} {n d : Int} (h : Nb H p n d) (s : Same H H') : Nb H' p n d := ⟨s _ _ h.1, h.2⟩
theorem Nb.kp {H0 H H' : Hp} {p q : Addr} {n d : Int} (h : Nb H p n d) (S : Sd H0 H q) (k : Kp q H H') : Nb H' p n d := ⟨k _ _ (S.ne h.1) h.1, h.2⟩
section
theorem ok_law {P : Program} {w : World} {K : PySem.W.Frag} {mg : Str → Option Value} {base : Heap} {A : Nat → Addr} {D : Nat → FuncData} (T : Txt K mg A D) : FnOk P w K mg base CX0 5 (A 17) (D 17) ["script"] (sp_law K) := by
  refine T.F_law.ok sc_law (fun vs H Q E h => ?_) (fun cdv A' outer s H vs Q E hr h => ?_)
  · obtain ⟨l, ns, rfl, _⟩ := h
    rfl
  obtain ⟨l, ns, rfl, hS, _, q⟩ := h
  refine ⟨_, (pss_cons (ps_set (i := 1) sc_law.nd rfl (.inl rfl) (pe_call (ok__law_stream T) (hr.mono (by decide)) (by rfl) T.m__law_stream T.F__law_stream.kp T.b__law_stream .nil passL (pa_cons (pe_call (ok__law_cell T) (hr.mono (by decide)) (by rfl) T.m__law_cell T.F__law_cell.kp T.b__law_cell .nil passL (pa_cons (pv 0) (pa_cons pe_int pa_nil))) pa_nil)))
  (pss_cons (ps_set (i := 2) sc_law.nd rfl (.inl rfl) (pe_call (ok__law_drawn T) (hr.mono (by decide)) (by rfl) T.m__law_drawn T.F__law_drawn.kp T.b__law_drawn .nil passL (pa_cons (pv 1) pa_nil)))
  (pss_cons (ps_set (i := 3) sc_law.nd rfl (.inl rfl) (pe_call (ok__law_drawn T) (hr.mono (by decide)) (by rfl) T.m__law_drawn T.F__law_drawn.kp T.b__law_drawn .nil passL (pa_cons (pe_call (ok__law_stream T) (hr.mono (by decide)) (by rfl) T.m__law_stream T.F__law_stream.kp T.b__law_stream .nil passL (pa_cons (pe_call (ok__law_cell T) (hr.mono (by decide)) (by rfl) T.m__law_cell T.F__law_cell.kp T.b__law_cell .nil passL (pa_cons (pv 0) (pa_cons pe_int pa_nil))) pa_nil)) pa_nil)))
  (Evl.pss_cut (ps_if (pt_cmpR op_eq (pe_call (ok__law_next T) (hr.mono (by decide)) (by rfl) T.m__law_next T.F__law_next.kp T.b__law_next .nil passL (pa_cons (pv 1) (pa_cons pe_int pa_nil))) pe_int (nomark _))
  (pss_one (ps_set (i := 3) sc_law.nd rfl (.inl rfl) (pe_call (ok__law_ratio T) (hr.mono (by decide)) (by rfl) T.m__law_ratio T.F__law_ratio.kp T.b__law_ratio .nil passL (pa_cons (pe_ix ix_tup (pv 2) pe_int (fun _ _ => rfl)) (pa_cons (pe_ix ix_tup (pv 2) pe_int (fun _ _ => rfl)) pa_nil)))))
  pss_nil)
  (pss_cons (ps_for PassesOwn.never rfl (pi_range1 (by rfl) T.z_range (pa_cons pe_int pa_nil)) (pg_name (i := 4) sc_law.nd rfl (.inl rfl))
  (pss_one (ps_if (PW.pt (pw_or (pt_not (pt_val (pe_call (ok__law_holds T) (hr.mono (by decide)) (by rfl) T.m__law_holds T.F__law_holds.kp T.b__law_holds .nil passL (pa_cons (pv 4) (pa_cons (pv 2) (pa_cons (pv 3) pa_nil)))))) (pw_or1 (pt_not (pt_val (pe_call (ok__law_holds T) (hr.mono (by decide)) (by rfl) T.m__law_holds T.F__law_holds.kp T.b__law_holds .nil passL (pa_cons (pv 4) (pa_cons (pv 3) (pa_cons (pv 2) pa_nil)))))))))
  (pss_one (ps_ret pe_bl))
  pss_nil)))
  (pss_one (ps_ret pe_bl))))))), ?_⟩
  walk_at "z"
  refine ⟨l, ns, 0, rfl, hS, fun v => ?_⟩
  walk_at "z"
  refine ⟨v, rfl, fun p H1 a b m hp s1 h1 => ?_⟩
  have S0 := Sd.mk0 hp s1 h1
  walk_at "z"
  refine ⟨p, H, rfl, S0, fun na da pa H2 da0 na1 da1 S2 hpa K2 => ?_⟩
  have A2 : Nb H2 pa na da := ⟨hpa, da0, na1, da1⟩
  walk_at "z"
  refine ⟨l, ns, 1, rfl, S2.same.seq hS, fun v2 => ?_⟩
  walk_at "z"
  refine ⟨v2, rfl, fun p2 H3 a2 b2 m2 hp2 s3 h3 => ?_⟩
  have S3 := Sd.mk0 hp2 s3 h3
  walk_at "z"
  refine ⟨p2, H2, rfl, S3, fun nb db pb H4 db0 nb1 db1 S4 hpb K4 => ?_⟩
  have A4 : Nb H4 pa na da := A2.mono S4.same
  have B4 : Nb H4 pb nb db := ⟨hpb, db0, nb1, db1⟩
  have S5 : Sd H H4 p := S2.mono S4.same
  walk_at "z"
  let W : L2.St → Hp → Prop := fun σ H' => ∃ (na da nb db : Int) (pa pb : Addr), σ = [some (.ref l), some (.ref p), some (.ref pa), some (.ref pb), none] ∧ Nb H' pa na da ∧ Nb H' pb nb db
  refine z_cut W ?_ ?_
  · walk_at "z"
    refine nx S5 (by decide) (lt1000 (by decide)) fun kind H6 k0 k1 S6 e6 => ?_
    have A6 := A4.kp S5 (Kp.eq e6)
    have B6 := B4.kp S5 (Kp.eq e6)
    have hA := A6.1
    walk_at "z"
    refine z_if (fun c => ?_) (fun c => ?_)
    · walk_at "z"
      refine ⟨na, da, rfl, by have := A6.2.1; omega, lt400 A6.2.2.1, lt400 A6.2.2.2, fun p1 H7 s7 h7 => ?_⟩
      exact ⟨_, _, _, _, _, _, rfl, A6.mono s7, ⟨h7, rd_pos (by omega), Nat.lt_of_le_of_lt (rn_abs _ _) A6.2.2.1, Nat.lt_of_le_of_lt (rd_abs _ _) A6.2.2.2⟩⟩
    · walk_at "z"
      exact ⟨_, _, _, _, _, _, rfl, A6, B6⟩
  rintro σ' H6 ⟨na, da, nb, db, pa, pb, rfl, A6, B6⟩
  walk_at "z"
  refine z_forR1 4 (by decide) (fun R q => by walk_at "z"; exact q) (fun i σ' H' => ∃ kv : Option V, σ' = [some (.ref l), some (.ref p), some (.ref pa), some (.ref pb), kv] ∧ Same H6 H') ⟨_, rfl, fun _ _ e => e⟩ ?_ ?_
  · rintro i σ' H7 hi ⟨kv, rfl, s7⟩
    have A7 := A6.mono s7
    have B7 := B6.mono s7
    walk_at "z"
    refine ⟨_, _, _, na, da, nb, db, rfl, by omega, by omega, A7.is, B7.is, A7.2.2.1, B7.2.2.1, A7.2.2.2, B7.2.2.2, fun H8 s8 => ?_⟩
    walk_at "z"
    have A8 := A7.mono s8
    have B8 := B7.mono s8
    refine ⟨_, _, _, nb, db, na, da, rfl, by omega, by omega, B8.is, A8.is, B8.2.2.1, A8.2.2.1, B8.2.2.2, A8.2.2.2, fun H9 s9 => ?_⟩
    walk_at "z"
    exact ⟨_, rfl, (s7.trans s8).trans s9⟩
  · rintro σ' H7 ⟨kv, rfl, s7⟩
    walk_at "z"
    exact q _
end

theorem all_mk {l : PySem.W.OpenLaw} {w : World} {K : PySem.W.Frag} {h : Heap} {mg : Str → Option Value} {fa : Addr} (X : K.In h) (G : h.Ns mainGlobals mg) (hfa : mg "law" = some (.ref fa))
    {a3 : Addr} {od3 an3 : Option Addr} {sl3 : Array (Option Value)} {oc3 kV3 dc3 pm3 cd3 ct3 : Value} {a4 : Addr} {od4 an4 : Option Addr} {sl4 : Array (Option Value)} {oc4 kV4 dc4 pm4 cd4 ct4 : Value} {a5 : Addr} {od5 an5 : Option Addr} {sl5 : Array (Option Value)} {oc5 kV5 dc5 pm5 cd5 ct5 : Value} {a6 : Addr} {od6 an6 : Option Addr} {sl6 : Array (Option Value)} {oc6 kV6 dc6 pm6 cd6 ct6 : Value} {a7 : Addr} {od7 an7 : Option Addr} {sl7 : Array (Option Value)} {oc7 kV7 dc7 pm7 cd7 ct7 : Value} {a8 : Addr} {od8 an8 : Option Addr} {sl8 : Array (Option Value)} {oc8 kV8 dc8 pm8 cd8 ct8 : Value} {a9 : Addr} {od9 an9 : Option Addr} {sl9 : Array (Option Value)} {oc9 kV9 dc9 pm9 cd9 ct9 : Value} {a10 : Addr} {od10 an10 : Option Addr} {sl10 : Array (Option Value)} {oc10 kV10 dc10 pm10 cd10 ct10 : Value} {a11 : Addr} {od11 an11 : Option Addr} {sl11 : Array (Option Value)} {oc11 kV11 dc11 pm11 cd11 ct11 : Value} {a12 : Addr} {od12 an12 : Option Addr} {sl12 : Array (Option Value)} {oc12 kV12 dc12 pm12 cd12 ct12 : Value} {a13 : Addr} {od13 an13 : Option Addr} {sl13 : Array (Option Value)} {oc13 kV13 dc13 pm13 cd13 ct13 : Value} {a14 : Addr} {od14 an14 : Option Addr} {sl14 : Array (Option Value)} {oc14 kV14 dc14 pm14 cd14 ct14 : Value} {a15 : Addr} {od15 an15 : Option Addr} {sl15 : Array (Option Value)} {oc15 kV15 dc15 pm15 cd15 ct15 : Value} {a16 : Addr} {od16 an16 : Option Addr} {sl16 : Array (Option Value)} {oc16 kV16 dc16 pm16 cd16 ct16 : Value} {a17 : Addr} {od17 an17 : Option Addr} {sl17 : Array (Option Value)} {oc17 kV17 dc17 pm17 cd17 ct17 : Value} {a0 : Addr} {a1 : Addr} {a2 : Addr} {t_LIMIT : Tok}
    (n3 : PySem.W.nsIn K mainGlobals "ratio" = some (some (.ref a3)))
    (l3 : K.lookup a3 = some ⟨oc3, od3, .func (PySem.W.fnOf "ratio" "ratio" (defArgs s_ratio) (defBody s_ratio) (defScope s_ratio) .none kV3 dc3 pm3 an3 cd3 ct3), sl3⟩)
    (c3 : PySem.W.codeIn K cd3 "ratio" = true) (k3 : PySem.W.keepIn K (.ref a3) = true)
    (n4 : PySem.W.nsIn K mainGlobals "add" = some (some (.ref a4)))
    (l4 : K.lookup a4 = some ⟨oc4, od4, .func (PySem.W.fnOf "add" "add" (defArgs s_add) (defBody s_add) (defScope s_add) .none kV4 dc4 pm4 an4 cd4 ct4), sl4⟩)
    (c4 : PySem.W.codeIn K cd4 "add" = true) (k4 : PySem.W.keepIn K (.ref a4) = true)
    (n5 : PySem.W.nsIn K mainGlobals "subtract" = some (some (.ref a5)))
    (l5 : K.lookup a5 = some ⟨oc5, od5, .func (PySem.W.fnOf "subtract" "subtract" (defArgs s_subtract) (defBody s_subtract) (defScope s_subtract) .none kV5 dc5 pm5 an5 cd5 ct5), sl5⟩)
    (c5 : PySem.W.codeIn K cd5 "subtract" = true) (k5 : PySem.W.keepIn K (.ref a5) = true)
    (n6 : PySem.W.nsIn K mainGlobals "multiply" = some (some (.ref a6)))
    (l6 : K.lookup a6 = some ⟨oc6, od6, .func (PySem.W.fnOf "multiply" "multiply" (defArgs s_multiply) (defBody s_multiply) (defScope s_multiply) .none kV6 dc6 pm6 an6 cd6 ct6), sl6⟩)
    (c6 : PySem.W.codeIn K cd6 "multiply" = true) (k6 : PySem.W.keepIn K (.ref a6) = true)
    (n7 : PySem.W.nsIn K mainGlobals "divide" = some (some (.ref a7)))
    (l7 : K.lookup a7 = some ⟨oc7, od7, .func (PySem.W.fnOf "divide" "divide" (defArgs s_divide) (defBody s_divide) (defScope s_divide) .none kV7 dc7 pm7 an7 cd7 ct7), sl7⟩)
    (c7 : PySem.W.codeIn K cd7 "divide" = true) (k7 : PySem.W.keepIn K (.ref a7) = true)
    (n8 : PySem.W.nsIn K mainGlobals "_law_cell" = some (some (.ref a8)))
    (l8 : K.lookup a8 = some ⟨oc8, od8, .func (PySem.W.fnOf "_law_cell" "_law_cell" (defArgs s__law_cell) (defBody s__law_cell) (defScope s__law_cell) .none kV8 dc8 pm8 an8 cd8 ct8), sl8⟩)
    (c8 : PySem.W.codeIn K cd8 "_law_cell" = true) (k8 : PySem.W.keepIn K (.ref a8) = true)
    (n9 : PySem.W.nsIn K mainGlobals "_law_stream" = some (some (.ref a9)))
    (l9 : K.lookup a9 = some ⟨oc9, od9, .func (PySem.W.fnOf "_law_stream" "_law_stream" (defArgs s__law_stream) (defBody s__law_stream) (defScope s__law_stream) .none kV9 dc9 pm9 an9 cd9 ct9), sl9⟩)
    (c9 : PySem.W.codeIn K cd9 "_law_stream" = true) (k9 : PySem.W.keepIn K (.ref a9) = true)
    (n10 : PySem.W.nsIn K mainGlobals "_law_next" = some (some (.ref a10)))
    (l10 : K.lookup a10 = some ⟨oc10, od10, .func (PySem.W.fnOf "_law_next" "_law_next" (defArgs s__law_next) (defBody s__law_next) (defScope s__law_next) .none kV10 dc10 pm10 an10 cd10 ct10), sl10⟩)
    (c10 : PySem.W.codeIn K cd10 "_law_next" = true) (k10 : PySem.W.keepIn K (.ref a10) = true)
    (n11 : PySem.W.nsIn K mainGlobals "_law_is_integer" = some (some (.ref a11)))
    (l11 : K.lookup a11 = some ⟨oc11, od11, .func (PySem.W.fnOf "_law_is_integer" "_law_is_integer" (defArgs s__law_is_integer) (defBody s__law_is_integer) (defScope s__law_is_integer) .none kV11 dc11 pm11 an11 cd11 ct11), sl11⟩)
    (c11 : PySem.W.codeIn K cd11 "_law_is_integer" = true) (k11 : PySem.W.keepIn K (.ref a11) = true)
    (n12 : PySem.W.nsIn K mainGlobals "_law_ratio" = some (some (.ref a12)))
    (l12 : K.lookup a12 = some ⟨oc12, od12, .func (PySem.W.fnOf "_law_ratio" "_law_ratio" (defArgs s__law_ratio) (defBody s__law_ratio) (defScope s__law_ratio) .none kV12 dc12 pm12 an12 cd12 ct12), sl12⟩)
    (c12 : PySem.W.codeIn K cd12 "_law_ratio" = true) (k12 : PySem.W.keepIn K (.ref a12) = true)
    (n13 : PySem.W.nsIn K mainGlobals "_law_is_number" = some (some (.ref a13)))
    (l13 : K.lookup a13 = some ⟨oc13, od13, .func (PySem.W.fnOf "_law_is_number" "_law_is_number" (defArgs s__law_is_number) (defBody s__law_is_number) (defScope s__law_is_number) .none kV13 dc13 pm13 an13 cd13 ct13), sl13⟩)
    (c13 : PySem.W.codeIn K cd13 "_law_is_number" = true) (k13 : PySem.W.keepIn K (.ref a13) = true)
    (n14 : PySem.W.nsIn K mainGlobals "_law_drawn" = some (some (.ref a14)))
    (l14 : K.lookup a14 = some ⟨oc14, od14, .func (PySem.W.fnOf "_law_drawn" "_law_drawn" (defArgs s__law_drawn) (defBody s__law_drawn) (defScope s__law_drawn) .none kV14 dc14 pm14 an14 cd14 ct14), sl14⟩)
    (c14 : PySem.W.codeIn K cd14 "_law_drawn" = true) (k14 : PySem.W.keepIn K (.ref a14) = true)
    (n15 : PySem.W.nsIn K mainGlobals "_law_told" = some (some (.ref a15)))
    (l15 : K.lookup a15 = some ⟨oc15, od15, .func (PySem.W.fnOf "_law_told" "_law_told" (defArgs s__law_told) (defBody s__law_told) (defScope s__law_told) .none kV15 dc15 pm15 an15 cd15 ct15), sl15⟩)
    (c15 : PySem.W.codeIn K cd15 "_law_told" = true) (k15 : PySem.W.keepIn K (.ref a15) = true)
    (n16 : PySem.W.nsIn K mainGlobals "_law_holds" = some (some (.ref a16)))
    (l16 : K.lookup a16 = some ⟨oc16, od16, .func (PySem.W.fnOf "_law_holds" "_law_holds" (defArgs s__law_holds) (defBody s__law_holds) (defScope s__law_holds) .none kV16 dc16 pm16 an16 cd16 ct16), sl16⟩)
    (c16 : PySem.W.codeIn K cd16 "_law_holds" = true) (k16 : PySem.W.keepIn K (.ref a16) = true)
    (n17 : PySem.W.nsIn K mainGlobals "law" = some (some (.ref a17)))
    (l17 : K.lookup a17 = some ⟨oc17, od17, .func (PySem.W.fnOf "law" "law" (defArgs s_law) (defBody s_law) (defScope s_law) .none kV17 dc17 pm17 an17 cd17 ct17), sl17⟩)
    (c17 : PySem.W.codeIn K cd17 "law" = true) (k17 : PySem.W.keepIn K (.ref a17) = true)
    (xg0 : PySem.W.nsIn K mainGlobals "FontError" = some (some (.ref a0))) (xq0 : PySem.W.excIn K a0 [.type "ValueError", .type "Exception", .type "BaseException", .type "object"] "ValueError.__new__" = true) (xk0 : PySem.W.keepIn K (.ref a0) = true) (xt0 : PySem.W.typeIn K (.ref a0) = some (.type "type"))
    (xa0 : PySem.W.findIn K (.ref a0) "__getattribute__" = some (some (.builtin "BaseException.__getattribute__"))) (xb0 : PySem.W.findIn K (.ref a0) "__getattr__" = some none) (xc0 : PySem.W.subIn K (.ref a0) (.type "BaseException") = some true) (xd0 : PySem.W.hasDictIn K a0 = true)
    (xe0 : PySem.W.findIn K (.ref a0) "__class__" = some (some (.builtin "object.__class__"))) (xf0 : PySem.W.mroIn K a0 (.type "object") = some true) (xv0 : PySem.W.subIn K (.ref a0) (.type "ValueError") = some true)
    (xg1 : PySem.W.nsIn K mainGlobals "TooGreat" = some (some (.ref a1))) (xq1 : PySem.W.excIn K a1 [.type "ValueError", .type "Exception", .type "BaseException", .type "object"] "ValueError.__new__" = true) (xk1 : PySem.W.keepIn K (.ref a1) = true) (xt1 : PySem.W.typeIn K (.ref a1) = some (.type "type"))
    (xa1 : PySem.W.findIn K (.ref a1) "__getattribute__" = some (some (.builtin "BaseException.__getattribute__"))) (xb1 : PySem.W.findIn K (.ref a1) "__getattr__" = some none) (xc1 : PySem.W.subIn K (.ref a1) (.type "BaseException") = some true) (xd1 : PySem.W.hasDictIn K a1 = true)
    (xe1 : PySem.W.findIn K (.ref a1) "__class__" = some (some (.builtin "object.__class__"))) (xf1 : PySem.W.mroIn K a1 (.type "object") = some true) (xv1 : PySem.W.subIn K (.ref a1) (.type "ValueError") = some true)
    (xg2 : PySem.W.nsIn K mainGlobals "DivisionByZero" = some (some (.ref a2))) (xq2 : PySem.W.excIn K a2 [.type "ValueError", .type "Exception", .type "BaseException", .type "object"] "ValueError.__new__" = true) (xk2 : PySem.W.keepIn K (.ref a2) = true) (xt2 : PySem.W.typeIn K (.ref a2) = some (.type "type"))
    (xa2 : PySem.W.findIn K (.ref a2) "__getattribute__" = some (some (.builtin "BaseException.__getattribute__"))) (xb2 : PySem.W.findIn K (.ref a2) "__getattr__" = some none) (xc2 : PySem.W.subIn K (.ref a2) (.type "BaseException") = some true) (xd2 : PySem.W.hasDictIn K a2 = true)
    (xe2 : PySem.W.findIn K (.ref a2) "__class__" = some (some (.builtin "object.__class__"))) (xf2 : PySem.W.mroIn K a2 (.type "object") = some true) (xv2 : PySem.W.subIn K (.ref a2) (.type "ValueError") = some true)
    (xm : PySem.W.specialIn K (.builtin "object.__class__") "__get__" = some (some (.builtin "getset_descriptor.__get__"))) (xn : PySem.W.takesIn K (.builtin "object.__class__") = some true)
    (e0_0 : PySem.W.subIn K (.ref a0) (.ref a0) = some true)
    (e0_1 : PySem.W.subIn K (.ref a0) (.ref a1) = some false)
    (e0_2 : PySem.W.subIn K (.ref a0) (.ref a2) = some false)
    (e1_0 : PySem.W.subIn K (.ref a1) (.ref a0) = some true)
    (e1_1 : PySem.W.subIn K (.ref a1) (.ref a1) = some true)
    (e1_2 : PySem.W.subIn K (.ref a1) (.ref a2) = some false)
    (e2_0 : PySem.W.subIn K (.ref a2) (.ref a0) = some true)
    (e2_1 : PySem.W.subIn K (.ref a2) (.ref a1) = some false)
    (e2_2 : PySem.W.subIn K (.ref a2) (.ref a2) = some true)
    (z_abs : PySem.W.nsIn K mainGlobals "abs" = some none)
    (z_bool : PySem.W.nsIn K mainGlobals "bool" = some none)
    (z_int : PySem.W.nsIn K mainGlobals "int" = some none)
    (z_isinstance : PySem.W.nsIn K mainGlobals "isinstance" = some none)
    (z_len : PySem.W.nsIn K mainGlobals "len" = some none)
    (z_range : PySem.W.nsIn K mainGlobals "range" = some none)
    (z_tuple : PySem.W.nsIn K mainGlobals "tuple" = some none)
    (l_gcd : PySem.W.nsIn K mainGlobals "gcd" = some (some (.builtin "math.gcd")))
    (c_LIMIT : PySem.W.nsIn K mainGlobals "LIMIT" = some (some (.int (1000000000000000000) t_LIMIT)))
    : ∃ fd : FuncData, (∀ (s : Shared) (v : Value), BindsTo s fd ⟨[v], []⟩ [("script", v)]) ∧ ∀ base : Heap, K.In base → base.Ns mainGlobals mg → FnOk l.prog w K mg base CX0 5 fa fd ["script"] (sp_law K) := by
  have e := hfa.symm.trans (PySem.W.mg_of X G n17)
  cases e
  have F3 := fun_mk (st := s_ratio) l3 c3 k3
  have b3 := F3.binds (ps := ["n", "d"]) fun _ _ _ _ _ _ us hl => match us, hl with | [_, _], _ => rfl
  have F4 := fun_mk (st := s_add) l4 c4 k4
  have b4 := F4.binds (ps := ["a", "b"]) fun _ _ _ _ _ _ us hl => match us, hl with | [_, _], _ => rfl
  have F5 := fun_mk (st := s_subtract) l5 c5 k5
  have b5 := F5.binds (ps := ["a", "b"]) fun _ _ _ _ _ _ us hl => match us, hl with | [_, _], _ => rfl
  have F6 := fun_mk (st := s_multiply) l6 c6 k6
  have b6 := F6.binds (ps := ["a", "b"]) fun _ _ _ _ _ _ us hl => match us, hl with | [_, _], _ => rfl
  have F7 := fun_mk (st := s_divide) l7 c7 k7
  have b7 := F7.binds (ps := ["a", "b"]) fun _ _ _ _ _ _ us hl => match us, hl with | [_, _], _ => rfl
  have F8 := fun_mk (st := s__law_cell) l8 c8 k8
  have b8 := F8.binds (ps := ["script", "k"]) fun _ _ _ _ _ _ us hl => match us, hl with | [_, _], _ => rfl
  have F9 := fun_mk (st := s__law_stream) l9 c9 k9
  have b9 := F9.binds (ps := ["cell"]) fun _ _ _ _ _ _ us hl => match us, hl with | [_], _ => rfl
  have F10 := fun_mk (st := s__law_next) l10 c10 k10
  have b10 := F10.binds (ps := ["stream", "size"]) fun _ _ _ _ _ _ us hl => match us, hl with | [_, _], _ => rfl
  have F11 := fun_mk (st := s__law_is_integer) l11 c11 k11
  have b11 := F11.binds (ps := ["actual"]) fun _ _ _ _ _ _ us hl => match us, hl with | [_], _ => rfl
  have F12 := fun_mk (st := s__law_ratio) l12 c12 k12
  have b12 := F12.binds (ps := ["n", "d"]) fun _ _ _ _ _ _ us hl => match us, hl with | [_, _], _ => rfl
  have F13 := fun_mk (st := s__law_is_number) l13 c13 k13
  have b13 := F13.binds (ps := ["actual"]) fun _ _ _ _ _ _ us hl => match us, hl with | [_], _ => rfl
  have F14 := fun_mk (st := s__law_drawn) l14 c14 k14
  have b14 := F14.binds (ps := ["stream"]) fun _ _ _ _ _ _ us hl => match us, hl with | [_], _ => rfl
  have F15 := fun_mk (st := s__law_told) l15 c15 k15
  have b15 := F15.binds (ps := ["kind", "a", "b"]) fun _ _ _ _ _ _ us hl => match us, hl with | [_, _, _], _ => rfl
  have F16 := fun_mk (st := s__law_holds) l16 c16 k16
  have b16 := F16.binds (ps := ["kind", "a", "b"]) fun _ _ _ _ _ _ us hl => match us, hl with | [_, _, _], _ => rfl
  have F17 := fun_mk (st := s_law) l17 c17 k17
  have b17 := F17.binds (ps := ["script"]) fun _ _ _ _ _ _ us hl => match us, hl with | [_], _ => rfl
  let A : Nat → Addr := fun | 0 => a0 | 1 => a1 | 2 => a2 | 3 => a3 | 4 => a4 | 5 => a5 | 6 => a6 | 7 => a7 | 8 => a8 | 9 => a9 | 10 => a10 | 11 => a11 | 12 => a12 | 13 => a13 | 14 => a14 | 15 => a15 | 16 => a16 | 17 => fa | _ => 0
  let D : Nat → FuncData := fun | 3 => PySem.W.fnOf "ratio" "ratio" (defArgs s_ratio) (defBody s_ratio) (defScope s_ratio) .none kV3 dc3 pm3 an3 cd3 ct3 | 4 => PySem.W.fnOf "add" "add" (defArgs s_add) (defBody s_add) (defScope s_add) .none kV4 dc4 pm4 an4 cd4 ct4 | 5 => PySem.W.fnOf "subtract" "subtract" (defArgs s_subtract) (defBody s_subtract) (defScope s_subtract) .none kV5 dc5 pm5 an5 cd5 ct5 | 6 => PySem.W.fnOf "multiply" "multiply" (defArgs s_multiply) (defBody s_multiply) (defScope s_multiply) .none kV6 dc6 pm6 an6 cd6 ct6 | 7 => PySem.W.fnOf "divide" "divide" (defArgs s_divide) (defBody s_divide) (defScope s_divide) .none kV7 dc7 pm7 an7 cd7 ct7 | 8 => PySem.W.fnOf "_law_cell" "_law_cell" (defArgs s__law_cell) (defBody s__law_cell) (defScope s__law_cell) .none kV8 dc8 pm8 an8 cd8 ct8 | 9 => PySem.W.fnOf "_law_stream" "_law_stream" (defArgs s__law_stream) (defBody s__law_stream) (defScope s__law_stream) .none kV9 dc9 pm9 an9 cd9 ct9 | 10 => PySem.W.fnOf "_law_next" "_law_next" (defArgs s__law_next) (defBody s__law_next) (defScope s__law_next) .none kV10 dc10 pm10 an10 cd10 ct10 | 11 => PySem.W.fnOf "_law_is_integer" "_law_is_integer" (defArgs s__law_is_integer) (defBody s__law_is_integer) (defScope s__law_is_integer) .none kV11 dc11 pm11 an11 cd11 ct11 | 12 => PySem.W.fnOf "_law_ratio" "_law_ratio" (defArgs s__law_ratio) (defBody s__law_ratio) (defScope s__law_ratio) .none kV12 dc12 pm12 an12 cd12 ct12 | 13 => PySem.W.fnOf "_law_is_number" "_law_is_number" (defArgs s__law_is_number) (defBody s__law_is_number) (defScope s__law_is_number) .none kV13 dc13 pm13 an13 cd13 ct13 | 14 => PySem.W.fnOf "_law_drawn" "_law_drawn" (defArgs s__law_drawn) (defBody s__law_drawn) (defScope s__law_drawn) .none kV14 dc14 pm14 an14 cd14 ct14 | 15 => PySem.W.fnOf "_law_told" "_law_told" (defArgs s__law_told) (defBody s__law_told) (defScope s__law_told) .none kV15 dc15 pm15 an15 cd15 ct15 | 16 => PySem.W.fnOf "_law_holds" "_law_holds" (defArgs s__law_holds) (defBody s__law_holds) (defScope s__law_holds) .none kV16 dc16 pm16 an16 cd16 ct16 | _ => PySem.W.fnOf "law" "law" (defArgs s_law) (defBody s_law) (defScope s_law) .none kV17 dc17 pm17 an17 cd17 ct17
  have T : Txt K mg A D :=
    {F_ratio := F3,
     m_ratio := PySem.W.mg_of X G n3,
     b_ratio := b3,
     F_add := F4,
     m_add := PySem.W.mg_of X G n4,
     b_add := b4,
     F_subtract := F5,
     m_subtract := PySem.W.mg_of X G n5,
     b_subtract := b5,
     F_multiply := F6,
     m_multiply := PySem.W.mg_of X G n6,
     b_multiply := b6,
     F_divide := F7,
     m_divide := PySem.W.mg_of X G n7,
     b_divide := b7,
     F__law_cell := F8,
     m__law_cell := PySem.W.mg_of X G n8,
     b__law_cell := b8,
     F__law_stream := F9,
     m__law_stream := PySem.W.mg_of X G n9,
     b__law_stream := b9,
     F__law_next := F10,
     m__law_next := PySem.W.mg_of X G n10,
     b__law_next := b10,
     F__law_is_integer := F11,
     m__law_is_integer := PySem.W.mg_of X G n11,
     b__law_is_integer := b11,
     F__law_ratio := F12,
     m__law_ratio := PySem.W.mg_of X G n12,
     b__law_ratio := b12,
     F__law_is_number := F13,
     m__law_is_number := PySem.W.mg_of X G n13,
     b__law_is_number := b13,
     F__law_drawn := F14,
     m__law_drawn := PySem.W.mg_of X G n14,
     b__law_drawn := b14,
     F__law_told := F15,
     m__law_told := PySem.W.mg_of X G n15,
     b__law_told := b15,
     F__law_holds := F16,
     m__law_holds := PySem.W.mg_of X G n16,
     b__law_holds := b16,
     F_law := F17,
     m_law := PySem.W.mg_of X G n17,
     b_law := b17,
     x_FontError := ⟨PySem.W.mg_of X G xg0, xq0, xk0, xt0, ⟨xa0, xb0, xc0, xd0, xe0, xm, xn, xf0⟩, xv0⟩,
     x_TooGreat := ⟨PySem.W.mg_of X G xg1, xq1, xk1, xt1, ⟨xa1, xb1, xc1, xd1, xe1, xm, xn, xf1⟩, xv1⟩,
     x_DivisionByZero := ⟨PySem.W.mg_of X G xg2, xq2, xk2, xt2, ⟨xa2, xb2, xc2, xd2, xe2, xm, xn, xf2⟩, xv2⟩,
     e_FontError_FontError := e0_0,
     e_FontError_TooGreat := e0_1,
     e_FontError_DivisionByZero := e0_2,
     e_TooGreat_FontError := e1_0,
     e_TooGreat_TooGreat := e1_1,
     e_TooGreat_DivisionByZero := e1_2,
     e_DivisionByZero_FontError := e2_0,
     e_DivisionByZero_TooGreat := e2_1,
     e_DivisionByZero_DivisionByZero := e2_2,
     z_abs := PySem.W.mg_none_of X G z_abs,
     z_bool := PySem.W.mg_none_of X G z_bool,
     z_int := PySem.W.mg_none_of X G z_int,
     z_isinstance := PySem.W.mg_none_of X G z_isinstance,
     z_len := PySem.W.mg_none_of X G z_len,
     z_range := PySem.W.mg_none_of X G z_range,
     z_tuple := PySem.W.mg_none_of X G z_tuple,
     l_gcd := PySem.W.mg_of X G l_gcd,
     c_LIMIT := ⟨_, PySem.W.mg_of X G c_LIMIT, _, rfl⟩}
  exact ⟨_, fun s v => .of_eq rfl, fun base _ _ => ok_law T⟩
end G
open PySem PySem.W PyProof.Rows
set_option maxRecDepth 100000 in
set_option maxHeartbeats 0 in
theorem PySem.Challenge.cw_fontwinding_k02_four_operations_holds : PySem.Challenge.rw_fontwinding_k02_four_operations.Holds := by
  w_on; o_law; k_head; (case hw => w_witness2)
  k_fill
  refine L2.walk_of (l := PySem.Challenge.rw_fontwinding_k02_four_operations) (n := 63) (k := 5) (x := "script") (CX := fun _ => L2.CX0) (sp := fun w => G.sp_law _) rfl (by decide) rfl ⟨rfl, by decide, by decide⟩ (fun w h Y => PySem.W.kIn_of Y) ?F (fun _ _ a ns hl _ hS => ⟨a, ns, rfl, hS, hl, fun _ => rfl⟩) (fun _ _ _ _ _ h => h)
  case F =>
    intro w mg fa h KX G0 hmg
    refine' G.all_mk KX G0 hmg ?n3 ?l3 ?c3 ?k3 ?n4 ?l4 ?c4 ?k4 ?n5 ?l5 ?c5 ?k5 ?n6 ?l6 ?c6 ?k6 ?n7 ?l7 ?c7 ?k7 ?n8 ?l8 ?c8 ?k8 ?n9 ?l9 ?c9 ?k9 ?n10 ?l10 ?c10 ?k10 ?n11 ?l11 ?c11 ?k11 ?n12 ?l12 ?c12 ?k12 ?n13 ?l13 ?c13 ?k13 ?n14 ?l14 ?c14 ?k14 ?n15 ?l15 ?c15 ?k15 ?n16 ?l16 ?c16 ?k16 ?n17 ?l17 ?c17 ?k17 ?xg0 ?xq0 ?xk0 ?xt0 ?xa0 ?xb0 ?xc0 ?xd0 ?xe0 ?xf0 ?xv0 ?xg1 ?xq1 ?xk1 ?xt1 ?xa1 ?xb1 ?xc1 ?xd1 ?xe1 ?xf1 ?xv1 ?xg2 ?xq2 ?xk2 ?xt2 ?xa2 ?xb2 ?xc2 ?xd2 ?xe2 ?xf2 ?xv2 ?xm ?xn ?e0_0 ?e0_1 ?e0_2 ?e1_0 ?e1_1 ?e1_2 ?e2_0 ?e2_1 ?e2_2 ?z_abs ?z_bool ?z_int ?z_isinstance ?z_len ?z_range ?z_tuple ?l_gcd ?c_LIMIT
    (case n3 => k_is)
    (case l3 => k_is)
    (case c3 => k_is)
    (case k3 => k_is)
    (case n4 => k_is)
    (case l4 => k_is)
    (case c4 => k_is)
    (case k4 => k_is)
    (case n5 => k_is)
    (case l5 => k_is)
    (case c5 => k_is)
    (case k5 => k_is)
    (case n6 => k_is)
    (case l6 => k_is)
    (case c6 => k_is)
    (case k6 => k_is)
    (case n7 => k_is)
    (case l7 => k_is)
    (case c7 => k_is)
    (case k7 => k_is)
    (case n8 => k_is)
    (case l8 => k_is)
    (case c8 => k_is)
    (case k8 => k_is)
    (case n9 => k_is)
    (case l9 => k_is)
    (case c9 => k_is)
    (case k9 => k_is)
    (case n10 => k_is)
    (case l10 => k_is)
    (case c10 => k_is)
    (case k10 => k_is)
    (case n11 => k_is)
    (case l11 => k_is)
    (case c11 => k_is)
    (case k11 => k_is)
    (case n12 => k_is)
    (case l12 => k_is)
    (case c12 => k_is)
    (case k12 => k_is)
    (case n13 => k_is)
    (case l13 => k_is)
    (case c13 => k_is)
    (case k13 => k_is)
    (case n14 => k_is)
    (case l14 => k_is)
    (case c14 => k_is)
    (case k14 => k_is)
    (case n15 => k_is)
    (case l15 => k_is)
    (case c15 => k_is)
    (case k15 => k_is)
    (case n16 => k_is)
    (case l16 => k_is)
    (case c16 => k_is)
    (case k16 => k_is)
    (case n17 => k_is)
    (case l17 => k_is)
    (case c17 => k_is)
    (case k17 => k_is)
    (case xg0 => k_is)
    (case xq0 => k_exc)
    (case xk0 => k_is)
    (case xt0 => k_is)
    (case xa0 => k_is)
    (case xb0 => k_is)
    (case xc0 => k_is)
    (case xd0 => k_is)
    (case xe0 => k_is)
    (case xf0 => k_is)
    (case xv0 => k_is)
    (case xg1 => k_is)
    (case xq1 => k_exc)
    (case xk1 => k_is)
    (case xt1 => k_is)
    (case xa1 => k_is)
    (case xb1 => k_is)
    (case xc1 => k_is)
    (case xd1 => k_is)
    (case xe1 => k_is)
    (case xf1 => k_is)
    (case xv1 => k_is)
    (case xg2 => k_is)
    (case xq2 => k_exc)
    (case xk2 => k_is)
    (case xt2 => k_is)
    (case xa2 => k_is)
    (case xb2 => k_is)
    (case xc2 => k_is)
    (case xd2 => k_is)
    (case xe2 => k_is)
    (case xf2 => k_is)
    (case xv2 => k_is)
    (case xm => k_is)
    (case xn => k_is)
    (case e0_0 => k_is)
    (case e0_1 => k_is)
    (case e0_2 => k_is)
    (case e1_0 => k_is)
    (case e1_1 => k_is)
    (case e1_2 => k_is)
    (case e2_0 => k_is)
    (case e2_1 => k_is)
    (case e2_2 => k_is)
    (case z_abs => k_is)
    (case z_bool => k_is)
    (case z_int => k_is)
    (case z_isinstance => k_is)
    (case z_len => k_is)
    (case z_range => k_is)
    (case z_tuple => k_is)
    (case l_gcd => k_is)
    (case c_LIMIT => k_is)
