import PyProof.Rows.All
import Wide.All
import OpenK.AllK
import Wide.FinOn
import HandS.ForMost
import HandS.ForExc
import HandS.Wide
import HandS.Gcd
import HandS.IsInst
import HandS.ExcIs
import HandS.TryMany
import HandS.Evl
import PySem.Challenge.RW_fontwinding_k11_composed_and_inverted
set_option Elab.async false
set_option linter.all false
set_option maxRecDepth 100000
set_option maxHeartbeats 4000000
namespace Z
open PySem PySem.Spec PyProof.Rows L2

/-! ### operators -/
section
variable {X : Cx}
def CFd (_ j : Int) : Prop := j ≠ 0 ∧ j.natAbs.log2 < 9000
theorem op_fdivZ : OpR X (binaryOp .FloorDiv) (rI CFd fun i j => .int (i.fdiv j)) := opI fun i j _ _ _ _ _ hc q => floordiv_int hc.1 q (.inl (PyProof.noPylong_of_log2 hc.2))
theorem pe_globE {x : Str} {pos : Pos} {v : V} (h : ∃ u, X.mg x = some u ∧ RelV v u) (hg : Gl X x := by rfl) (hdb : (x == ("__debug__" : Str)) = false := by decide) : PE X (.Name x pos) (tC v) := by
  obtain ⟨u, h1, h2⟩ := h
  exact pe_glob hg h1 h2 hdb
theorem pe_globR {x : Str} {pos : Pos} {a : Addr} (h : X.mg x = some (.ref a)) (hg : Gl X x := by rfl) (hdb : (x == ("__debug__" : Str)) = false := by decide) : PE X (.Name x pos) (tC (.ref a)) := pe_glob hg h rfl hdb
end
/-- an own error class over ValueError -/
structure ExcX (K : PySem.W.Frag) (mg : Str → Option Value) (x : Str) (C : Addr) : Prop where
  g : mg x = some (.ref C)
  q : PySem.W.excIn K C [.type "ValueError", .type "Exception", .type "BaseException", .type "object"] "ValueError.__new__" = true
  k : PySem.W.keepIn K (.ref C) = true
  t : PySem.W.typeIn K (.ref C) = some (.type "type")
  c : ExcC K C
  v : PySem.W.subIn K (.ref C) (.type "ValueError") = some true
section
variable {X : Cx} {C D : Addr} {K : PySem.W.Frag} {mg : Str → Option Value} {x y : Str} {b : Bool}
theorem pmk {m : Str} {j : Nat} {p p2 pos : Pos} (E : ExcX X.K X.mg x C) (hg : Gl X x) (hdb : (x == ("__debug__" : Str)) = false := by decide) :
    PMk X (.Call (.Name x p) [.Constant (.str m) j p2] [] pos) (fun _ H Q => Q (.ref C) none H) := pmk_own PySem.F.excBase_ValueError E.q E.g E.k (raises_own E.c.hs E.t) hg hdb
theorem exm (E : ExcX K mg x C) (h : PySem.W.subIn K (.ref D) (.ref C) = some b) : PySem.W.exmOne K (.ref D) (.ref C) = some b := PySem.W.exm_ref E.c.hs E.c.hd E.t h
theorem kit_own (E : ExcX K mg x C) (h : PySem.W.subIn K (.ref D) (.ref C) = some b) (hs : PySem.W.subIn K (.ref C) (.ref C) = some true) : PySem.W.kitOne K (.ref D) (.ref C) = some b := by
  unfold PySem.W.kitOne
  by_cases e : D = C
  · subst e
    rw [hs] at h
    cases h
    rw [if_pos (by simp)]
  · rw [if_neg (by simpa using e)]
    unfold PySem.W.kitCls
    obtain ⟨cd, hc, _⟩ := PySem.W.any_some E.c.hd
    have e2 : ((PySem.W.clsIn K C).isSome && PySem.W.typeIn K (.ref C) == some (.type "type")) = true := by rw [hc, E.t] <;> rfl
    show (if _ then _ else _) = _
    rw [if_pos e2, h]
theorem kit_ve (E : ExcX K mg x D) : PySem.W.kitOne K (.ref D) (.type "ValueError") = some true := by
  unfold PySem.W.kitOne
  rw [if_neg (by simp)]
  unfold PySem.W.kitCls
  show (if _ then _ else _) = _
  rw [if_pos (by decide +kernel), E.v]
/-- isinstance of the error that a suite holds -/
def rIsEx (K : PySem.W.Frag) (cls : Value) (d : Option Addr) (a : Addr) : List V → Hp → VK → Prop := fun xs H Q => ∃ D, cls = .ref D ∧ d = none ∧ ExcC K D ∧ rIsE K D a xs H Q
theorem call_isE {a : Addr} {oe : Obj} {cls : Value} {d : Option Addr} {pn : List (Addr × Obj)} (hz : Zc cls d oe) (hf : ∃ vs, oe.data = .fields vs) : CallR (X.suite a ((a, oe) :: pn)) (.builtin "isinstance") (rIsEx X.K cls d a) := by
  intro pins s σ H xs us Q I r h
  obtain ⟨D, e1, e2, c, h⟩ := h
  subst e1
  subst e2
  exact L2.call_isE c hz hf pins s σ H xs us Q I r h
end

/-! ### heaps -/
theorem same_upd {H : Hp} {p : Addr} {o : HO} (h : H p = none) : Same H (upd H p o) := fun b x e => by
  rw [upd_ne (ne_of_none e h)]
  exact e
theorem Same.seqT {K : PySem.W.Frag} {H H' : Hp} {a : Addr} {xs : List V} (e : Same H H') (h : SqT K H a xs) : SqT K H' a xs := by
  rcases h with (h | ⟨o, h⟩) | h
  · exact .inl (.inl (e _ _ h))
  · exact .inl (.inr ⟨o, e _ _ h⟩)
  · exact .inr h
theorem seqT {K : PySem.W.Frag} {H H' : Hp} {a : Addr} {xs : List V} (e : Same H H') (h : SqT K H a xs) : SqT K H' a xs := Same.seqT e h
theorem sz {n : Nat} (h : n ≤ 1000) : n ≤ sizeLine := Nat.le_trans h (by decide)

/-! ### readings, step by step -/
def NewT (Q : VK) : List V → Hp → Prop := fun xs H1 => xs.length ≤ sizeLine ∧ ∀ p, H1 p = none → Q (.ref p) (upd H1 p (.tup xs))
def NewL (Q : VK) : List V → Hp → Prop := fun xs H1 => xs.length ≤ sizeLine ∧ ∀ p, H1 p = none → Q (.ref p) (upd H1 p (.lst xs))
section
variable {σ : L2.St} {H : Hp} {n : L2.St → Hp → Prop} {r : VK} {b c : L2.St → Hp → Prop} {t u : TS} {te ta tb : TE} {tt tu : TT} {Q : VK} {QB : Bool → Hp → Prop} {v w x y : V} {i j : Int} {K : PySem.W.Frag}
theorem z_seq (h : t ⟨u ⟨n, r, b, c⟩, r, b, c⟩ σ H) : tSeq t u ⟨n, r, b, c⟩ σ H := h
theorem z_asg {k : Nat} (h : te σ H fun x H1 => n (σ.set k (some x)) H1) : tAsg te (gName k) ⟨n, r, b, c⟩ σ H := h
theorem z_asgS {to ti : TE} {st : TSet} (h : te σ H fun v H0 => to σ H0 fun o H1 => ti σ H1 fun k H2 => st o k v H2 fun H3 => n σ H3) : tAsg te (gSub to ti st) ⟨n, r, b, c⟩ σ H := h
theorem z_drop (h : te σ H fun _ H1 => n σ H1) : tDrop te ⟨n, r, b, c⟩ σ H := h
theorem z_ret (h : te σ H r) : tRet te ⟨n, r, b, c⟩ σ H := h
theorem z_retN (h : r .non H) : tRetN ⟨n, r, b, c⟩ σ H := h
theorem z_next (h : n σ H) : tNext ⟨n, r, b, c⟩ σ H := h
theorem z_brk (h : b σ H) : tBreak ⟨n, r, b, c⟩ σ H := h
theorem z_cont (h : c σ H) : tCont ⟨n, r, b, c⟩ σ H := h
theorem z_ifs (h : tt σ H fun k H1 => if k = true then t ⟨n, r, b, c⟩ σ H1 else u ⟨n, r, b, c⟩ σ H1) : tIfS tt t u ⟨n, r, b, c⟩ σ H := h
theorem z_par {p q : Nat} {tl : TA} (h : tl σ H fun vs H1 => ∃ v w, vs = [v, w] ∧ n ((σ.set p (some v)).set q (some w)) H1) : tPar p q tl ⟨n, r, b, c⟩ σ H := h
theorem z_two {R : V → V → Prop} (h : R v w) : ∃ v' w', [v, w] = [v', w'] ∧ R v' w' := ⟨v, w, rfl, h⟩
theorem z_aug {k : Nat} {ti : TIp} (h : σ[k]? = some (some x)) (q : te σ H fun y H1 => ti x y H1 fun z H2 => n (σ.set k (some z)) H2) : tAug k te ti ⟨n, r, b, c⟩ σ H := ⟨x, h, q⟩
theorem z_ipI {f : Int → Int → Int} (q : Q (.int (f i j)) H) : ipI f (.int i) (.int j) H Q := ⟨i, j, rfl, rfl, q⟩
theorem z_var {k : Nat} (h : σ[k]? = some (some v)) (q : Q v H) : tVar k σ H Q := ⟨v, h, q⟩
theorem z_c (q : Q v H) : tC v σ H Q := q
theorem z_op {g : R2} (h : ta σ H fun x H1 => tb σ H1 fun y H2 => g x y H2 Q) : tOp g ta tb σ H Q := h
theorem z_un {g : V → Hp → VK → Prop} (h : ta σ H fun x H1 => g x H1 Q) : tUn g ta σ H Q := h
theorem z_I0 {g : Int → Int → V} (q : Q (g i j) H) : rI0 g (.int i) (.int j) H Q := ⟨i, j, rfl, rfl, q⟩
theorem z_I {C : Int → Int → Prop} {g : Int → Int → V} (hc : C i j) (q : Q (g i j) H) : rI C g (.int i) (.int j) H Q := ⟨i, j, rfl, rfl, hc, q⟩
theorem z_U {g : Int → V} (q : Q (g i) H) : rU g (.int i) H Q := ⟨i, rfl, q⟩
theorem z_eqI (q : Q (.bl (decide (i = j))) H) : rEq (.int i) (.int j) H Q := ⟨rfl, by rw [show decide (V.int i = V.int j) = decide (i = j) by simp]; exact q⟩
theorem z_neI (q : Q (.bl (decide (¬ i = j))) H) : rNe (.int i) (.int j) H Q := ⟨rfl, by rw [show (!decide (V.int i = V.int j)) = decide (¬ i = j) by simp]; exact q⟩
theorem z_eq (h : scal x y = true) (q : Q (.bl (decide (x = y))) H) : rEq x y H Q := ⟨h, q⟩
theorem z_test (h : te σ H fun x H1 => ∃ k, x = .bl k ∧ QB k H1) : tTest te σ H QB := h
theorem z_tB (h : te σ H fun x H1 => ∃ k, x = .bl k ∧ QB k H1) : tB te σ H QB := h
theorem z_bl {k : Bool} {R : Bool → Prop} (q : R k) : ∃ k', V.bl k = V.bl k' ∧ R k' := ⟨k, rfl, q⟩
theorem z_notT (h : tt σ H fun k H1 => QB (!k) H1) : tNot tt σ H QB := h
theorem z_andT (h : tt σ H fun k H1 => if k = true then tu σ H1 QB else QB false H1) : tAnd tt tu σ H QB := h
theorem z_orT (h : tt σ H fun k H1 => if k = true then QB true H1 else tu σ H1 QB) : tOr tt tu σ H QB := h
theorem z_andV (h : ta σ H fun x H1 => ∃ k, x = .bl k ∧ if k = true then tb σ H1 Q else Q (.bl false) H1) : tAndV ta tb σ H Q := h
theorem z_orV (h : ta σ H fun x H1 => ∃ k, x = .bl k ∧ if k = true then Q (.bl true) H1 else tb σ H1 Q) : tOrV ta tb σ H Q := h
theorem z_notV (h : ta σ H fun x H1 => ∃ k, x = .bl k ∧ Q (.bl (!k)) H1) : tNotV ta σ H Q := h
theorem z_ifE (h : tt σ H fun k H1 => if k = true then ta σ H1 Q else tb σ H1 Q) : tIf tt ta tb σ H Q := h
theorem z_chain {g g' : R2} {tc : TE} (h : ta σ H fun x H1 => tb σ H1 fun y H2 => g x y H2 fun z H3 => ∃ k, z = .bl k ∧ (if k = true then tc σ H3 fun w' H4 => g' y w' H4 Q else Q (.bl false) H3)) : tChain g g' ta tb tc σ H Q := h
theorem z_nil {R : List V → Hp → Prop} (q : R [] H) : tNil σ H R := q
theorem z_cons {tr : TA} {R : List V → Hp → Prop} (h : ta σ H fun x H1 => tr σ H1 fun xs H2 => R (x :: xs) H2) : tCons ta tr σ H R := h
theorem z_tup {tl : TA} (h : tl σ H (NewT Q)) : tTup tl σ H Q := h
theorem z_lst {tl : TA} (h : tl σ H (NewL Q)) : tLst tl σ H Q := h
theorem z_newT {xs : List V} (hl : xs.length ≤ 1000) (q : ∀ p H', H p = none → Same H H' → H' p = some (.tup xs) → Q (.ref p) H') : NewT Q xs H := ⟨sz hl, fun p hp => q p _ hp (same_upd hp) upd_same⟩
theorem z_newL {xs : List V} (hl : xs.length ≤ 1000) (q : ∀ p H', H p = none → Same H H' → H' p = some (.lst xs) → Q (.ref p) H') : NewL Q xs H := ⟨sz hl, fun p hp => q p _ hp (same_upd hp) upd_same⟩
theorem z_cb {g : List V → Hp → VK → Prop} {tl : TA} (h : tl σ H fun vs H1 => g vs H1 Q) : tCB g tl σ H Q := h
theorem z_call {sp : Sp} {E : XK} {tl : TA} (h : tl σ H fun vs H1 => sp vs H1 Q E) : tCall sp [] E tl σ H Q := by
  unfold tCall
  simpa only [List.append_nil] using h
theorem z_callS {sp : Sp} {E : L2.St → XK} {tl : TA} (h : tl σ H fun vs H1 => sp vs H1 Q (E σ)) : tCallS sp E tl σ H Q := h
theorem z_ixL {p : Addr} {xs : List V} (h : SqL K H p xs) (ha : atI xs i = some v) (q : Q v H) : rIxL K (.ref p) (.int i) H Q := ⟨p, xs, i, v, rfl, rfl, h, ha, q⟩
theorem z_ixT {p : Addr} {xs : List V} (h : SqT K H p xs) (ha : atI xs i = some v) (q : Q v H) : rIxT K (.ref p) (.int i) H Q := ⟨p, xs, i, v, rfl, rfl, h, ha, q⟩
theorem z_setL {p : Addr} {xs : List V} {k : Nat} {R : Hp → Prop} (h : H p = some (.lst xs)) (hk : ixN xs.length i = some k) (q : R (upd H p (.lst (xs.set k v)))) : rSetL (.ref p) (.int i) v H R := ⟨p, xs, i, k, rfl, rfl, h, hk, q⟩
theorem z_if {p : Prop} [Decidable p] {A B : Prop} (h1 : p → A) (h2 : ¬ p → B) : if decide p = true then A else B := by
  by_cases h : p
  · rw [if_pos (decide_eq_true h)]
    exact h1 h
  · rw [if_neg (by simpa using h)]
    exact h2 h
theorem z_ifB {k : Bool} {A B : Prop} (h1 : k = true → A) (h2 : k = false → B) : if k = true then A else B := by
  cases k with
  | true => exact h1 rfl
  | false => exact h2 rfl
/-- and, or, not of a test whose answer is known, the heap as it was -/
theorem z_andK {k k' : Bool} (h : k = true → ∀ R : Bool → Hp → Prop, R k' H → tu σ H R) (q : QB (k && k') H) : if k = true then tu σ H QB else QB false H := by
  cases k with
  | true => exact h rfl QB q
  | false => exact q
theorem z_orK {k k' : Bool} (h : k = false → ∀ R : Bool → Hp → Prop, R k' H → tu σ H R) (q : QB (k || k') H) : if k = true then QB true H else tu σ H QB := by
  cases k with
  | true => exact q
  | false => exact h rfl QB q
theorem z_andKV {k k' : Bool} (h : k = true → ∀ R : VK, R (.bl k') H → tb σ H R) (q : Q (.bl (k && k')) H) : if k = true then tb σ H Q else Q (.bl false) H := by
  cases k with
  | true => exact h rfl Q q
  | false => exact q
theorem z_orKV {k k' : Bool} (h : k = false → ∀ R : VK, R (.bl k') H → tb σ H R) (q : Q (.bl (k || k')) H) : if k = true then Q (.bl true) H else tb σ H Q := by
  cases k with
  | true => exact q
  | false => exact h rfl Q q
/-- the second comparison of a chain -/
theorem z_chK {k k' : Bool} {tc : TE} {g' : R2} (h : k = true → ∀ R : VK, R (.bl k') H → tc σ H fun w' H4 => g' y w' H4 R) (q : Q (.bl (k && k')) H) :
    if k = true then tc σ H fun w' H4 => g' y w' H4 Q else Q (.bl false) H := by
  cases k with
  | true => exact h rfl Q q
  | false => exact q
theorem z_ty {x : V} {t : String} {T : String} {k : Bool} {H : Hp} {Q : VK} (h : TyX K H x (.type t)) (e : kitB t T = some k) (q : Q (.bl k) H) : rIsi K [x, .ty T] H Q := ⟨x, .ty T, .type t, .type T, k, rfl, .ty T, h, kit_ty e, q⟩
end
end Z
namespace Z
open PySem PySem.Spec PyProof.Rows L2
theorem pe_powc {X : Cx} {a b v : Int} {j1 j2 : Nat} {p1 p2 pos : Pos} (h0 : CPow a b) (hv : a ^ b.toNat = v) : PE X (.BinOp (.Constant (.int a) j1 p1) .Pow (.Constant (.int b) j2 p2) pos) (tC (.int v)) := by
  subst hv
  exact ⟨fun pins s σ H Q I h => (pe_op op_pow pe_int pe_int).run pins s σ H Q I ⟨a, b, rfl, rfl, h0, h⟩⟩
def rInt1 : List V → Hp → VK → Prop := fun xs H Q => (∃ i, xs = [.int i] ∧ Q (.int i) H) ∨ ∃ k, xs = [.bl k] ∧ Q (.int (if k then 1 else 0)) H
def rAbs : List V → Hp → VK → Prop := fun xs H Q => ∃ i, xs = [.int i] ∧ Q (.int (if i < 0 then -i else i)) H
def rLen (K : PySem.W.Frag) : List V → Hp → VK → Prop := fun xs H Q => ∃ p ys, xs = [.ref p] ∧ (SqL K H p ys ∨ SqT K H p ys) ∧ Q (.int ys.length) H
theorem c_int {X : Cx} : CallR X (.type "int") rInt1 := call_int1
theorem c_abs {X : Cx} : CallR X (.builtin "abs") rAbs := call_abs
theorem c_len {X : Cx} : CallR X (.builtin "len") (rLen X.K) := call_len_seq
section
variable {H : Hp} {Q : VK} {i j : Int} {v : V} {R : Prop}
theorem z_int1 (q : Q (.int i) H) : rInt1 [.int i] H Q := .inl ⟨i, rfl, q⟩
theorem z_int1b {k : Bool} (q : Q (.int (if k then 1 else 0)) H) : rInt1 [.bl k] H Q := .inr ⟨k, rfl, q⟩
theorem z_abs (q : Q (.int (if i < 0 then -i else i)) H) : rAbs [.int i] H Q := ⟨i, rfl, q⟩
theorem z_gcd (q : Q (.int ((Nat.gcd i.natAbs j.natAbs : Nat) : Int)) H) : rGcd [.int i, .int j] H Q := ⟨i, j, rfl, q⟩
theorem z_lenL {K : PySem.W.Frag} {p : Addr} {xs : List V} (h : SqL K H p xs) (q : Q (.int (xs.length : Int)) H) : rLen K [.ref p] H Q := ⟨p, xs, rfl, .inl h, q⟩
theorem z_lenT {K : PySem.W.Frag} {p : Addr} {xs : List V} (h : SqT K H p xs) (q : Q (.int (xs.length : Int)) H) : rLen K [.ref p] H Q := ⟨p, xs, rfl, .inr h, q⟩
theorem z_isII {K : PySem.W.Frag} (q : Q (.bl true) H) : rIsi K [.int i, .ty "int"] H Q := z_ty (.base (.int i)) (by decide +kernel) q
theorem z_isIB {K : PySem.W.Frag} (q : Q (.bl false) H) : rIsi K [.int i, .ty "bool"] H Q := z_ty (.base (.int i)) (by decide +kernel) q
theorem z_isBB {K : PySem.W.Frag} {k : Bool} (q : Q (.bl true) H) : rIsi K [.bl k, .ty "bool"] H Q := z_ty (.base (.bl k)) (by decide +kernel) q
theorem z_isTT {K : PySem.W.Frag} {p : Addr} {xs : List V} (h : H p = some (.tup xs)) (q : Q (.bl true) H) : rIsi K [.ref p, .ty "tuple"] H Q := z_ty (.base (.tup h)) (by decide +kernel) q
theorem z_isLL {K : PySem.W.Frag} {p : Addr} {xs : List V} (h : H p = some (.lst xs)) (q : Q (.bl true) H) : rIsi K [.ref p, .ty "list"] H Q := z_ty (.base (.lst h)) (by decide +kernel) q
theorem z_new {xs : List V} {F : Addr → Prop} (h : xs.length ≤ 1000) (q : ∀ p, H p = none → F p) : xs.length ≤ sizeLine ∧ ∀ p, H p = none → F p := ⟨sz h, q⟩
end
end Z
namespace Z
open PySem PySem.Spec PyProof.Rows L2
section
variable {σ : L2.St} {H : Hp} {n : L2.St → Hp → Prop} {r : VK} {b c : L2.St → Hp → Prop} {tb : TS} {K : PySem.W.Frag}
/-- for k in range(m) -/
theorem z_forR1 {ta : TA} {k : Nat} (m : Nat) (hm : m < 2 ^ 62) (ha : ∀ R : List V → Hp → Prop, R [.int (m : Int)] H → ta σ H R) (Pv : Nat → L2.St → Hp → Prop) (h0 : Pv 0 σ H)
    (hs : ∀ i σ H, i < m → Pv i σ H → tb ⟨Pv (i + 1), r, n, Pv (i + 1)⟩ (σ.set k (some (.int (i : Int)))) H) (hd : ∀ σ H, Pv m σ H → n σ H) : tFor (iRng1 ta) (gName k) tb ⟨n, r, b, c⟩ σ H := by
  refine ha _ ⟨(m : Int), rfl, by omega, by omega, ?_⟩
  refine for_range (lo := 0) (n := (m : Int).toNat) Pv h0 (fun i σ' H' hi p => ?_) (fun σ' H' p => hd σ' H' (by simpa using p))
  have e : (0 : Int) + (i : Int) = (i : Int) := Int.zero_add _
  show tb _ (σ'.set k (some (.int ((0 : Int) + (i : Int))))) H'
  rw [e]
  exact hs i σ' H' (by simpa using hi) p
/-- for k in range(lo, hi) -/
theorem z_forR2 {ta : TA} {k : Nat} (lo : Int) (m : Nat) (hl : -(2 ^ 61) ≤ lo ∧ lo < 2 ^ 61) (hm : m < 2 ^ 61) (ha : ∀ R : List V → Hp → Prop, R [.int lo, .int (lo + (m : Int))] H → ta σ H R) (Pv : Nat → L2.St → Hp → Prop) (h0 : Pv 0 σ H)
    (hs : ∀ i σ H, i < m → Pv i σ H → tb ⟨Pv (i + 1), r, n, Pv (i + 1)⟩ (σ.set k (some (.int (lo + (i : Int))))) H) (hd : ∀ σ H, Pv m σ H → n σ H) : tFor (iRng2 ta) (gName k) tb ⟨n, r, b, c⟩ σ H := by
  refine ha _ ⟨lo, lo + (m : Int), rfl, by omega, ?_⟩
  have en : (lo + (m : Int) - lo).toNat = m := by omega
  rw [en]
  exact for_range (lo := lo) (n := m) Pv h0 hs hd
/-- for x in a list, in a tuple -/
theorem z_forL {tl : TE} {g : TG} {a : Addr} {xs : List V} (ha : ∀ R : VK, R (.ref a) H → tl σ H R) (hx : SqL K H a xs) (Pv : Nat → L2.St → Hp → Prop) (h0 : Pv 0 σ H) (hl : ∀ i σ H, i ≤ xs.length → Pv i σ H → SqL K H a xs)
    (hs : ∀ i x σ H, xs[i]? = some x → Pv i σ H → g x σ H fun σ2 H2 => tb ⟨Pv (i + 1), r, n, Pv (i + 1)⟩ σ2 H2) (hd : ∀ σ H, Pv xs.length σ H → n σ H) : tFor (iList K tl) g tb ⟨n, r, b, c⟩ σ H :=
  ha _ ⟨a, rfl, ⟨xs, hx⟩, for_list Pv h0 hl hs hd⟩
theorem z_forT {tl : TE} {g : TG} {a : Addr} {xs : List V} (ha : ∀ R : VK, R (.ref a) H → tl σ H R) (hx : SqT K H a xs) (Pv : Nat → L2.St → Hp → Prop) (h0 : Pv 0 σ H) (hl : ∀ i σ H, i ≤ xs.length → Pv i σ H → SqT K H a xs)
    (hs : ∀ i x σ H, xs[i]? = some x → Pv i σ H → g x σ H fun σ2 H2 => tb ⟨Pv (i + 1), r, n, Pv (i + 1)⟩ σ2 H2) (hd : ∀ σ H, Pv xs.length σ H → n σ H) : tFor (iTup K tl) g tb ⟨n, r, b, c⟩ σ H :=
  ha _ ⟨a, rfl, ⟨xs, hx⟩, for_tup Pv h0 hl hs hd⟩
theorem z_gName {k : Nat} {v : V} {R : L2.St → Hp → Prop} (q : R (σ.set k (some v)) H) : gName k v σ H R := q
end
end Z
namespace Z
section
variable {A B : Prop}
theorem z_ifT (q : A) : if true = true then A else B := by
  rw [if_pos rfl]
  exact q
theorem z_ifF (q : B) : if false = true then A else B := by
  rw [if_neg Bool.false_ne_true]
  exact q
theorem z_ifNF (q : A) : if (!false) = true then A else B := z_ifT q
theorem z_ifNT (q : B) : if (!true) = true then A else B := z_ifF q
theorem z_ifN {p : Prop} [Decidable p] (h1 : ¬ p → A) (h2 : p → B) : if (!decide p) = true then A else B := by
  by_cases h : p
  · rw [if_neg (by simpa using h)]
    exact h2 h
  · rw [if_pos (by simpa using h)]
    exact h1 h
end
end Z
namespace Z
theorem z_ifYes {A B : Prop} {k : Bool} (h : k = true) (q : A) : if k = true then A else B := by
  rw [if_pos h]
  exact q
theorem z_ifNo {A B : Prop} {k : Bool} (h : k = false) (q : B) : if k = true then A else B := by
  rw [if_neg (by rw [h]; exact Bool.false_ne_true)]
  exact q
end Z
namespace Z
open PySem PySem.Spec PyProof.Rows L2
theorem z_exc {K : PySem.W.Frag} {cv cls : Value} {i : Nat} {ts : Addr → Value → Option Addr → TS} {Wout : WX} {n : L2.St → Hp → Prop} {r : VK} {b c : L2.St → Hp → Prop} {d : Option Addr} {σ : L2.St} {H : Hp} (e : PySem.W.exmOne K cls cv = some true)
    (h : ∀ a, H a = none → ts a cls d ⟨fun σ' H' => n (σ'.set i none) H', r, fun σ' H' => b (σ'.set i none) H', fun σ' H' => c (σ'.set i none) H'⟩ (σ.set i (some (.ref a))) H) : WE (wAs K cv i ts Wout ⟨n, r, b, c⟩) σ cls d H :=
  ⟨true, e, fun _ a ha => h a ha, fun z => Bool.noConfusion z⟩
theorem z_excO {K : PySem.W.Frag} {cv cls : Value} {ts : Addr → Value → Option Addr → TS} {Wout : WX} {D : Ends} {d : Option Addr} {σ : L2.St} {H : Hp} (e : PySem.W.exmOne K cls cv = some true)
    (h : ∀ a, H a = none → ts a cls d D σ H) : WE (wOnly K cv ts Wout D) σ cls d H :=
  ⟨true, e, fun _ a ha => h a ha, fun z => Bool.noConfusion z⟩
theorem z_isEr {K : PySem.W.Frag} {a C D : Addr} {k : Bool} {H : Hp} {Q : VK} (x : ExcC K D) (e : PySem.W.kitOne K (.ref D) (.ref C) = some k) (q : Q (.bl k) H) : rIsEx K (.ref D) none a [.ref a, .ref C] H Q :=
  ⟨D, rfl, rfl, x, .ref C, .ref C, k, rfl, fun u h => h, e, q⟩
theorem z_isEt {K : PySem.W.Frag} {a D : Addr} {t : String} {k : Bool} {H : Hp} {Q : VK} (x : ExcC K D) (e : PySem.W.kitOne K (.ref D) (.type t) = some k) (q : Q (.bl k) H) : rIsEx K (.ref D) none a [.ref a, .ty t] H Q :=
  ⟨D, rfl, rfl, x, .ty t, .type t, k, rfl, fun u h => h, e, q⟩
/-- two lists, tuples of flat things compared -/
theorem z_eqD {K : PySem.W.Frag} {x y : V} {d e : PyData} {H : Hp} {Q : VK} (h1 : Dp K H x d) (h2 : Dp K H y e) (s1 : SeqAt.shaped d = true) (s2 : SeqAt.shaped e = true) (q : Q (.bl (PyData.eqv d e)) H) : rEqD K x y H Q := ⟨d, e, h1, h2, s1, s2, q⟩
end Z
namespace Z
open PySem PySem.Spec PyProof.Rows L2
theorem z_eqSame {K : PySem.W.Frag} {x y : V} {d : PyData} {H : Hp} {Q : VK} (h1 : Dp K H x d) (h2 : Dp K H y d) (s : SeqAt.shaped d = true) (q : Q (.bl true) H) : rEqD K x y H Q :=
  ⟨d, d, h1, h2, s, s, by rw [SeqAt.eqv_refl d (SeqAt.canLay_of_shaped s)]; exact q⟩
theorem dpT2 {K : PySem.W.Frag} {H : Hp} {p : Addr} {n d : Int} (h : H p = some (.tup [.int n, .int d])) : Dp K H (.ref p) (.tuple [.int n, .int d]) := .tup (.inl (.inl h)) (.cons (.int n) (.cons (.int d) .nil))
theorem dpB3 {K : PySem.W.Frag} {H : Hp} {p : Addr} {a b c : Bool} (h : H p = some (.lst [.bl a, .bl b, .bl c])) : Dp K H (.ref p) (.list [.bool a, .bool b, .bool c]) := .lst (.inl (.inl h)) (.cons (.bl a) (.cons (.bl b) (.cons (.bl c) .nil)))
end Z
namespace Z
open PySem PySem.Spec PyProof.Rows L2
theorem z_cut {t u : TS} {n : L2.St → Hp → Prop} {r : VK} {b c : L2.St → Hp → Prop} {σ : L2.St} {H : Hp} (Mid : L2.St → Hp → Prop) (h : t ⟨Mid, r, b, c⟩ σ H) (k : ∀ σ' H', Mid σ' H' → u ⟨n, r, b, c⟩ σ' H') : Evl.tCut t u ⟨n, r, b, c⟩ σ H := ⟨Mid, h, k⟩
end Z
namespace Z
open PySem PySem.Spec PyProof.Rows L2
section
variable {σ : L2.St} {H : Hp} {n : L2.St → Hp → Prop} {r : VK} {b c : L2.St → Hp → Prop} {te : TE} {K : PySem.W.Frag} {a : Addr} {xs : List V} {gs : TGs} {m : Nat} {v : V}
theorem z_asgT (h : te σ H fun x H1 => ∃ a xs, x = .ref a ∧ SqT K H1 a xs ∧ xs.length = m ∧ gs xs σ H1 n) : tAsg te (gTup K m gs) ⟨n, r, b, c⟩ σ H := h
theorem z_asgL (h : te σ H fun x H1 => ∃ a xs, x = .ref a ∧ SqL K H1 a xs ∧ xs.length = m ∧ gs xs σ H1 n) : tAsg te (gLst K m gs) ⟨n, r, b, c⟩ σ H := h
theorem z_up (h : SqT K H a xs) (hm : xs.length = m) (q : gs xs σ H n) : ∃ a' xs', V.ref a = .ref a' ∧ SqT K H a' xs' ∧ xs'.length = m ∧ gs xs' σ H n := ⟨a, xs, rfl, h, hm, q⟩
theorem z_upL (h : SqL K H a xs) (hm : xs.length = m) (q : gs xs σ H n) : ∃ a' xs', V.ref a = .ref a' ∧ SqL K H a' xs' ∧ xs'.length = m ∧ gs xs' σ H n := ⟨a, xs, rfl, h, hm, q⟩
theorem z_gT (h : SqT K H a xs) (hm : xs.length = m) (q : gs xs σ H n) : gTup K m gs (.ref a) σ H n := ⟨a, xs, rfl, h, hm, q⟩
theorem z_gcons {t : TG} {u : TGs} {R : L2.St → Hp → Prop} (h : t v σ H fun σ' H' => u xs σ' H' R) : gCons t u (v :: xs) σ H R := ⟨v, xs, rfl, h⟩
theorem z_gnil {R : L2.St → Hp → Prop} (h : R σ H) : gNil [] σ H R := ⟨rfl, h⟩
end
end Z
namespace Z
open PySem PySem.Spec PyProof.Rows L2
section
variable {K : PySem.W.Frag} {Wout : WX} {D : Ends} {c cls : Value} {ts : Addr → Value → Option Addr → TS} {l : List (Value × (Addr → Value → Option Addr → TS))} {σ : L2.St} {H : Hp} {d : Option Addr}
theorem z_many1 (e : PySem.W.exmOne K cls c = some true) (h : ∀ a, H a = none → ts a cls d D σ H) : WE (wMany K Wout D ((c, ts) :: l)) σ cls d H := ⟨true, e, fun _ a ha => h a ha, fun z => Bool.noConfusion z⟩
theorem z_many0 (e : PySem.W.exmOne K cls c = some false) (h : WE (wMany K Wout D l) σ cls d H) : WE (wMany K Wout D ((c, ts) :: l)) σ cls d H := ⟨false, e, fun z => Bool.noConfusion z, fun _ => h⟩
theorem z_eqS {x : Str} {Q : VK} (q : Q (.bl true) H) : rEq (.str x) (.str x) H Q := ⟨rfl, by rw [decide_eq_true rfl]; exact q⟩
end
end Z
/-! ### data: what a value stands for -/
namespace Z
open PySem PySem.Spec PyProof.Rows L2
section
variable {K : PySem.W.Frag} {H H' : Hp} {v : V} {d d1 d2 d3 d4 d5 d6 : PyData}
mutual
theorem dp_mono (s : Same H H') : ∀ {d : PyData} {v : V}, Dp K H v d → Dp K H' v d
  | _, _, .non => .non
  | _, _, .bl b => .bl b
  | _, _, .int i => .int i
  | _, _, .str x => .str x
  | _, _, .lst h a => .lst (s.seq h) (dp_monoA s a)
  | _, _, .tup h a => .tup (seqT s h) (dp_monoA s a)
theorem dp_monoA (s : Same H H') : ∀ {ds : List PyData} {vs : List V}, DpAll K H vs ds → DpAll K H' vs ds
  | _, _, .nil => .nil
  | _, _, .cons h a => .cons (dp_mono s h) (dp_monoA s a)
end
mutual
def tupOnly : PyData → Bool
  | .list _ => false
  | .dict _ => false
  | .tuple ds => tupOnlyA ds
  | .none => true
  | .bool _ => true
  | .int _ => true
  | .str _ => true
def tupOnlyA : List PyData → Bool
  | [] => true
  | d :: ds => tupOnly d && tupOnlyA ds
end
def Kp (p : Addr) (H H' : Hp) : Prop := ∀ b o, b ≠ p → H b = some o → H' b = some o
theorem seqT_kp {p a : Addr} {xs ys : List V} (k : Kp p H H') (hp : H p = some (.lst xs)) (h : SqT K H a ys) : SqT K H' a ys := by
  rcases h with (h | ⟨o, h⟩) | h
  · exact .inl (.inl (k _ _ (ne_of h hp (by intro z; cases z)) h))
  · exact .inl (.inr ⟨o, k _ _ (ne_of h hp (by intro z; cases z)) h⟩)
  · exact .inr h
mutual
theorem dp_kp {p : Addr} {xs : List V} (k : Kp p H H') (hp : H p = some (.lst xs)) : ∀ {d : PyData} {v : V}, tupOnly d = true → Dp K H v d → Dp K H' v d
  | _, _, _, .non => .non
  | _, _, _, .bl b => .bl b
  | _, _, _, .int i => .int i
  | _, _, _, .str x => .str x
  | _, _, t, .lst h a => by simp [tupOnly] at t
  | _, _, t, .tup h a => .tup (seqT_kp k hp h) (dp_kpA k hp (by simpa [tupOnly] using t) a)
theorem dp_kpA {p : Addr} {xs : List V} (k : Kp p H H') (hp : H p = some (.lst xs)) : ∀ {ds : List PyData} {vs : List V}, tupOnlyA ds = true → DpAll K H vs ds → DpAll K H' vs ds
  | _, _, _, .nil => .nil
  | _, _, t, .cons h a => by
    have t' : (tupOnly _ && tupOnlyA _) = true := t
    rw [Bool.and_eq_true] at t'
    exact .cons (dp_kp k hp t'.1 h) (dp_kpA k hp t'.2 a)
end
theorem dp_int {i : Int} (h : Dp K H v (.int i)) : v = .int i := by
  cases h
  rfl
theorem dp_non (h : Dp K H v .none) : v = .non := by
  cases h
  rfl
theorem dp_bool {b : Bool} (h : Dp K H v (.bool b)) : v = .bl b := by
  cases h
  rfl
theorem dp_str {b : Str} (h : Dp K H v (.str b)) : v = .str b := by
  cases h
  rfl
theorem dp_tup {ds : List PyData} (h : Dp K H v (.tuple ds)) : ∃ p vs, v = .ref p ∧ SqT K H p vs ∧ DpAll K H vs ds := by
  cases h with
  | tup h a => exact ⟨_, _, rfl, h, a⟩
theorem dpa_nil {vs : List V} (h : DpAll K H vs []) : vs = [] := by
  cases h
  rfl
theorem dpa_cons {vs : List V} {ds : List PyData} (h : DpAll K H vs (d :: ds)) : ∃ v r, vs = v :: r ∧ Dp K H v d ∧ DpAll K H r ds := by
  cases h with
  | cons a b => exact ⟨_, _, rfl, a, b⟩
theorem dp_t1 (h : Dp K H v (.tuple [d1])) : ∃ p v1, v = .ref p ∧ SqT K H p [v1] ∧ Dp K H v1 d1 := by
  obtain ⟨p, vs, e, hS, a⟩ := dp_tup h
  obtain ⟨v1, _, rfl, h1, a⟩ := dpa_cons a
  obtain rfl := dpa_nil a
  exact ⟨p, v1, e, hS, h1⟩
theorem dp_t2 (h : Dp K H v (.tuple [d1, d2])) : ∃ p v1 v2, v = .ref p ∧ SqT K H p [v1, v2] ∧ Dp K H v1 d1 ∧ Dp K H v2 d2 := by
  obtain ⟨p, vs, e, hS, a⟩ := dp_tup h
  obtain ⟨v1, _, rfl, h1, a⟩ := dpa_cons a
  obtain ⟨v2, _, rfl, h2, a⟩ := dpa_cons a
  obtain rfl := dpa_nil a
  exact ⟨p, v1, v2, e, hS, h1, h2⟩
theorem dp_t3 (h : Dp K H v (.tuple [d1, d2, d3])) : ∃ p v1 v2 v3, v = .ref p ∧ SqT K H p [v1, v2, v3] ∧ Dp K H v1 d1 ∧ Dp K H v2 d2 ∧ Dp K H v3 d3 := by
  obtain ⟨p, vs, e, hS, a⟩ := dp_tup h
  obtain ⟨v1, _, rfl, h1, a⟩ := dpa_cons a
  obtain ⟨v2, _, rfl, h2, a⟩ := dpa_cons a
  obtain ⟨v3, _, rfl, h3, a⟩ := dpa_cons a
  obtain rfl := dpa_nil a
  exact ⟨p, v1, v2, v3, e, hS, h1, h2, h3⟩
theorem dp_t6 (h : Dp K H v (.tuple [d1, d2, d3, d4, d5, d6])) : ∃ p v1 v2 v3 v4 v5 v6, v = .ref p ∧ SqT K H p [v1, v2, v3, v4, v5, v6] ∧ Dp K H v1 d1 ∧ Dp K H v2 d2 ∧ Dp K H v3 d3 ∧ Dp K H v4 d4 ∧ Dp K H v5 d5 ∧ Dp K H v6 d6 := by
  obtain ⟨p, vs, e, hS, a⟩ := dp_tup h
  obtain ⟨v1, _, rfl, h1, a⟩ := dpa_cons a
  obtain ⟨v2, _, rfl, h2, a⟩ := dpa_cons a
  obtain ⟨v3, _, rfl, h3, a⟩ := dpa_cons a
  obtain ⟨v4, _, rfl, h4, a⟩ := dpa_cons a
  obtain ⟨v5, _, rfl, h5, a⟩ := dpa_cons a
  obtain ⟨v6, _, rfl, h6, a⟩ := dpa_cons a
  obtain rfl := dpa_nil a
  exact ⟨p, v1, v2, v3, v4, v5, v6, e, hS, h1, h2, h3, h4, h5, h6⟩
theorem dp_mk {p : Addr} {vs : List V} {ds : List PyData} (h : H p = some (.tup vs)) (a : DpAll K H vs ds) : Dp K H (.ref p) (.tuple ds) := .tup (.inl (.inl h)) a
end
/-! ### numbers -/
def qD (r : Rat) : PyData := .tuple [.int r.num, .int (r.den : Int)]
theorem dp_q {K : PySem.W.Frag} {H : Hp} {v : V} {r : Rat} (h : Dp K H v (qD r)) : ∃ p, v = .ref p ∧ SqT K H p [.int r.num, .int (r.den : Int)] := by
  obtain ⟨p, v1, v2, e, hS, h1, h2⟩ := dp_t2 h
  rw [dp_int h1, dp_int h2] at hS
  exact ⟨p, e, hS⟩
theorem dp_mkq {K : PySem.W.Frag} {H : Hp} {p : Addr} {r : Rat} (h : H p = some (.tup [.int r.num, .int (r.den : Int)])) : Dp K H (.ref p) (qD r) := dp_mk h (.cons (.int _) (.cons (.int _) .nil))
theorem dp_seqq {K : PySem.W.Frag} {H : Hp} {p : Addr} {r : Rat} (h : SqT K H p [.int r.num, .int (r.den : Int)]) : Dp K H (.ref p) (qD r) := .tup h (.cons (.int _) (.cons (.int _) .nil))
/-- numerator and denominator at most so great -/
def Bd (r : Rat) (p q : Nat) : Prop := r.num.natAbs ≤ p ∧ r.den ≤ q
theorem bd_divInt {n d : Int} (h : d ≠ 0) : Bd (Rat.divInt n d) n.natAbs d.natAbs := by
  unfold Bd
  rw [Rat.num_divInt, Rat.den_divInt, if_neg h]
  refine ⟨Nat.le_trans (Int.natAbs_ediv_le_natAbs _ _) ?_, Nat.div_le_self _ _⟩
  rw [Int.natAbs_mul]
  have : d.sign.natAbs ≤ 1 := by
    rcases Int.lt_trichotomy d 0 with z | z | z
    · rw [Int.sign_eq_neg_one_of_neg z]; decide
    · exact absurd z h
    · rw [Int.sign_eq_one_of_pos z]; decide
  calc d.sign.natAbs * n.natAbs ≤ 1 * n.natAbs := Nat.mul_le_mul_right _ this
    _ = n.natAbs := Nat.one_mul _
theorem q_self (r : Rat) : Rat.divInt r.num (r.den : Int) = r := Rat.num_divInt_den r
end Z
namespace Z
open PySem PySem.Spec PyProof.Rows L2
def gd (n d : Int) : Int := ((Nat.gcd n.natAbs d.natAbs : Nat) : Int)
def rn (n d : Int) : Int := (if d < 0 then -n else n) / gd n d
def rd (n d : Int) : Int := (if d < 0 then -d else d) / gd n d
theorem rn_q {n d : Int} (h : d ≠ 0) : rn n d = (Rat.divInt n d).num := by
  rw [Rat.num_divInt]
  unfold rn gd
  have e : d.gcd n = Nat.gcd n.natAbs d.natAbs := Nat.gcd_comm _ _
  rw [e]
  congr 1
  split
  · rename_i z
    rw [Int.sign_eq_neg_one_of_neg z]
    omega
  · rename_i z
    rw [Int.sign_eq_one_of_pos (by omega)]
    omega
theorem rd_q {n d : Int} (h : d ≠ 0) : rd n d = ((Rat.divInt n d).den : Int) := by
  rw [Rat.den_divInt, if_neg h]
  unfold rd gd
  have e : d.gcd n = Nat.gcd n.natAbs d.natAbs := Nat.gcd_comm _ _
  rw [e]
  rw [Int.natCast_ediv]
  congr 1
  split <;> omega
def lim : Int := 1000000000000000000
def fitsQ (r : Rat) : Prop := -lim ≤ r.num ∧ r.num ≤ lim ∧ (r.den : Int) ≤ lim
theorem bd_add {a b : Rat} {p q p' q' : Nat} (h : Bd a p q) (h' : Bd b p' q') : Bd (a + b) (p * q' + p' * q) (q * q') := by
  have ha := a.den_nz
  have hb := b.den_nz
  have e : a + b = Rat.divInt (a.num * b.den + b.num * a.den) ((a.den : Int) * b.den) := by
    rw [← Rat.divInt_add_divInt _ _ (by omega) (by omega), Rat.num_divInt_den, Rat.num_divInt_den]
  rw [e]
  have hd : ((a.den : Int) * b.den) ≠ 0 := Int.mul_ne_zero (by omega) (by omega)
  have k := bd_divInt (n := a.num * b.den + b.num * a.den) hd
  refine ⟨Nat.le_trans k.1 (Nat.le_trans (Int.natAbs_add_le _ _) ?_), Nat.le_trans k.2 ?_⟩
  · rw [Int.natAbs_mul, Int.natAbs_mul]
    exact Nat.add_le_add (Nat.mul_le_mul h.1 h'.2) (Nat.mul_le_mul h'.1 h.2)
  · rw [Int.natAbs_mul]
    exact Nat.mul_le_mul h.2 h'.2
theorem bd_mul {a b : Rat} {p q p' q' : Nat} (h : Bd a p q) (h' : Bd b p' q') : Bd (a * b) (p * p') (q * q') := by
  have ha := a.den_nz
  have hb := b.den_nz
  have e : a * b = Rat.divInt (a.num * b.num) ((a.den : Int) * b.den) := by
    rw [← Rat.divInt_mul_divInt, Rat.num_divInt_den, Rat.num_divInt_den]
  rw [e]
  have hd : ((a.den : Int) * b.den) ≠ 0 := Int.mul_ne_zero (by omega) (by omega)
  have k := bd_divInt (n := a.num * b.num) hd
  refine ⟨Nat.le_trans k.1 ?_, Nat.le_trans k.2 ?_⟩
  · rw [Int.natAbs_mul]
    exact Nat.mul_le_mul h.1 h'.1
  · rw [Int.natAbs_mul]
    exact Nat.mul_le_mul h.2 h'.2
theorem bd_neg {a : Rat} {p q : Nat} (h : Bd a p q) : Bd (-a) p q := by
  unfold Bd
  rw [Rat.neg_num, Rat.neg_den, Int.natAbs_neg]
  exact h
theorem bd_sub {a b : Rat} {p q p' q' : Nat} (h : Bd a p q) (h' : Bd b p' q') : Bd (a - b) (p * q' + p' * q) (q * q') := by
  rw [Rat.sub_eq_add_neg]
  exact bd_add h (bd_neg h')
theorem q_div (a b : Rat) (h : b ≠ 0) : a / b = Rat.divInt (a.num * b.den) ((a.den : Int) * b.num) := by
  rw [Rat.div_def, ← Rat.num_divInt_den b, Rat.inv_divInt]
  conv => lhs; lhs; rw [← Rat.num_divInt_den a]
  rw [Rat.divInt_mul_divInt, Rat.num_divInt_den]
theorem bd_div {a b : Rat} {p q p' q' : Nat} (hb : b ≠ 0) (h : Bd a p q) (h' : Bd b p' q') : Bd (a / b) (p * q') (q * p') := by
  have ha := a.den_nz
  rw [q_div a b hb]
  have hn : b.num ≠ 0 := fun z => hb (Rat.num_eq_zero.mp z)
  have hd : ((a.den : Int) * b.num) ≠ 0 := Int.mul_ne_zero (by omega) hn
  have k := bd_divInt (n := a.num * b.den) hd
  refine ⟨Nat.le_trans k.1 ?_, Nat.le_trans k.2 ?_⟩
  · rw [Int.natAbs_mul]
    exact Nat.mul_le_mul h.1 h'.2
  · rw [Int.natAbs_mul]
    exact Nat.mul_le_mul h.2 h'.1
theorem Bd.le {a : Rat} {p q p' q' : Nat} (h : Bd a p q) (h1 : p ≤ p') (h2 : q ≤ q') : Bd a p' q' := ⟨Nat.le_trans h.1 h1, Nat.le_trans h.2 h2⟩
theorem Bd.fits {a : Rat} {p q : Nat} (h : Bd a p q) (h1 : p ≤ 1000000000000000000) (h2 : q ≤ 1000000000000000000) : fitsQ a := by
  have a1 := h.1
  have a2 := h.2
  unfold fitsQ lim
  omega
theorem q_add (a b : Rat) : a + b = Rat.divInt (a.num * b.den + b.num * a.den) ((a.den : Int) * b.den) := by
  have ha := a.den_nz
  have hb := b.den_nz
  rw [← Rat.divInt_add_divInt _ _ (by omega) (by omega), Rat.num_divInt_den, Rat.num_divInt_den]
theorem q_sub (a b : Rat) : a - b = Rat.divInt (a.num * b.den - b.num * a.den) ((a.den : Int) * b.den) := by
  have ha := a.den_nz
  have hb := b.den_nz
  rw [← Rat.divInt_sub_divInt _ _ (by omega) (by omega), Rat.num_divInt_den, Rat.num_divInt_den]
theorem q_mul (a b : Rat) : a * b = Rat.divInt (a.num * b.num) ((a.den : Int) * b.den) := by
  rw [← Rat.divInt_mul_divInt, Rat.num_divInt_den, Rat.num_divInt_den]
theorem q_dd (a b : Rat) : ((a.den : Int) * b.den) ≠ 0 := by
  have ha := a.den_nz
  have hb := b.den_nz
  exact Int.mul_ne_zero (by omega) (by omega)
end Z
namespace Z
open PySem PySem.Spec PyProof.Rows L2
theorem tyx_T {K : PySem.W.Frag} {H : Hp} {a : Addr} {xs : List V} (h : SqT K H a xs) : TyX K H (.ref a) (.type "tuple") := by
  rcases h with (h | ⟨o, h⟩) | ⟨o, its, n, h, c, _⟩
  · exact .base (.tup h)
  · exact .fTuple h
  · exact .kTuple h c
theorem z_isT {K : PySem.W.Frag} {H : Hp} {Q : VK} {p : Addr} {xs : List V} (h : SqT K H p xs) (q : Q (.bl true) H) : rIsi K [.ref p, .ty "tuple"] H Q := z_ty (tyx_T h) (by decide +kernel) q
end Z
namespace Z
open PySem PySem.Spec PyProof.Rows L2
/-- a tuple of the module's own -/
theorem dpk {K : PySem.W.Frag} {H : Hp} {a : Addr} {od : Option Addr} {its : List Value} {n : Nat} {sl : Array (Option Value)} {vs : List V} {ds : List PyData} (h : K.lookup a = some ⟨.type "tuple", od, .seq its.toArray n, sl⟩)
    (hs : its.length ≤ 1000) (r : Vals vs its) (d : DpAll K H vs ds) : Dp K H (.ref a) (.tuple ds) :=
  .tup (.inr ⟨_, its.toArray, n, h, rfl, rfl, by rw [List.size_toArray]; exact sz hs, by simpa using r⟩) d
/-- a tuple and a tuple -/
theorem z_catT {K : PySem.W.Frag} {H : Hp} {Q : VK} {p q : Addr} {xs ys : List V} (h1 : SqT K H p xs) (h2 : SqT K H q ys) (hx : xs ≠ []) (hl : xs.length + ys.length ≤ 1000) (hy : ys ≠ [])
    (k : ∀ p H', H p = none → Same H H' → H' p = some (.tup (xs ++ ys)) → Q (.ref p) H') : rCatT K (.ref p) (.ref q) H Q := by
  refine ⟨p, q, xs, ys, rfl, rfl, h1, h2, hx, sz hl, fun z => absurd z hy, fun _ a ha => k a _ ha (same_upd ha) upd_same⟩
end Z
namespace Z
open PySem PySem.Spec PyProof.Rows L2
def rTupOf (K : PySem.W.Frag) : List V → Hp → VK → Prop := fun xs H Q => ∃ p ys, xs = [.ref p] ∧ ((SqL K H p ys ∧ ∀ l, H l = none → Q (.ref l) (upd H l (.tup ys))) ∨ (SqT K H p ys ∧ Q (.ref p) H))
def rListOf (K : PySem.W.Frag) : List V → Hp → VK → Prop := fun xs H Q => ∃ p ys, xs = [.ref p] ∧ (SqL K H p ys ∨ SqT K H p ys) ∧ ∀ l, H l = none → Q (.ref l) (upd H l (.lst ys))
theorem c_tupOf {X : Cx} : CallR X (.type "tuple") (rTupOf X.K) := call_tuple_of
theorem c_listOf {X : Cx} : CallR X (.type "list") (rListOf X.K) := call_list_of
section
variable {K : PySem.W.Frag} {H : Hp} {Q : VK} {p : Addr} {xs : List V} {σ : L2.St}
theorem z_tupOf (h : SqL K H p xs) (q : ∀ a H', H a = none → Same H H' → H' a = some (.tup xs) → Q (.ref a) H') : rTupOf K [.ref p] H Q := ⟨p, xs, rfl, .inl ⟨h, fun l hl => q l _ hl (same_upd hl) upd_same⟩⟩
theorem z_tupOfT (h : SqT K H p xs) (q : Q (.ref p) H) : rTupOf K [.ref p] H Q := ⟨p, xs, rfl, .inr ⟨h, q⟩⟩
theorem z_listOf (h : SqL K H p xs) (q : ∀ a H', H a = none → Same H H' → H' a = some (.lst xs) → Q (.ref a) H') : rListOf K [.ref p] H Q := ⟨p, xs, rfl, .inl h, fun l hl => q l _ hl (same_upd hl) upd_same⟩
theorem z_listOfT (h : SqT K H p xs) (q : ∀ a H', H a = none → Same H H' → H' a = some (.lst xs) → Q (.ref a) H') : rListOf K [.ref p] H Q := ⟨p, xs, rfl, .inr h, fun l hl => q l _ hl (same_upd hl) upd_same⟩
theorem z_yes {QB : Bool → Hp → Prop} (q : QB true H) : tYes σ H QB := q
/-- [e for k in range(m)] -/
theorem z_lcR1 {ta : TA} {k : Nat} {te : TE} {vs : List Nat} (m : Nat) (hm : m ≤ 1000) (ha : ∀ R : List V → Hp → Prop, R [.int (m : Int)] H → ta σ H R) (hw : ∀ x, wipe ((wipe σ vs).set k (some x)) vs = wipe σ vs) (Pv : Nat → Addr → List V → Hp → Prop)
    (h0 : ∀ D H', H D = none → Same H H' → H' D = some (.lst []) → Pv 0 D [] H')
    (hs : ∀ i D acc H', i < m → acc.length = i → H' D = some (.lst acc) → Pv i D acc H' → te ((wipe σ vs).set k (some (.int (i : Int)))) H' fun y H4 => H4 D = some (.lst acc) ∧ Pv (i + 1) D (acc ++ [y]) (upd H4 D (.lst (acc ++ [y]))))
    (mono : ∀ σ' H' Q Q', (∀ y H4, Q y H4 → Q' y H4) → te σ' H' Q → te σ' H' Q')
    (hd : ∀ D acc H', acc.length = m → H' D = some (.lst acc) → Pv m D acc H' → Q (.ref D) H') : tLc (iRng1 ta) (gName k) tYes te vs σ H Q := by
  refine ha _ ⟨(m : Int), rfl, by omega, by omega, fun D hD => ?_⟩
  refine lc_range (lo := 0) (n := (m : Int).toNat) (fun i H' => ∃ acc, acc.length = i ∧ H' D = some (.lst acc) ∧ Pv i D acc H') ⟨[], rfl, upd_same, h0 D _ hD (same_upd hD) upd_same⟩ (fun i H' hi ⟨acc, hl, hH, p⟩ => ?_) (fun H' ⟨acc, hl, hH, p⟩ => hd D acc H' (by simpa using hl) hH (by simpa using p))
  have e : (0 : Int) + (i : Int) = (i : Int) := Int.zero_add _
  show wipe ((wipe σ vs).set k (some (.int ((0 : Int) + (i : Int))))) vs = wipe σ vs ∧ _
  refine ⟨hw _, ?_⟩
  refine z_yes ?_
  refine z_ifT ?_
  rw [e]
  have hi' : i < m := by simpa using hi
  exact mono _ _ _ _ (fun y H4 ⟨e1, e2⟩ => ⟨acc, e1, Nat.lt_of_lt_of_le (show acc.length < 1000 by omega) (by decide), acc ++ [y], by simp [hl], upd_same, e2⟩) (hs i D acc H' (by simpa using hi) hl hH p)
end
end Z
namespace Z
open PySem PySem.Spec PyProof.Rows L2
section
variable {K : PySem.W.Frag} {H : Hp} {Q : VK} {p : Addr} {xs : List V} {σ : L2.St} {i : Int} {RO : Option Int → Hp → Prop} {te : TE} {tl th : TO}
theorem z_sl {g : V → Option Int → Option Int → Hp → VK → Prop} (h : te σ H fun x H1 => tl σ H1 fun l H2 => th σ H2 fun u H3 => g x l u H3 Q) : tSl g te tl th σ H Q := h
theorem z_noPart (q : RO none H) : tNoPart σ H RO := q
theorem z_part (h : te σ H fun x H1 => ∃ i, x = .int i ∧ RO (some i) H1) : tPart te σ H RO := h
theorem z_partI (q : RO (some i) H) : ∃ i', V.int i = .int i' ∧ RO (some i') H := ⟨i, rfl, q⟩
theorem z_slL {lo hi : Option Int} {ys : List V} (h : SqL K H p xs) (e : cutV xs lo hi = ys) (q : ∀ a H', H a = none → Same H H' → H' a = some (.lst ys) → Q (.ref a) H') : rSlL K (.ref p) lo hi H Q := by
  subst e
  exact ⟨p, xs, rfl, h, fun a ha => q a _ ha (same_upd ha) upd_same⟩
end
end Z
namespace Z
open PySem PySem.Spec PyProof.Rows L2
theorem z_slT {K : PySem.W.Frag} {H : Hp} {Q : VK} {p : Addr} {xs ys : List V} {lo hi : Option Int} (h : SqT K H p xs) (hn : ¬ (HT.sIx xs.length 0 lo = 0 ∧ HT.sIx xs.length xs.length hi = xs.length)) (e : cutV xs lo hi = ys)
    (q : ∀ a H', H a = none → Same H H' → H' a = some (.tup ys) → Q (.ref a) H') : rSlT K (.ref p) lo hi H Q := by
  subst e
  exact ⟨p, xs, rfl, h, hn, fun a ha => q a _ ha (same_upd ha) upd_same⟩
theorem eqv_q (a b : Rat) : PyData.eqv (qD a) (qD b) = decide (a = b) := by
  show (a.num == b.num && ((a.den : Int) == (b.den : Int) && true)) = decide (a = b)
  by_cases h : a = b
  · subst h
    simp
  · rw [decide_eq_false h]
    by_cases h1 : a.num = b.num
    · have h2 : ¬ (a.den : Int) = b.den := fun z => h (Rat.ext h1 (by omega))
      simp [h2]
    · simp [h1]
theorem shaped_q (a : Rat) : SeqAt.shaped (qD a) = true := rfl
theorem z_eqQ {K : PySem.W.Frag} {x y : V} {a b : Rat} {H : Hp} {Q : VK} (h1 : Dp K H x (qD a)) (h2 : Dp K H y (qD b)) (q : Q (.bl (decide (a = b))) H) : rEqD K x y H Q := ⟨qD a, qD b, h1, h2, shaped_q a, shaped_q b, by rw [eqv_q]; exact q⟩
theorem z_neQ {K : PySem.W.Frag} {x y : V} {a b : Rat} {H : Hp} {Q : VK} (h1 : Dp K H x (qD a)) (h2 : Dp K H y (qD b)) (q : Q (.bl (decide (¬ a = b))) H) : rNeD K x y H Q := ⟨qD a, qD b, h1, h2, shaped_q a, shaped_q b, by
  rw [eqv_q, show (!decide (a = b)) = decide (¬ a = b) by simp]
  exact q⟩
theorem z_neSame {K : PySem.W.Frag} {x y : V} {d : PyData} {H : Hp} {Q : VK} (h1 : Dp K H x d) (h2 : Dp K H y d) (s : SeqAt.shaped d = true) (q : Q (.bl false) H) : rNeD K x y H Q :=
  ⟨d, d, h1, h2, s, s, by rw [SeqAt.eqv_refl d (SeqAt.canLay_of_shaped s)]; exact q⟩
end Z

namespace G
open PySem PySem.Spec PyProof.Rows L2 Z
def topS (i : Nat) : Stmt := PySem.Challenge.pw_fontwinding_k11_composed_and_inverted.main.body.getD i (.Pass ⟨0, 0, 0, 0⟩)
abbrev s_ratio : Stmt := topS 8
abbrev s_add : Stmt := topS 9
abbrev s_subtract : Stmt := topS 10
abbrev s_multiply : Stmt := topS 11
abbrev s_divide : Stmt := topS 12
abbrev s_apply : Stmt := topS 14
abbrev s_moved_part : Stmt := topS 15
abbrev s_compose : Stmt := topS 16
abbrev s_inverse : Stmt := topS 17
abbrev s_sum_of_products : Stmt := topS 18
abbrev s_negative : Stmt := topS 19
abbrev s__law_cell : Stmt := topS 21
abbrev s__law_stream : Stmt := topS 22
abbrev s__law_next : Stmt := topS 23
abbrev s__law_is_integer : Stmt := topS 24
abbrev s__law_ratio : Stmt := topS 25
abbrev s__law_is_number : Stmt := topS 26
abbrev s__law_sum : Stmt := topS 27
abbrev s__law_difference : Stmt := topS 28
abbrev s__law_product : Stmt := topS 29
abbrev s__law_applied : Stmt := topS 30
abbrev s__law_small : Stmt := topS 31
abbrev s__law_point : Stmt := topS 32
abbrev s__law_transform : Stmt := topS 34
abbrev s__law_is_transform : Stmt := topS 35
abbrev s__law_no_inverse : Stmt := topS 36
abbrev s_law : Stmt := topS 37
theorem sc_ratio : FnScope ["n", "d", "common", "top", "bottom"] ["n", "d"] (defScope s_ratio) := ⟨rfl, rfl, rfl, by decide +kernel, rfl, by decide +kernel, by decide +kernel⟩
theorem sc_add : FnScope ["a", "b"] ["a", "b"] (defScope s_add) := ⟨rfl, rfl, rfl, by decide +kernel, rfl, by decide +kernel, by decide +kernel⟩
theorem sc_subtract : FnScope ["a", "b"] ["a", "b"] (defScope s_subtract) := ⟨rfl, rfl, rfl, by decide +kernel, rfl, by decide +kernel, by decide +kernel⟩
theorem sc_multiply : FnScope ["a", "b"] ["a", "b"] (defScope s_multiply) := ⟨rfl, rfl, rfl, by decide +kernel, rfl, by decide +kernel, by decide +kernel⟩
theorem sc_divide : FnScope ["a", "b"] ["a", "b"] (defScope s_divide) := ⟨rfl, rfl, rfl, by decide +kernel, rfl, by decide +kernel, by decide +kernel⟩
theorem sc_apply : FnScope ["transform", "point", "tx", "ty", "xx", "xy", "yx", "yy"] ["transform", "point"] (defScope s_apply) := ⟨rfl, rfl, rfl, by decide +kernel, rfl, by decide +kernel, by decide +kernel⟩
theorem sc_moved_part : FnScope ["shift", "by_x", "by_y", "point", "along_x", "along_y"] ["shift", "by_x", "by_y", "point"] (defScope s_moved_part) := ⟨rfl, rfl, rfl, by decide +kernel, rfl, by decide +kernel, by decide +kernel⟩
theorem sc_compose : FnScope ["first", "second", "tx", "ty", "xx", "xy", "yx", "yy", "to_xx", "to_xy", "to_yx", "to_yy", "parts"] ["first", "second"] (defScope s_compose) := ⟨rfl, rfl, rfl, by decide +kernel, rfl, by decide +kernel, by decide +kernel⟩
theorem sc_inverse : FnScope ["transform", "tx", "ty", "xx", "xy", "yx", "yy", "determinant", "new_xx", "new_xy", "new_yx", "new_yy", "new_tx", "new_ty"] ["transform"] (defScope s_inverse) := ⟨rfl, rfl, rfl, by decide +kernel, rfl, by decide +kernel, by decide +kernel⟩
theorem sc_sum_of_products : FnScope ["a", "b", "c", "d"] ["a", "b", "c", "d"] (defScope s_sum_of_products) := ⟨rfl, rfl, rfl, by decide +kernel, rfl, by decide +kernel, by decide +kernel⟩
theorem sc_negative : FnScope ["a"] ["a"] (defScope s_negative) := ⟨rfl, rfl, rfl, by decide +kernel, rfl, by decide +kernel, by decide +kernel⟩
theorem sc__law_cell : FnScope ["script", "k"] ["script", "k"] (defScope s__law_cell) := ⟨rfl, rfl, rfl, by decide +kernel, rfl, by decide +kernel, by decide +kernel⟩
theorem sc__law_stream : FnScope ["cell"] ["cell"] (defScope s__law_stream) := ⟨rfl, rfl, rfl, by decide +kernel, rfl, by decide +kernel, by decide +kernel⟩
theorem sc__law_next : FnScope ["stream", "size", "drawn", "mixed"] ["stream", "size"] (defScope s__law_next) := ⟨rfl, rfl, rfl, by decide +kernel, rfl, by decide +kernel, by decide +kernel⟩
theorem sc__law_is_integer : FnScope ["actual"] ["actual"] (defScope s__law_is_integer) := ⟨rfl, rfl, rfl, by decide +kernel, rfl, by decide +kernel, by decide +kernel⟩
theorem sc__law_ratio : FnScope ["n", "d", "a", "b", "k"] ["n", "d"] (defScope s__law_ratio) := ⟨rfl, rfl, rfl, by decide +kernel, rfl, by decide +kernel, by decide +kernel⟩
theorem sc__law_is_number : FnScope ["actual"] ["actual"] (defScope s__law_is_number) := ⟨rfl, rfl, rfl, by decide +kernel, rfl, by decide +kernel, by decide +kernel⟩
theorem sc__law_sum : FnScope ["a", "b"] ["a", "b"] (defScope s__law_sum) := ⟨rfl, rfl, rfl, by decide +kernel, rfl, by decide +kernel, by decide +kernel⟩
theorem sc__law_difference : FnScope ["a", "b"] ["a", "b"] (defScope s__law_difference) := ⟨rfl, rfl, rfl, by decide +kernel, rfl, by decide +kernel, by decide +kernel⟩
theorem sc__law_product : FnScope ["a", "b"] ["a", "b"] (defScope s__law_product) := ⟨rfl, rfl, rfl, by decide +kernel, rfl, by decide +kernel, by decide +kernel⟩
theorem sc__law_applied : FnScope ["transform", "point", "tx", "ty", "xx", "xy", "yx", "yy", "x", "y", "new_x"] ["transform", "point"] (defScope s__law_applied) := ⟨rfl, rfl, rfl, by decide +kernel, rfl, by decide +kernel, by decide +kernel⟩
theorem sc__law_small : FnScope ["stream"] ["stream"] (defScope s__law_small) := ⟨rfl, rfl, rfl, by decide +kernel, rfl, by decide +kernel, by decide +kernel⟩
theorem sc__law_point : FnScope ["stream", "x"] ["stream"] (defScope s__law_point) := ⟨rfl, rfl, rfl, by decide +kernel, rfl, by decide +kernel, by decide +kernel⟩
theorem sc__law_transform : FnScope ["stream", "parts", "k"] ["stream"] (defScope s__law_transform) := ⟨rfl, rfl, rfl, by decide +kernel, rfl, by decide +kernel, by decide +kernel⟩
theorem sc__law_is_transform : FnScope ["actual", "part"] ["actual"] (defScope s__law_is_transform) := ⟨rfl, rfl, rfl, by decide +kernel, rfl, by decide +kernel, by decide +kernel⟩
theorem sc__law_no_inverse : FnScope ["transform", "e"] ["transform"] (defScope s__law_no_inverse) := ⟨rfl, rfl, rfl, by decide +kernel, rfl, by decide +kernel, by decide +kernel⟩
theorem sc_law : FnScope ["script", "stream", "first", "second", "point", "points", "both", "told", "determinant", "back"] ["script"] (defScope s_law) := ⟨rfl, rfl, rfl, by decide +kernel, rfl, by decide +kernel, by decide +kernel⟩
structure Txt (K : PySem.W.Frag) (mg : Str → Option Value) (A : Nat → Addr) (D : Nat → FuncData) : Prop where
  F_ratio : Fun K "ratio" "ratio" s_ratio (A 3) (D 3)
  m_ratio : mg "ratio" = some (.ref (A 3))
  b_ratio : Binds K (D 3) ["n", "d"] []
  F_add : Fun K "add" "add" s_add (A 4) (D 4)
  m_add : mg "add" = some (.ref (A 4))
  b_add : Binds K (D 4) ["a", "b"] []
  F_subtract : Fun K "subtract" "subtract" s_subtract (A 5) (D 5)
  m_subtract : mg "subtract" = some (.ref (A 5))
  b_subtract : Binds K (D 5) ["a", "b"] []
  F_multiply : Fun K "multiply" "multiply" s_multiply (A 6) (D 6)
  m_multiply : mg "multiply" = some (.ref (A 6))
  b_multiply : Binds K (D 6) ["a", "b"] []
  F_divide : Fun K "divide" "divide" s_divide (A 7) (D 7)
  m_divide : mg "divide" = some (.ref (A 7))
  b_divide : Binds K (D 7) ["a", "b"] []
  F_apply : Fun K "apply" "apply" s_apply (A 8) (D 8)
  m_apply : mg "apply" = some (.ref (A 8))
  b_apply : Binds K (D 8) ["transform", "point"] []
  F_moved_part : Fun K "moved_part" "moved_part" s_moved_part (A 9) (D 9)
  m_moved_part : mg "moved_part" = some (.ref (A 9))
  b_moved_part : Binds K (D 9) ["shift", "by_x", "by_y", "point"] []
  F_compose : Fun K "compose" "compose" s_compose (A 10) (D 10)
  m_compose : mg "compose" = some (.ref (A 10))
  b_compose : Binds K (D 10) ["first", "second"] []
  F_inverse : Fun K "inverse" "inverse" s_inverse (A 11) (D 11)
  m_inverse : mg "inverse" = some (.ref (A 11))
  b_inverse : Binds K (D 11) ["transform"] []
  F_sum_of_products : Fun K "sum_of_products" "sum_of_products" s_sum_of_products (A 12) (D 12)
  m_sum_of_products : mg "sum_of_products" = some (.ref (A 12))
  b_sum_of_products : Binds K (D 12) ["a", "b", "c", "d"] []
  F_negative : Fun K "negative" "negative" s_negative (A 13) (D 13)
  m_negative : mg "negative" = some (.ref (A 13))
  b_negative : Binds K (D 13) ["a"] []
  F__law_cell : Fun K "_law_cell" "_law_cell" s__law_cell (A 14) (D 14)
  m__law_cell : mg "_law_cell" = some (.ref (A 14))
  b__law_cell : Binds K (D 14) ["script", "k"] []
  F__law_stream : Fun K "_law_stream" "_law_stream" s__law_stream (A 15) (D 15)
  m__law_stream : mg "_law_stream" = some (.ref (A 15))
  b__law_stream : Binds K (D 15) ["cell"] []
  F__law_next : Fun K "_law_next" "_law_next" s__law_next (A 16) (D 16)
  m__law_next : mg "_law_next" = some (.ref (A 16))
  b__law_next : Binds K (D 16) ["stream", "size"] []
  F__law_is_integer : Fun K "_law_is_integer" "_law_is_integer" s__law_is_integer (A 17) (D 17)
  m__law_is_integer : mg "_law_is_integer" = some (.ref (A 17))
  b__law_is_integer : Binds K (D 17) ["actual"] []
  F__law_ratio : Fun K "_law_ratio" "_law_ratio" s__law_ratio (A 18) (D 18)
  m__law_ratio : mg "_law_ratio" = some (.ref (A 18))
  b__law_ratio : Binds K (D 18) ["n", "d"] []
  F__law_is_number : Fun K "_law_is_number" "_law_is_number" s__law_is_number (A 19) (D 19)
  m__law_is_number : mg "_law_is_number" = some (.ref (A 19))
  b__law_is_number : Binds K (D 19) ["actual"] []
  F__law_sum : Fun K "_law_sum" "_law_sum" s__law_sum (A 20) (D 20)
  m__law_sum : mg "_law_sum" = some (.ref (A 20))
  b__law_sum : Binds K (D 20) ["a", "b"] []
  F__law_difference : Fun K "_law_difference" "_law_difference" s__law_difference (A 21) (D 21)
  m__law_difference : mg "_law_difference" = some (.ref (A 21))
  b__law_difference : Binds K (D 21) ["a", "b"] []
  F__law_product : Fun K "_law_product" "_law_product" s__law_product (A 22) (D 22)
  m__law_product : mg "_law_product" = some (.ref (A 22))
  b__law_product : Binds K (D 22) ["a", "b"] []
  F__law_applied : Fun K "_law_applied" "_law_applied" s__law_applied (A 23) (D 23)
  m__law_applied : mg "_law_applied" = some (.ref (A 23))
  b__law_applied : Binds K (D 23) ["transform", "point"] []
  F__law_small : Fun K "_law_small" "_law_small" s__law_small (A 24) (D 24)
  m__law_small : mg "_law_small" = some (.ref (A 24))
  b__law_small : Binds K (D 24) ["stream"] []
  F__law_point : Fun K "_law_point" "_law_point" s__law_point (A 25) (D 25)
  m__law_point : mg "_law_point" = some (.ref (A 25))
  b__law_point : Binds K (D 25) ["stream"] []
  F__law_transform : Fun K "_law_transform" "_law_transform" s__law_transform (A 26) (D 26)
  m__law_transform : mg "_law_transform" = some (.ref (A 26))
  b__law_transform : Binds K (D 26) ["stream"] []
  F__law_is_transform : Fun K "_law_is_transform" "_law_is_transform" s__law_is_transform (A 27) (D 27)
  m__law_is_transform : mg "_law_is_transform" = some (.ref (A 27))
  b__law_is_transform : Binds K (D 27) ["actual"] []
  F__law_no_inverse : Fun K "_law_no_inverse" "_law_no_inverse" s__law_no_inverse (A 28) (D 28)
  m__law_no_inverse : mg "_law_no_inverse" = some (.ref (A 28))
  b__law_no_inverse : Binds K (D 28) ["transform"] []
  F_law : Fun K "law" "law" s_law (A 29) (D 29)
  m_law : mg "law" = some (.ref (A 29))
  b_law : Binds K (D 29) ["script"] []
  x_FontError : Z.ExcX K mg "FontError" (A 0)
  x_TooGreat : Z.ExcX K mg "TooGreat" (A 1)
  x_DivisionByZero : Z.ExcX K mg "DivisionByZero" (A 2)
  e_FontError_FontError : PySem.W.subIn K (.ref (A 0)) (.ref (A 0)) = some true
  e_FontError_TooGreat : PySem.W.subIn K (.ref (A 0)) (.ref (A 1)) = some false
  e_FontError_DivisionByZero : PySem.W.subIn K (.ref (A 0)) (.ref (A 2)) = some false
  e_TooGreat_FontError : PySem.W.subIn K (.ref (A 1)) (.ref (A 0)) = some true
  e_TooGreat_TooGreat : PySem.W.subIn K (.ref (A 1)) (.ref (A 1)) = some true
  e_TooGreat_DivisionByZero : PySem.W.subIn K (.ref (A 1)) (.ref (A 2)) = some false
  e_DivisionByZero_FontError : PySem.W.subIn K (.ref (A 2)) (.ref (A 0)) = some true
  e_DivisionByZero_TooGreat : PySem.W.subIn K (.ref (A 2)) (.ref (A 1)) = some false
  e_DivisionByZero_DivisionByZero : PySem.W.subIn K (.ref (A 2)) (.ref (A 2)) = some true
  z_ValueError : mg "ValueError" = none
  z_abs : mg "abs" = none
  z_bool : mg "bool" = none
  z_int : mg "int" = none
  z_isinstance : mg "isinstance" = none
  z_len : mg "len" = none
  z_range : mg "range" = none
  z_tuple : mg "tuple" = none
  l_gcd : mg "gcd" = some (.builtin "math.gcd")
  c_ZERO : mg "ZERO" = some (.ref (A 30))
  d_ZERO : ∀ H : Hp, Dp K H (.ref (A 30)) (.tuple [(.int (0)), (.int (1))])
  c_LIMIT : ∃ u, mg "LIMIT" = some u ∧ RelV (.int (1000000000000000000)) u
local macro_rules | `(tactic| walk_at "z1") => `(tactic| first
  | with_reducible refine z_seq ?_
  | with_reducible refine z_asg ?_
  | with_reducible refine z_asgS ?_
  | with_reducible refine z_ifs ?_
  | ((with_reducible refine' z_var ?h ?_); case h => with_unfolding_all exact rfl)
  | with_reducible refine z_c ?_
  | with_reducible refine z_op ?_
  | with_reducible refine z_un ?_
  | with_reducible refine z_I0 ?_
  | ((with_reducible refine z_I ?h ?_); case h => first | (exact Or.inr ⟨by decide, by decide⟩) | (exact Or.inl ⟨by decide, by decide⟩) | (show (0 : Int) < _; first | assumption | omega))
  | with_reducible refine z_U ?_
  | with_reducible refine z_eqI ?_
  | with_reducible refine z_neI ?_
  | with_reducible refine z_test ?_
  | with_reducible refine z_tB ?_
  | with_reducible refine z_bl ?_
  | with_reducible refine z_notT ?_
  | with_reducible refine z_andT ?_
  | with_reducible refine z_orT ?_
  | with_reducible refine z_andV ?_
  | with_reducible refine z_orV ?_
  | with_reducible refine z_notV ?_
  | with_reducible refine z_ifE ?_
  | with_reducible refine z_ifT ?_
  | with_reducible refine z_ifF ?_
  | with_reducible refine z_ifNT ?_
  | with_reducible refine z_ifNF ?_
  | with_reducible refine z_chain ?_
  | with_reducible refine z_nil ?_
  | with_reducible refine z_cons ?_
  | with_reducible refine z_tup ?_
  | with_reducible refine z_lst ?_
  | with_reducible refine z_cb ?_
  | with_reducible refine z_call ?_
  | with_reducible refine z_callS ?_
  | with_reducible refine z_int1 ?_
  | with_reducible refine z_int1b ?_
  | with_reducible refine z_abs ?_
  | with_reducible refine z_gcd ?_
  | with_reducible refine z_ret ?_
  | with_reducible refine z_retN ?_
  | with_reducible refine z_drop ?_
  | with_reducible refine z_next ?_
  | with_reducible refine z_brk ?_
  | with_reducible refine z_cont ?_
  | with_reducible refine z_par ?_
  | with_reducible refine z_two ?_
  | with_reducible refine z_asgT ?_
  | with_reducible refine z_sl ?_
  | with_reducible refine z_noPart ?_
  | with_reducible refine z_part ?_
  | with_reducible refine z_partI ?_
  | with_reducible refine z_gName ?_
  | with_reducible refine z_gcons ?_
  | with_reducible refine z_gnil ?_
  | ((with_reducible refine' z_up ?h ?hm ?_); (case h => walk_at "sq"); (case hm => exact rfl))
  | ((with_reducible refine' z_gT ?h ?hm ?_); (case h => walk_at "sq"); (case hm => exact rfl))
  | with_reducible refine z_isII ?_
  | with_reducible refine z_isIB ?_
  | with_reducible refine z_isBB ?_
  | ((with_reducible refine' z_isT ?h ?_); (case h => walk_at "sq"))
  | ((with_reducible refine' z_isLL ?h ?_); case h => assumption)
  | ((with_reducible refine z_newT ?h ?_); case h => exact Nat.le_of_ble_eq_true rfl)
  | ((with_reducible refine z_newL ?h ?_); case h => exact Nat.le_of_ble_eq_true rfl)
  | ((with_reducible refine' z_ixL ?h ?h2 ?_); (case h => walk_at "sq"); (case h2 => exact rfl))
  | ((with_reducible refine' z_ixT ?h ?h2 ?_); (case h => walk_at "sq"); (case h2 => exact rfl))
  | ((with_reducible refine' z_lenL ?h ?_); case h => walk_at "sq")
  | ((with_reducible refine' z_lenT ?h ?_); case h => walk_at "sq")
  | ((with_reducible refine z_ifYes ?h ?_); (case h => exact rfl))
  | ((with_reducible refine z_ifNo ?h ?_); (case h => exact rfl)))
local macro_rules | `(tactic| walk_at "sq") => `(tactic| first | assumption | exact Or.inl (Or.inl (by assumption)) | exact Or.inl (Or.inl upd_same))
local macro_rules | `(tactic| walk_at "z") => `(tactic| repeat (walk_at "z1"))
/-! ### promises -/
def sp__law_cell (K : PySem.W.Frag) : Sp := fun vs H Q _ => ∃ (l : Addr) (ns : List Int) (j : Nat), vs = [.ref l, .int (j : Int)] ∧ SqL K H l (ns.map V.int) ∧ ∀ v, Q (.int v) H
/-- a stream: three ints, whatever they are -/
def IsStm (H : Hp) (p : Addr) : Prop := ∃ a b m : Int, H p = some (.lst [.int a, .int b, .int m])
def sp__law_stream : Sp := fun vs H Q _ => ∃ c : Int, vs = [.int c] ∧ ∀ p H' a b m, H p = none → Same H H' → H' p = some (.lst [.int a, .int b, .int m]) → Q (.ref p) H'
def sp__law_next : Sp := fun vs H Q _ => ∃ (p : Addr) (z : Int), vs = [.ref p, .int z] ∧ IsStm H p ∧ 0 < z ∧ z.natAbs < 2 ^ 1000 ∧ ∀ v a b m, 0 ≤ v → v < z → Q (.int v) (upd H p (.lst [.int a, .int b, .int m]))
section
theorem ok__law_cell {P : Program} {w : World} {K : PySem.W.Frag} {mg : Str → Option Value} {base : Heap} {A : Nat → Addr} {D : Nat → FuncData} (T : Txt K mg A D) : FnOk P w K mg base (L2.CX P w) 1 (A 14) (D 14) ["script", "k"] (sp__law_cell K) := by
  refine T.F__law_cell.okX sc__law_cell (fun vs H Q E h => ?_) (fun cdv A' outer s H vs Q E hr h => ?_)
  · obtain ⟨l, ns, j, rfl, _⟩ := h
    rfl
  obtain ⟨l, ns, j, rfl, hS, q⟩ := h
  refine ⟨_, (pss_cons (ps_if (pt_cmpR op_lt (pv 1) (pe_callB Z.c_len (by rfl) T.z_len (by decide +kernel) (pa_cons (pv 0) pa_nil)) (nomark _))
  (pss_one (ps_ret (pe_ix ix_list (pv 0) (pv 1) (fun _ _ => rfl))))
  pss_nil)
  (pss_one (ps_ret pe_int))), ?_⟩
  walk_at "z"
  refine z_if (fun hj => ?_) (fun _ => ?_)
  · walk_at "z"
    rw [List.length_map] at hj
    have hj' : j < ns.length := by omega
    refine z_ixL hS (v := .int ns[j]) (atI_nat (by rw [List.getElem?_map, List.getElem?_eq_getElem hj']; rfl)) (q _)
  · walk_at "z"
    exact q 0
theorem ok__law_stream {P : Program} {w : World} {K : PySem.W.Frag} {mg : Str → Option Value} {base : Heap} {A : Nat → Addr} {D : Nat → FuncData} (T : Txt K mg A D) : FnOk P w K mg base (L2.CX P w) 1 (A 15) (D 15) ["cell"] sp__law_stream := by
  refine T.F__law_stream.okX sc__law_stream (fun vs H Q E h => ?_) (fun cdv A' outer s H vs Q E hr h => ?_)
  · obtain ⟨c, rfl, _⟩ := h
    rfl
  obtain ⟨c, rfl, q⟩ := h
  refine ⟨_, (pss_cons (ps_if (pt_cmpR op_ge (pv 0) (Z.pe_powc (v := 1000000000000000000) ⟨by decide, by decide, by decide⟩ (by decide)) (nomark _))
  (pss_one (ps_ret (pe_lst (pa_cons (pv 0) (pa_cons pe_int (pa_cons (pe_op op_mod (pe_callTy Z.c_int (by rfl) T.z_int (by decide +kernel) (pa_cons (pv 0) pa_nil)) pe_int) pa_nil))))))
  pss_nil)
  (pss_one (ps_ret (pe_lst (pa_cons pe_int (pa_cons pe_int (pa_cons (pe_op op_mod (pe_callTy Z.c_int (by rfl) T.z_int (by decide +kernel) (pa_cons (pv 0) pa_nil)) pe_int) pa_nil))))))), ?_⟩
  walk_at "z"
  refine z_if (fun hj => ?_) (fun _ => ?_)
  · walk_at "z"
    exact fun p H' hp s h => q p H' _ _ _ hp s h
  · walk_at "z"
    exact fun p H' hp s h => q p H' _ _ _ hp s h
theorem ok__law_next {P : Program} {w : World} {K : PySem.W.Frag} {mg : Str → Option Value} {base : Heap} {A : Nat → Addr} {D : Nat → FuncData} (T : Txt K mg A D) : FnOk P w K mg base (L2.CX P w) 1 (A 16) (D 16) ["stream", "size"] sp__law_next := by
  refine T.F__law_next.okX sc__law_next (fun vs H Q E h => ?_) (fun cdv A' outer s H vs Q E hr h => ?_)
  · obtain ⟨p, z, rfl, _⟩ := h
    rfl
  obtain ⟨p, z, rfl, ⟨a, b, m, hp⟩, hz, hz2, q⟩ := h
  refine ⟨_, (pss_cons (ps_if (pt_cmpR op_gt (pe_ix ix_list (pv 0) pe_int (fun _ _ => rfl)) pe_int (nomark _))
  (pss_cons (ps_set (i := 2) sc__law_next.nd rfl (.inl rfl) (pe_op op_mod (pe_callTy Z.c_int (by rfl) T.z_int (by decide +kernel) (pa_cons (pe_ix ix_list (pv 0) pe_int (fun _ _ => rfl)) pa_nil)) (pv 1)))
  (pss_cons (ps_asg (pe_op op_fdivW (pe_ix ix_list (pv 0) pe_int (fun _ _ => rfl)) (pv 1)) (pg_sub (pv 0) pe_int set_list))
  (pss_one (ps_ret (pv 2)))))
  pss_nil)
  (pss_cons (ps_asg (pe_op op_add (pe_ix ix_list (pv 0) pe_int (fun _ _ => rfl)) pe_int) (pg_sub (pv 0) pe_int set_list))
  (pss_cons (ps_set (i := 3) sc__law_next.nd rfl (.inl rfl) (pe_op op_mod (pe_callTy Z.c_int (by rfl) T.z_int (by decide +kernel) (pa_cons (pe_op op_add (pe_op op_mul (pe_ix ix_list (pv 0) pe_int (fun _ _ => rfl)) pe_int) (pe_op op_mul (pe_ix ix_list (pv 0) pe_int (fun _ _ => rfl)) pe_int)) pa_nil)) pe_int))
  (pss_cons (ps_set (i := 3) sc__law_next.nd rfl (.inl rfl) (pe_op op_mod (pe_callTy Z.c_int (by rfl) T.z_int (by decide +kernel) (pa_cons (pe_op op_add (pe_op op_mulW (pv 3) (pv 3)) (pe_op op_mul (pe_ix ix_list (pv 0) pe_int (fun _ _ => rfl)) pe_int)) pa_nil)) pe_int))
  (pss_cons (ps_set (i := 3) sc__law_next.nd rfl (.inl rfl) (pe_op op_mod (pe_callTy Z.c_int (by rfl) T.z_int (by decide +kernel) (pa_cons (pe_op op_add (pe_op op_mul (pv 3) pe_int) (pe_ix ix_list (pv 0) pe_int (fun _ _ => rfl))) pa_nil)) pe_int))
  (pss_one (ps_ret (pe_op op_mod (pe_callTy Z.c_int (by rfl) T.z_int (by decide +kernel) (pa_cons (pv 3) pa_nil)) (pv 1))))))))), ?_⟩
  walk_at "z"
  refine z_if (fun hj => ?_) (fun _ => ?_)
  · walk_at "z"
    refine z_I (wide_div hz hz2 (by decide) (by decide)) ?_
    walk_at "z"
    refine z_setL hp rfl ?_
    walk_at "z"
    exact q _ _ _ _ (Int.emod_nonneg _ (by omega)) (Int.emod_lt_of_pos _ hz)
  · walk_at "z"
    refine z_setL hp rfl ?_
    have hp1 : (upd H p (HO.lst ([V.int a, V.int b, V.int m].set (Int.toNat 1) (V.int (b + 1))))) p = some (.lst [V.int a, V.int (b + 1), V.int m]) := upd_same
    walk_at "z"
    refine z_I ?_ ?_
    · exact wide_mul (a := 32) (b := 32) (by omega) (by omega) (by decide) (by decide) (by decide)
    walk_at "z"
    exact q _ _ _ _ (Int.emod_nonneg _ (by omega)) (Int.emod_lt_of_pos _ hz)
end
def sp__law_is_integer : Sp := fun vs H Q _ => ∃ i, vs = [.int i] ∧ Q (.bl true) H
section
theorem ok__law_is_integer {P : Program} {w : World} {K : PySem.W.Frag} {mg : Str → Option Value} {base : Heap} {A : Nat → Addr} {D : Nat → FuncData} (T : Txt K mg A D) : FnOk P w K mg base (L2.CX P w) 1 (A 17) (D 17) ["actual"] sp__law_is_integer := by
  refine T.F__law_is_integer.okX sc__law_is_integer (fun vs H Q E h => ?_) (fun cdv A' outer s H vs Q E hr h => ?_)
  · obtain ⟨i, rfl, _⟩ := h
    rfl
  obtain ⟨i, rfl, q⟩ := h
  refine ⟨_, (pss_one (ps_ret (pe_and (pe_callB call_isi (by rfl) T.z_isinstance (by decide +kernel) (pa_cons (pv 0) (pa_cons (pe_bltn (v := .ty "int") (by rfl) T.z_int (by decide +kernel) rfl) pa_nil))) (pe_one (pe_not (pe_callB call_isi (by rfl) T.z_isinstance (by decide +kernel) (pa_cons (pv 0) (pa_cons (pe_bltn (v := .ty "bool") (by rfl) T.z_bool (by decide +kernel) rfl) pa_nil)))))))), ?_⟩
  walk_at "z"
  exact q
end
theorem isI {i : Int} {H : Hp} {Q : VK} {E : XK} (q : Q (.bl true) H) : sp__law_is_integer [.int i] H Q E := ⟨i, rfl, q⟩
local macro_rules | `(tactic| walk_at "z1") => `(tactic| with_reducible refine isI ?_)

/-! ### numbers in lowest terms -/
theorem gd_pos {n d : Int} (h : d ≠ 0) : 0 < gd n d := by
  unfold gd
  have : 0 < Nat.gcd n.natAbs d.natAbs := Nat.gcd_pos_of_pos_right _ (by omega)
  omega
theorem gd_dvd_l (n d : Int) : gd n d ∣ n := by
  unfold gd
  exact Int.dvd_trans (Int.natCast_dvd_natCast.mpr (Nat.gcd_dvd_left _ _)) (Int.natAbs_dvd_self)
theorem gd_dvd_r (n d : Int) : gd n d ∣ d := by
  unfold gd
  exact Int.dvd_trans (Int.natCast_dvd_natCast.mpr (Nat.gcd_dvd_right _ _)) (Int.natAbs_dvd_self)
theorem rd_pos {n d : Int} (h : d ≠ 0) : 0 < rd n d := by
  have g := gd_pos (n := n) h
  obtain ⟨k, hk⟩ := gd_dvd_r n d
  unfold rd
  split
  · rename_i hd
    have e : -d = gd n d * (-k) := by rw [Int.mul_neg, ← hk]
    rw [e, Int.mul_ediv_cancel_left _ (by omega)]
    have : ¬ 0 ≤ k := fun z => by have := Int.mul_nonneg (Int.le_of_lt g) z; omega
    omega
  · rename_i hd
    have e : d / gd n d = k := Int.ediv_eq_of_eq_mul_right (by omega) hk
    rw [e]
    have : ¬ k ≤ 0 := fun z => by have := Int.mul_nonpos_of_nonneg_of_nonpos (Int.le_of_lt g) z; omega
    omega
/-- what the program divides: by the negative of the common divisor where d is negative -/
theorem fdiv_neg {n g : Int} (hg : 0 < g) (h : g ∣ n) : Int.fdiv n (-g) = -n / g := by
  obtain ⟨k, rfl⟩ := h
  rw [show g * k = (-g) * (-k) by rw [Int.neg_mul_neg], Int.mul_fdiv_cancel_left _ (by omega), Int.neg_mul_neg, show -(g * k) = g * (-k) by rw [Int.mul_neg], Int.mul_ediv_cancel_left _ (by omega)]
theorem fdiv_pos {n g : Int} (hg : 0 < g) : Int.fdiv n g = n / g := Int.fdiv_eq_ediv_of_nonneg _ (by omega)
theorem gd_log {n d : Int} {k : Nat} (h : d ≠ 0) (hd : d.natAbs < 2 ^ k) : (gd n d).natAbs < 2 ^ k := by
  have : Nat.gcd n.natAbs d.natAbs ≤ d.natAbs := Nat.gcd_le_right _ (by omega)
  unfold gd
  omega
theorem cfd {j : Int} (h : j ≠ 0) (hj : j.natAbs < 2 ^ 1000) : CFd 0 j := ⟨h, Nat.lt_of_lt_of_le (PySem.Flt.log2_lt_of (by decide) hj) (by decide)⟩
theorem lt4 {a : Nat} (h : a < 2 ^ 400) : a < 2 ^ 1000 := Nat.lt_of_lt_of_le h (Nat.pow_le_pow_right (by decide) (by decide))
theorem lt1000 {a : Nat} (h : a < 2 ^ 100) : a < 2 ^ 1000 := Nat.lt_of_lt_of_le h (Nat.pow_le_pow_right (by decide) (by decide))
/-! ### ratio -/
/-- a value that stands for d is handed back -/
def RetD (K : PySem.W.Frag) (H : Hp) (d : PyData) (Q : VK) : Prop := ∀ v H', Same H H' → Dp K H' v d → Q v H'
def OutQ (K : PySem.W.Frag) (A : Nat → Addr) (r : Rat) (H : Hp) (Q : VK) (E : XK) : Prop := (¬ fitsQ r → E (.ref (A 1)) none H) ∧ (fitsQ r → RetD K H (qD r) Q)
def sp_ratio (K : PySem.W.Frag) (A : Nat → Addr) : Sp := fun vs H Q E => ∃ n d : Int, vs = [.int n, .int d] ∧ n.natAbs < 2 ^ 1000 ∧ d.natAbs < 2 ^ 1000 ∧ (d = 0 → E (.ref (A 2)) none H) ∧ (d ≠ 0 → OutQ K A (Rat.divInt n d) H Q E)
theorem fits_q {n d : Int} (h : d ≠ 0) : fitsQ (Rat.divInt n d) ↔ (-lim ≤ rn n d ∧ rn n d ≤ lim ∧ rd n d ≤ lim) := by
  rw [rn_q h, rd_q h]
  rfl
section
theorem ok_ratio {P : Program} {w : World} {K : PySem.W.Frag} {mg : Str → Option Value} {base : Heap} {A : Nat → Addr} {D : Nat → FuncData} (T : Txt K mg A D) : FnOk P w K mg base (L2.CX P w) 1 (A 3) (D 3) ["n", "d"] (sp_ratio K A) := by
  refine T.F_ratio.okX sc_ratio (fun vs H Q E h => ?_) (fun cdv A' outer s H vs Q E hr h => ?_)
  · obtain ⟨n, d, rfl, _⟩ := h
    rfl
  obtain ⟨n, d, rfl, hn, hd, k0, kO⟩ := h
  refine ⟨_, (pss_cons (ps_if (pt_cmpR op_eq (pv 1) pe_int (nomark _))
  (pss_one (ps_raise rfl (takes_of rfl rfl rfl rfl) (Z.pmk T.x_DivisionByZero (by rfl))))
  pss_nil)
  (pss_cons (ps_set (i := 2) sc_ratio.nd rfl (.inl rfl) (pe_callBfun cr_gcd (by rfl) T.l_gcd (pa_cons (pv 0) (pa_cons (pv 1) pa_nil))))
  (pss_cons (ps_if (pt_cmpR op_lt (pv 1) pe_int (nomark _))
  (pss_one (ps_set (i := 2) sc_ratio.nd rfl (.inl rfl) (pe_un un_neg (pv 2))))
  pss_nil)
  (pss_cons (ps_set (i := 3) sc_ratio.nd rfl (.inl rfl) (pe_op Z.op_fdivZ (pv 0) (pv 2)))
  (pss_cons (ps_set (i := 4) sc_ratio.nd rfl (.inl rfl) (pe_op Z.op_fdivZ (pv 1) (pv 2)))
  (pss_cons (ps_if (PW.pt (pw_or (pt_not (pt_chain op_le op_le (pe_un un_neg (Z.pe_globE T.c_LIMIT)) (pv 3) (Z.pe_globE T.c_LIMIT))) (pw_or1 (pt_cmpR op_gt (pv 4) (Z.pe_globE T.c_LIMIT) (nomark _)))))
  (pss_one (ps_raise rfl (takes_of rfl rfl rfl rfl) (Z.pmk T.x_TooGreat (by rfl))))
  pss_nil)
  (pss_one (ps_ret (pe_tup (pa_cons (pv 3) (pa_cons (pv 4) pa_nil))))))))))), ?_⟩
  walk_at "z"
  refine z_if (fun h0 => k0 h0) (fun h0 => ?_)
  walk_at "z"
  have hg := gd_pos (n := n) h0
  have hgl := gd_log (n := n) h0 hd
  have end1 : ¬ (-lim ≤ rn n d ∧ rn n d ≤ lim ∧ rd n d ≤ lim) → E (.ref (A 1)) none H := fun f => (kO h0).1 fun z => f ((fits_q h0).mp z)
  have end2 : (-lim ≤ rn n d ∧ rn n d ≤ lim ∧ rd n d ≤ lim) → ∀ p H', Same H H' → H' p = some (.tup [.int (rn n d), .int (rd n d)]) → Q (.ref p) H' := fun f p H' s h => (kO h0).2 ((fits_q h0).mpr f) (.ref p) H' s (dp_mkq (by rw [← rn_q h0, ← rd_q h0]; exact h))
  refine z_if (fun hd0 => ?_) (fun hd0 => ?_)
  · have e1 : Int.fdiv n (-((Nat.gcd n.natAbs d.natAbs : Nat) : Int)) = rn n d := by
      show Int.fdiv n (-gd n d) = rn n d
      rw [fdiv_neg hg (gd_dvd_l n d)]
      unfold rn
      rw [if_pos hd0]
    have e2 : Int.fdiv d (-((Nat.gcd n.natAbs d.natAbs : Nat) : Int)) = rd n d := by
      show Int.fdiv d (-gd n d) = rd n d
      rw [fdiv_neg hg (gd_dvd_r n d)]
      unfold rd
      rw [if_pos hd0]
    walk_at "z"
    refine z_I (show CFd _ (-gd n d) from cfd (by omega) (by omega)) ?_
    rw [e1]
    walk_at "z"
    refine z_I (show CFd _ (-gd n d) from cfd (by omega) (by omega)) ?_
    rw [e2]
    walk_at "z"
    refine z_if (fun c1 => ?_) (fun c1 => ?_)
    · walk_at "z"
      refine z_ifN (fun c2 => ?_) (fun c2 => ?_)
      · walk_at "z"
        exact end1 fun f => c2 f.2.1
      · walk_at "z"
        refine z_if (fun c3 => ?_) (fun c3 => ?_)
        · exact end1 fun f => by have := f.2.2; unfold lim at this; omega
        · walk_at "z"
          exact fun p H' _ s h => end2 ⟨c1, c2, by unfold lim; omega⟩ p H' s h
    · walk_at "z"
      exact end1 fun f => c1 f.1
  · have e1 : Int.fdiv n (((Nat.gcd n.natAbs d.natAbs : Nat) : Int)) = rn n d := by
      show Int.fdiv n (gd n d) = rn n d
      rw [fdiv_pos hg]
      unfold rn
      rw [if_neg hd0]
    have e2 : Int.fdiv d (((Nat.gcd n.natAbs d.natAbs : Nat) : Int)) = rd n d := by
      show Int.fdiv d (gd n d) = rd n d
      rw [fdiv_pos hg]
      unfold rd
      rw [if_neg hd0]
    walk_at "z"
    refine z_I (show CFd _ (gd n d) from cfd (by omega) (by omega)) ?_
    rw [e1]
    walk_at "z"
    refine z_I (show CFd _ (gd n d) from cfd (by omega) (by omega)) ?_
    rw [e2]
    walk_at "z"
    refine z_if (fun c1 => ?_) (fun c1 => ?_)
    · walk_at "z"
      refine z_ifN (fun c2 => ?_) (fun c2 => ?_)
      · walk_at "z"
        exact end1 fun f => c2 f.2.1
      · walk_at "z"
        refine z_if (fun c3 => ?_) (fun c3 => ?_)
        · exact end1 fun f => by have := f.2.2; unfold lim at this; omega
        · walk_at "z"
          exact fun p H' _ s h => end2 ⟨c1, c2, by unfold lim; omega⟩ p H' s h
    · walk_at "z"
      exact end1 fun f => c1 f.1
end

/-! ### the law's own Euclid -/
structure Eu (M : Nat) (G i a b : Nat) : Prop where
  g : Nat.gcd a b = G
  o : (i = 0 ∧ a * b = M) ∨ (b < a ∧ a * b * 2 ^ i ≤ 2 * M)
theorem Eu.start {a b : Nat} : Eu (a * b) (Nat.gcd a b) 0 a b := ⟨rfl, .inl ⟨rfl, rfl⟩⟩
theorem Eu.next {M G i a b : Nat} (h : Eu M G i a b) (hb : b ≠ 0) : Eu M G (i + 1) b (a % b) := by
  have hlt : a % b < b := Nat.mod_lt _ (by omega)
  refine ⟨?_, .inr ⟨hlt, ?_⟩⟩
  · rw [← h.g, Nat.gcd_comm a b, Nat.gcd_comm b (a % b)]
    exact (Nat.gcd_rec b a).symm
  · have hm : a * b * 2 ^ i ≤ 2 * M := by
      rcases h.o with ⟨z, w⟩ | ⟨_, w⟩
      · subst z
        rw [w]
        omega
      · exact w
    by_cases hab : a < b
    · have e : a % b = a := Nat.mod_eq_of_lt hab
      have hi : i = 0 ∧ a * b = M := by
        rcases h.o with z | z
        · exact z
        · omega
      obtain ⟨rfl, w⟩ := hi
      rw [e, Nat.mul_comm b a, w]
      omega
    · have h2 : 2 * (a % b) ≤ a := by
        have h3 : a % b ≤ a - b := by
          rw [Nat.mod_eq_sub_mod (by omega)]
          exact Nat.mod_le _ _
        omega
      have h4 : b * (a % b) * 2 ≤ a * b := by
        rw [Nat.mul_assoc, Nat.mul_comm (a % b) 2, Nat.mul_comm a b]
        exact Nat.mul_le_mul_left b h2
      calc b * (a % b) * 2 ^ (i + 1) = (b * (a % b) * 2) * 2 ^ i := by rw [Nat.pow_succ, Nat.mul_comm (2 ^ i) 2, ← Nat.mul_assoc]
        _ ≤ (a * b) * 2 ^ i := Nat.mul_le_mul_right _ h4
        _ ≤ 2 * M := hm
set_option exponentiation.threshold 2000 in
theorem Eu.zero {G a b x y : Nat} (h : Eu (x * y) G 1000 a b) (hx : x < 2 ^ 400) (hy : y < 2 ^ 400) : b = 0 := by
  have h1 : x * y < 2 ^ 400 * 2 ^ 400 := Nat.mul_lt_mul'' hx hy
  rcases h.o with ⟨z, _⟩ | ⟨w, h2⟩
  · omega
  have h3 : a * b = 0 := by
    rcases Nat.eq_zero_or_pos (a * b) with z | z
    · exact z
    · have : 2 ^ 1000 ≤ a * b * 2 ^ 1000 := Nat.le_mul_of_pos_left _ z
      have e : 2 * (2 ^ 400 * 2 ^ 400) < 2 ^ 1000 := by decide
      omega
  rcases Nat.mul_eq_zero.mp h3 with z | z
  · omega
  · exact z
def sp__law_ratio (K : PySem.W.Frag) : Sp := fun vs H Q _ => ∃ n d : Int, vs = [.int n, .int d] ∧ d ≠ 0 ∧ n.natAbs < 2 ^ 400 ∧ d.natAbs < 2 ^ 400 ∧ RetD K H (qD (Rat.divInt n d)) Q
theorem abs_eq (n : Int) : (if n < 0 then -n else n) = (n.natAbs : Int) := by
  split <;> omega
section
theorem ok__law_ratio {P : Program} {w : World} {K : PySem.W.Frag} {mg : Str → Option Value} {base : Heap} {A : Nat → Addr} {D : Nat → FuncData} (T : Txt K mg A D) : FnOk P w K mg base (L2.CX P w) 1 (A 18) (D 18) ["n", "d"] (sp__law_ratio K) := by
  refine T.F__law_ratio.okX sc__law_ratio (fun vs H Q E h => ?_) (fun cdv A' outer s H vs Q E hr h => ?_)
  · obtain ⟨n, d, rfl, _⟩ := h
    rfl
  obtain ⟨n, d, rfl, h0, hn, hd, q⟩ := h
  refine ⟨_, (pss_cons (ps_set (i := 2) sc__law_ratio.nd rfl (.inl rfl) (pe_callB Z.c_abs (by rfl) T.z_abs (by decide +kernel) (pa_cons (pv 0) pa_nil)))
  (pss_cons (ps_set (i := 3) sc__law_ratio.nd rfl (.inl rfl) (pe_callB Z.c_abs (by rfl) T.z_abs (by decide +kernel) (pa_cons (pv 1) pa_nil)))
  (pss_cons (ps_for (passes_of rfl) rfl (pi_range1 (by rfl) T.z_range (pa_cons pe_int pa_nil)) (pg_name (i := 4) sc__law_ratio.nd rfl (.inl rfl))
  (pss_cons (ps_if (pt_cmpR op_eq (pv 3) pe_int (nomark _))
  (pss_one ps_break)
  pss_nil)
  (pss_one (ps_par (i := 2) (j := 3) (by rfl) sc__law_ratio.nd rfl rfl (by decide) rfl rfl (pa_cons (pv 3) (pa_cons (pe_op op_mod (pe_callTy Z.c_int (by rfl) T.z_int (by decide +kernel) (pa_cons (pv 2) pa_nil)) (pv 3)) pa_nil)) (by rfl)))))
  (pss_cons (ps_if (pt_cmpR op_lt (pv 1) pe_int (nomark _))
  (pss_one (ps_set (i := 0) sc__law_ratio.nd rfl (.inl rfl) (pe_op op_sub pe_int (pv 0))))
  pss_nil)
  (pss_one (ps_ret (pe_tup (pa_cons (pe_op op_fdivW (pv 0) (pv 2)) (pa_cons (pe_op op_fdivW (pe_callB Z.c_abs (by rfl) T.z_abs (by decide +kernel) (pa_cons (pv 1) pa_nil)) (pv 2)) pa_nil))))))))), ?_⟩
  walk_at "z"
  rw [abs_eq, abs_eq]
  have fin : ∀ (σ' : L2.St) (kv : Option V), σ' = [some (.int n), some (.int d), some (.int (gd n d)), some (.int 0), kv] →
      (tSeq (tIfS (tTest (tOp (rI0 fun i j => V.bl (decide (i < j))) (tVar 1) (tC (V.int 0)))) (tAsg (tOp (rI0 fun i j => V.int (i - j)) (tC (V.int 0)) (tVar 0)) (gName 0)) tNext)
          (tRet (tTup (tCons (tOp (rI CDivW fun i j => V.int (i / j)) (tVar 0) (tVar 2)) (tCons (tOp (rI CDivW fun i j => V.int (i / j)) (tCB rAbs (tCons (tVar 1) tNil)) (tVar 2)) tNil))))
          { nx := fun x H' => Q V.non H', rt := Q }) σ' H := by
    rintro σ' kv rfl
    have hg := gd_pos (n := n) h0
    have hgl := gd_log (n := n) h0 hd
    walk_at "z"
    refine z_if (fun c => ?_) (fun c => ?_)
    · walk_at "z"
      refine z_I (wide_div hg hgl (by decide) (by decide)) ?_
      walk_at "z"
      refine z_I (wide_div hg hgl (by decide) (by decide)) ?_
      walk_at "z"
      have e1 : (0 - n) / gd n d = rn n d := by
        unfold rn
        rw [if_pos c, Int.zero_sub]
      have e2 : (if d < 0 then -d else d) / gd n d = rd n d := rfl
      rw [e1, e2]
      exact fun p H' _ s h => q (.ref p) H' s (dp_mkq (by rw [← rn_q h0, ← rd_q h0]; exact h))
    · walk_at "z"
      refine z_I (wide_div hg hgl (by decide) (by decide)) ?_
      walk_at "z"
      refine z_I (wide_div hg hgl (by decide) (by decide)) ?_
      walk_at "z"
      have e1 : n / gd n d = rn n d := by
        unfold rn
        rw [if_neg c]
      have e2 : (if d < 0 then -d else d) / gd n d = rd n d := rfl
      rw [e1, e2]
      exact fun p H' _ s h => q (.ref p) H' s (dp_mkq (by rw [← rn_q h0, ← rd_q h0]; exact h))
  refine z_forR1 1000 (by decide) (fun R q => by walk_at "z"; exact q) (fun i σ' H' => H' = H ∧ ∃ (a b : Nat) (kv : Option V), σ' = [some (.int n), some (.int d), some (.int (a : Int)), some (.int (b : Int)), kv] ∧ Eu (n.natAbs * d.natAbs) (Nat.gcd n.natAbs d.natAbs) i a b)
    ⟨rfl, _, _, _, rfl, Eu.start⟩ ?_ ?_
  · rintro i σ' H' hi ⟨rfl, a, b, kv, rfl, eu⟩
    walk_at "z"
    refine z_if (fun c => ?_) (fun c => ?_)
    · walk_at "z1"
      have hb : b = 0 := by omega
      subst hb
      have ha : a = Nat.gcd n.natAbs d.natAbs := by rw [← eu.g, Nat.gcd_zero_right]
      subst ha
      exact fin _ _ rfl
    · walk_at "z"
      refine ⟨rfl, b, a % b, some (.int (i : Int)), ?_, eu.next (by omega)⟩
      rw [Int.natCast_emod]
      rfl
  · rintro σ' H' ⟨rfl, a, b, kv, rfl, eu⟩
    have hb := eu.zero hn hd
    subst hb
    have ha : a = Nat.gcd n.natAbs d.natAbs := by rw [← eu.g, Nat.gcd_zero_right]
    subst ha
    exact fin _ _ rfl
end

def sp__law_is_number (K : PySem.W.Frag) : Sp := fun vs H Q _ => ∃ (v : V) (r : Rat), vs = [v] ∧ Dp K H v (qD r) ∧ Q (.bl true) H
section
theorem ok__law_is_number {P : Program} {w : World} {K : PySem.W.Frag} {mg : Str → Option Value} {base : Heap} {A : Nat → Addr} {D : Nat → FuncData} (T : Txt K mg A D) : FnOk P w K mg base (L2.CX P w) 2 (A 19) (D 19) ["actual"] (sp__law_is_number K) := by
  refine T.F__law_is_number.okX sc__law_is_number (fun vs H Q E h => ?_) (fun cdv A' outer s H vs Q E hr h => ?_)
  · obtain ⟨v, r, rfl, _⟩ := h
    rfl
  obtain ⟨v, r, rfl, hv, q⟩ := h
  obtain ⟨p, rfl, hp⟩ := dp_q hv
  refine ⟨_, (pss_cons (ps_if (PW.pt (pw_or (pt_not (pt_val (pe_callB call_isi (by rfl) T.z_isinstance (by decide +kernel) (pa_cons (pv 0) (pa_cons (pe_bltn (v := .ty "tuple") (by rfl) T.z_tuple (by decide +kernel) rfl) pa_nil))))) (pw_or1 (pt_cmpR op_ne (pe_callB Z.c_len (by rfl) T.z_len (by decide +kernel) (pa_cons (pv 0) pa_nil)) pe_int (nomark _)))))
  (pss_one (ps_ret pe_bl))
  pss_nil)
  (pss_one (ps_ret (pe_and (pe_call (ok__law_is_integer T) (hr.mono (by decide)) (by rfl) T.m__law_is_integer T.F__law_is_integer.kp T.b__law_is_integer .nil (passes_call (takes_of rfl rfl rfl rfl) (fun _ _ _ _ h => h)) (pa_cons (pe_ix ix_tup (pv 0) pe_int (fun _ _ => rfl)) pa_nil)) (pe_one (pe_call (ok__law_is_integer T) (hr.mono (by decide)) (by rfl) T.m__law_is_integer T.F__law_is_integer.kp T.b__law_is_integer .nil (passes_call (takes_of rfl rfl rfl rfl) (fun _ _ _ _ h => h)) (pa_cons (pe_ix ix_tup (pv 0) pe_int (fun _ _ => rfl)) pa_nil))))))), ?_⟩
  walk_at "z"
  exact q
end

/-! ### the draws of a law: the heap H0 stands, a stream stands at p -/
structure Sd (H0 H : Hp) (p : Addr) : Prop where
  same : Same H0 H
  fresh : H0 p = none
  stm : IsStm H p
theorem Sd.mk0 {H H' : Hp} {p : Addr} {a b m : Int} (h : H p = none) (s : Same H H') (e : H' p = some (.lst [.int a, .int b, .int m])) : Sd H H' p := ⟨s, h, a, b, m, e⟩
theorem Sd.mono {H0 H H' : Hp} {p : Addr} (S : Sd H0 H p) (s : Same H H') : Sd H0 H' p := by
  obtain ⟨a, b, m, e⟩ := S.stm
  exact ⟨S.same.trans s, S.fresh, a, b, m, s _ _ e⟩
theorem nx {H0 H : Hp} {p : Addr} {z : Int} {Q : VK} {E : XK} (S : Sd H0 H p) (hz : 0 < z) (hz2 : z.natAbs < 2 ^ 1000) (q : ∀ v H', 0 ≤ v → v < z → Sd H0 H' p → (∀ b, b ≠ p → H' b = H b) → Q (.int v) H') : sp__law_next [.ref p, .int z] H Q E := by
  refine ⟨p, z, rfl, S.stm, hz, hz2, fun v a b m h0 h1 => q v _ h0 h1 ⟨fun c o e => ?_, S.fresh, a, b, m, upd_same⟩ fun b hb => upd_ne hb⟩
  rw [upd_ne (ne_of_none e S.fresh)]
  exact S.same c o e
theorem Sd.ext {H0 H : Hp} {p q : Addr} {o : HO} (S : Sd H0 H p) (h : H q = none) : Sd H0 (upd H q o) p := by
  obtain ⟨a, b, m, hp⟩ := S.stm
  exact ⟨S.same.trans (same_upd h), S.fresh, a, b, m, by rw [upd_ne (ne_of_none hp h)]; exact hp⟩
theorem kp_refl {p : Addr} {H : Hp} : Kp p H H := fun _ _ _ e => e
theorem _root_.Z.Kp.trans' {p : Addr} {H H1 H2 : Hp} (a : Kp p H H1) (b : Kp p H1 H2) : Kp p H H2 := fun c o h e => b c o h (a c o h e)
theorem kp_eq {p : Addr} {H H' : Hp} (k : ∀ b, b ≠ p → H' b = H b) : Kp p H H' := fun b o h e => by
  rw [k b h]
  exact e
theorem kp_of {p : Addr} {H H' : Hp} (s : Same H H') : Kp p H H' := fun b x _ e => s b x e
theorem Sd.ne {H0 H : Hp} {p q : Addr} {xs : List V} (S : Sd H0 H p) (h : H q = some (.tup xs)) : q ≠ p := by
  obtain ⟨_, _, _, e⟩ := S.stm
  exact ne_of h e (by intro z; cases z)
theorem Sd.ne0 {H0 H : Hp} {p q : Addr} (S : Sd H0 H p) (h : H q = none) : q ≠ p := by
  obtain ⟨_, _, _, e⟩ := S.stm
  exact Ne.symm (ne_of_none e h)
theorem lt400 {a : Nat} (h : a < 2 ^ 100) : a < 2 ^ 400 := Nat.lt_of_lt_of_le h (Nat.pow_le_pow_right (by decide) (by decide))
theorem kp_sd {H0 H H' : Hp} {p : Addr} {K : PySem.W.Frag} {v : V} {d : PyData} (S : Sd H0 H p) (k : Kp p H H') (t : tupOnly d = true) (h : Dp K H v d) : Dp K H' v d := by
  obtain ⟨a, b, m, e⟩ := S.stm
  exact dp_kp k e t h
/-! ### the four operations, and comparing -/
def Bg (r : Rat) : Prop := r.num.natAbs < 2 ^ 200 ∧ r.den < 2 ^ 200
theorem _root_.Z.Bd.bg {r : Rat} {p q : Nat} (h : Bd r p q) (h1 : p < 2 ^ 200) (h2 : q < 2 ^ 200) : Bg r := ⟨Nat.lt_of_le_of_lt h.1 h1, Nat.lt_of_le_of_lt h.2 h2⟩
theorem fits_bg {r : Rat} (h : fitsQ r) : Bg r := by
  unfold fitsQ lim at h
  unfold Bg
  omega
theorem mul600 {a b : Int} (ha : a.natAbs < 2 ^ 200) (hb : b.natAbs < 2 ^ 200) : (a * b).natAbs < 2 ^ 400 := wide_lt ha hb
theorem add600 {a b : Int} (ha : a.natAbs < 2 ^ 400) (hb : b.natAbs < 2 ^ 400) : (a + b).natAbs < 2 ^ 1000 := by
  have h1 : (a + b).natAbs ≤ a.natAbs + b.natAbs := Int.natAbs_add_le a b
  have h2 : (2 : Nat) ^ 400 + 2 ^ 400 ≤ 2 ^ 1000 := by
    rw [show (2 : Nat) ^ 400 + 2 ^ 400 = 2 ^ 401 by rw [← Nat.two_mul, ← Nat.pow_succ']]
    exact Nat.pow_le_pow_right (by decide) (by decide)
  omega
theorem sub600 {a b : Int} (ha : a.natAbs < 2 ^ 400) (hb : b.natAbs < 2 ^ 400) : (a - b).natAbs < 2 ^ 1000 := by
  rw [Int.sub_eq_add_neg]
  exact add600 ha (by rw [Int.natAbs_neg]; exact hb)
theorem nat200 {n : Nat} (h : n < 2 ^ 200) : ((n : Int)).natAbs < 2 ^ 200 := by omega
def sp_op (K : PySem.W.Frag) (A : Nat → Addr) (f : Rat → Rat → Rat) : Sp := fun vs H Q E => ∃ (v w : V) (a b : Rat), vs = [v, w] ∧ Dp K H v (qD a) ∧ Dp K H w (qD b) ∧ Bg a ∧ Bg b ∧ OutQ K A (f a b) H Q E
def sp_divide (K : PySem.W.Frag) (A : Nat → Addr) : Sp := fun vs H Q E => ∃ (v w : V) (a b : Rat), vs = [v, w] ∧ Dp K H v (qD a) ∧ Dp K H w (qD b) ∧ Bg a ∧ Bg b ∧ (b = 0 → E (.ref (A 2)) none H) ∧ (b ≠ 0 → OutQ K A (a / b) H Q E)
theorem rat_use {K : PySem.W.Frag} {A : Nat → Addr} {n d : Int} {H : Hp} {Q : VK} {E : XK} (hn : n.natAbs < 2 ^ 1000) (hd : d.natAbs < 2 ^ 1000) (h0 : d ≠ 0) (k : OutQ K A (Rat.divInt n d) H Q E) : sp_ratio K A [.int n, .int d] H Q E := ⟨n, d, rfl, hn, hd, fun z => absurd z h0, fun _ => k⟩
def cmpQ (a b : Rat) : Int := if a < b then -1 else if b < a then 1 else 0
def sp_compare (K : PySem.W.Frag) : Sp := fun vs H Q _ => ∃ (v w : V) (a b : Rat), vs = [v, w] ∧ Dp K H v (qD a) ∧ Dp K H w (qD b) ∧ Bg a ∧ Bg b ∧ Q (.int (cmpQ a b)) H
section
theorem ok_add {P : Program} {w : World} {K : PySem.W.Frag} {mg : Str → Option Value} {base : Heap} {A : Nat → Addr} {D : Nat → FuncData} (T : Txt K mg A D) : FnOk P w K mg base (L2.CX P w) 2 (A 4) (D 4) ["a", "b"] (sp_op K A (· + ·)) := by
  refine T.F_add.okX sc_add (fun vs H Q E h => ?_) (fun cdv A' outer s H vs Q E hr h => ?_)
  · obtain ⟨v, w', a, b, rfl, _⟩ := h
    rfl
  obtain ⟨_, _, a, b, rfl, ha, hb, ga, gb, q⟩ := h
  obtain ⟨p, rfl, hp⟩ := dp_q ha
  obtain ⟨p2, rfl, hp2⟩ := dp_q hb
  refine ⟨_, (pss_one (ps_ret (pe_call (ok_ratio T) (hr.mono (by decide)) (by rfl) T.m_ratio T.F_ratio.kp T.b_ratio .nil (passes_call (takes_of rfl rfl rfl rfl) (fun _ _ _ _ h => h)) (pa_cons (pe_op op_add (pe_op op_mulW (pe_ix ix_tup (pv 0) pe_int (fun _ _ => rfl)) (pe_ix ix_tup (pv 1) pe_int (fun _ _ => rfl))) (pe_op op_mulW (pe_ix ix_tup (pv 1) pe_int (fun _ _ => rfl)) (pe_ix ix_tup (pv 0) pe_int (fun _ _ => rfl)))) (pa_cons (pe_op op_mulW (pe_ix ix_tup (pv 0) pe_int (fun _ _ => rfl)) (pe_ix ix_tup (pv 1) pe_int (fun _ _ => rfl))) pa_nil))))), ?_⟩
  walk_at "z"
  refine z_I (wide_mul ga.1 (nat200 gb.2) (by decide) (by decide) (by decide)) ?_
  walk_at "z"
  refine z_I (wide_mul gb.1 (nat200 ga.2) (by decide) (by decide) (by decide)) ?_
  walk_at "z"
  refine z_I (wide_mul (nat200 ga.2) (nat200 gb.2) (by decide) (by decide) (by decide)) ?_
  walk_at "z"
  have q : OutQ K A (a + b) H Q E := q
  rw [show a + b = _ from q_add a b] at q
  exact rat_use (add600 (mul600 ga.1 (nat200 gb.2)) (mul600 gb.1 (nat200 ga.2))) (lt4 (mul600 (nat200 ga.2) (nat200 gb.2))) (q_dd a b) q
end

section
theorem ok_subtract {P : Program} {w : World} {K : PySem.W.Frag} {mg : Str → Option Value} {base : Heap} {A : Nat → Addr} {D : Nat → FuncData} (T : Txt K mg A D) : FnOk P w K mg base (L2.CX P w) 2 (A 5) (D 5) ["a", "b"] (sp_op K A (· - ·)) := by
  refine T.F_subtract.okX sc_subtract (fun vs H Q E h => ?_) (fun cdv A' outer s H vs Q E hr h => ?_)
  · obtain ⟨v, w', a, b, rfl, _⟩ := h
    rfl
  obtain ⟨_, _, a, b, rfl, ha, hb, ga, gb, q⟩ := h
  obtain ⟨p, rfl, hp⟩ := dp_q ha
  obtain ⟨p2, rfl, hp2⟩ := dp_q hb
  refine ⟨_, (pss_one (ps_ret (pe_call (ok_ratio T) (hr.mono (by decide)) (by rfl) T.m_ratio T.F_ratio.kp T.b_ratio .nil (passes_call (takes_of rfl rfl rfl rfl) (fun _ _ _ _ h => h)) (pa_cons (pe_op op_sub (pe_op op_mulW (pe_ix ix_tup (pv 0) pe_int (fun _ _ => rfl)) (pe_ix ix_tup (pv 1) pe_int (fun _ _ => rfl))) (pe_op op_mulW (pe_ix ix_tup (pv 1) pe_int (fun _ _ => rfl)) (pe_ix ix_tup (pv 0) pe_int (fun _ _ => rfl)))) (pa_cons (pe_op op_mulW (pe_ix ix_tup (pv 0) pe_int (fun _ _ => rfl)) (pe_ix ix_tup (pv 1) pe_int (fun _ _ => rfl))) pa_nil))))), ?_⟩
  walk_at "z"
  refine z_I (wide_mul ga.1 (nat200 gb.2) (by decide) (by decide) (by decide)) ?_
  walk_at "z"
  refine z_I (wide_mul gb.1 (nat200 ga.2) (by decide) (by decide) (by decide)) ?_
  walk_at "z"
  refine z_I (wide_mul (nat200 ga.2) (nat200 gb.2) (by decide) (by decide) (by decide)) ?_
  walk_at "z"
  have q : OutQ K A (a - b) H Q E := q
  rw [show a - b = _ from q_sub a b] at q
  exact rat_use (sub600 (mul600 ga.1 (nat200 gb.2)) (mul600 gb.1 (nat200 ga.2))) (lt4 (mul600 (nat200 ga.2) (nat200 gb.2))) (q_dd a b) q
end

section
theorem ok_multiply {P : Program} {w : World} {K : PySem.W.Frag} {mg : Str → Option Value} {base : Heap} {A : Nat → Addr} {D : Nat → FuncData} (T : Txt K mg A D) : FnOk P w K mg base (L2.CX P w) 2 (A 6) (D 6) ["a", "b"] (sp_op K A (· * ·)) := by
  refine T.F_multiply.okX sc_multiply (fun vs H Q E h => ?_) (fun cdv A' outer s H vs Q E hr h => ?_)
  · obtain ⟨v, w', a, b, rfl, _⟩ := h
    rfl
  obtain ⟨_, _, a, b, rfl, ha, hb, ga, gb, q⟩ := h
  obtain ⟨p, rfl, hp⟩ := dp_q ha
  obtain ⟨p2, rfl, hp2⟩ := dp_q hb
  refine ⟨_, (pss_one (ps_ret (pe_call (ok_ratio T) (hr.mono (by decide)) (by rfl) T.m_ratio T.F_ratio.kp T.b_ratio .nil (passes_call (takes_of rfl rfl rfl rfl) (fun _ _ _ _ h => h)) (pa_cons (pe_op op_mulW (pe_ix ix_tup (pv 0) pe_int (fun _ _ => rfl)) (pe_ix ix_tup (pv 1) pe_int (fun _ _ => rfl))) (pa_cons (pe_op op_mulW (pe_ix ix_tup (pv 0) pe_int (fun _ _ => rfl)) (pe_ix ix_tup (pv 1) pe_int (fun _ _ => rfl))) pa_nil))))), ?_⟩
  walk_at "z"
  refine z_I (wide_mul ga.1 gb.1 (by decide) (by decide) (by decide)) ?_
  walk_at "z"
  refine z_I (wide_mul (nat200 ga.2) (nat200 gb.2) (by decide) (by decide) (by decide)) ?_
  walk_at "z"
  have q : OutQ K A (a * b) H Q E := q
  rw [show a * b = _ from q_mul a b] at q
  exact rat_use (lt4 (mul600 ga.1 gb.1)) (lt4 (mul600 (nat200 ga.2) (nat200 gb.2))) (q_dd a b) q
end

section
theorem ok_divide {P : Program} {w : World} {K : PySem.W.Frag} {mg : Str → Option Value} {base : Heap} {A : Nat → Addr} {D : Nat → FuncData} (T : Txt K mg A D) : FnOk P w K mg base (L2.CX P w) 2 (A 7) (D 7) ["a", "b"] (sp_divide K A) := by
  refine T.F_divide.okX sc_divide (fun vs H Q E h => ?_) (fun cdv A' outer s H vs Q E hr h => ?_)
  · obtain ⟨v, w', a, b, rfl, _⟩ := h
    rfl
  obtain ⟨_, _, a, b, rfl, ha, hb, ga, gb, q0, q⟩ := h
  obtain ⟨p, rfl, hp⟩ := dp_q ha
  obtain ⟨p2, rfl, hp2⟩ := dp_q hb
  refine ⟨_, (pss_one (ps_ret (pe_call (ok_ratio T) (hr.mono (by decide)) (by rfl) T.m_ratio T.F_ratio.kp T.b_ratio .nil (passes_call (takes_of rfl rfl rfl rfl) (fun _ _ _ _ h => h)) (pa_cons (pe_op op_mulW (pe_ix ix_tup (pv 0) pe_int (fun _ _ => rfl)) (pe_ix ix_tup (pv 1) pe_int (fun _ _ => rfl))) (pa_cons (pe_op op_mulW (pe_ix ix_tup (pv 0) pe_int (fun _ _ => rfl)) (pe_ix ix_tup (pv 1) pe_int (fun _ _ => rfl))) pa_nil))))), ?_⟩
  walk_at "z"
  refine z_I (wide_mul ga.1 (nat200 gb.2) (by decide) (by decide) (by decide)) ?_
  walk_at "z"
  refine z_I (wide_mul (nat200 ga.2) gb.1 (by decide) (by decide) (by decide)) ?_
  walk_at "z"
  have hden := a.den_nz
  refine ⟨_, _, rfl, lt4 (mul600 ga.1 (nat200 gb.2)), lt4 (mul600 (nat200 ga.2) gb.1), fun z => q0 ?_, fun z => ?_⟩
  · rcases Int.mul_eq_zero.mp z with w | w
    · omega
    · exact Rat.num_eq_zero.mp w
  · have hb0 : b ≠ 0 := fun w => z (by rw [w]; simp)
    rw [← q_div a b hb0]
    exact q hb0
end


/-! ### points and transforms -/
def pD (x y : Rat) : PyData := .tuple [qD x, qD y]
def tD (tx ty xx xy yx yy : Rat) : PyData := .tuple [qD tx, qD ty, qD xx, qD xy, qD yx, qD yy]
def Bl (r : Rat) : Prop := r.num.natAbs < 2 ^ 190 ∧ r.den < 2 ^ 190
theorem _root_.Z.Bd.bl {r : Rat} {p q : Nat} (h : Bd r p q) (h1 : p < 2 ^ 190) (h2 : q < 2 ^ 190) : Bl r := ⟨Nat.lt_of_le_of_lt h.1 h1, Nat.lt_of_le_of_lt h.2 h2⟩
theorem Bl.mul {a b : Int} (ha : a.natAbs < 2 ^ 190) (hb : b.natAbs < 2 ^ 190) : (a * b).natAbs < 2 ^ 380 := wide_lt ha hb
theorem lt380 {a : Nat} (h : a < 2 ^ 380) : a < 2 ^ 400 := Nat.lt_of_lt_of_le h (Nat.pow_le_pow_right (by decide) (by decide))
theorem Bl.add {a b : Int} (ha : a.natAbs < 2 ^ 380) (hb : b.natAbs < 2 ^ 380) : (a + b).natAbs < 2 ^ 400 := by
  have h1 : (a + b).natAbs ≤ a.natAbs + b.natAbs := Int.natAbs_add_le a b
  have h2 : (2 : Nat) ^ 380 + 2 ^ 380 ≤ 2 ^ 400 := by
    rw [show (2 : Nat) ^ 380 + 2 ^ 380 = 2 ^ 381 by rw [← Nat.two_mul, ← Nat.pow_succ']]
    exact Nat.pow_le_pow_right (by decide) (by decide)
  omega
theorem Bl.sub {a b : Int} (ha : a.natAbs < 2 ^ 380) (hb : b.natAbs < 2 ^ 380) : (a - b).natAbs < 2 ^ 400 := by
  rw [Int.sub_eq_add_neg]
  exact Bl.add ha (by rw [Int.natAbs_neg]; exact hb)
theorem nat190 {n : Nat} (h : n < 2 ^ 190) : ((n : Int)).natAbs < 2 ^ 190 := by omega
/-- the law's own operations -/
def sp_lop (K : PySem.W.Frag) (f : Rat → Rat → Rat) : Sp := fun vs H Q _ => ∃ (v w : V) (a b : Rat), vs = [v, w] ∧ Dp K H v (qD a) ∧ Dp K H w (qD b) ∧ Bl a ∧ Bl b ∧ RetD K H (qD (f a b)) Q
section
theorem ok__law_sum {P : Program} {w : World} {K : PySem.W.Frag} {mg : Str → Option Value} {base : Heap} {A : Nat → Addr} {D : Nat → FuncData} (T : Txt K mg A D) : FnOk P w K mg base (L2.CX P w) 2 (A 20) (D 20) ["a", "b"] (sp_lop K (· + ·)) := by
  refine T.F__law_sum.okX sc__law_sum (fun vs H Q E h => ?_) (fun cdv A' outer s H vs Q E hr h => ?_)
  · obtain ⟨v, w', a, b, rfl, _⟩ := h
    rfl
  obtain ⟨_, _, a, b, rfl, ha, hb, ga, gb, q⟩ := h
  obtain ⟨p, rfl, hp⟩ := dp_q ha
  obtain ⟨p2, rfl, hp2⟩ := dp_q hb
  refine ⟨_, (pss_one (ps_ret (pe_call (ok__law_ratio T) (hr.mono (by decide)) (by rfl) T.m__law_ratio T.F__law_ratio.kp T.b__law_ratio .nil (passes_call (takes_of rfl rfl rfl rfl) (fun _ _ _ _ h => h)) (pa_cons (pe_op op_add (pe_op op_mulW (pe_ix ix_tup (pv 0) pe_int (fun _ _ => rfl)) (pe_ix ix_tup (pv 1) pe_int (fun _ _ => rfl))) (pe_op op_mulW (pe_ix ix_tup (pv 1) pe_int (fun _ _ => rfl)) (pe_ix ix_tup (pv 0) pe_int (fun _ _ => rfl)))) (pa_cons (pe_op op_mulW (pe_ix ix_tup (pv 0) pe_int (fun _ _ => rfl)) (pe_ix ix_tup (pv 1) pe_int (fun _ _ => rfl))) pa_nil))))), ?_⟩
  walk_at "z"
  refine z_I (wide_mul ga.1 (nat190 gb.2) (by decide) (by decide) (by decide)) ?_
  walk_at "z"
  refine z_I (wide_mul gb.1 (nat190 ga.2) (by decide) (by decide) (by decide)) ?_
  walk_at "z"
  refine z_I (wide_mul (nat190 ga.2) (nat190 gb.2) (by decide) (by decide) (by decide)) ?_
  walk_at "z"
  have q : RetD K H (qD (a + b)) Q := q
  rw [q_add a b] at q
  exact ⟨_, _, rfl, q_dd a b, Bl.add (Bl.mul ga.1 (nat190 gb.2)) (Bl.mul gb.1 (nat190 ga.2)), lt380 (Bl.mul (nat190 ga.2) (nat190 gb.2)), q⟩

theorem ok__law_difference {P : Program} {w : World} {K : PySem.W.Frag} {mg : Str → Option Value} {base : Heap} {A : Nat → Addr} {D : Nat → FuncData} (T : Txt K mg A D) : FnOk P w K mg base (L2.CX P w) 2 (A 21) (D 21) ["a", "b"] (sp_lop K (· - ·)) := by
  refine T.F__law_difference.okX sc__law_difference (fun vs H Q E h => ?_) (fun cdv A' outer s H vs Q E hr h => ?_)
  · obtain ⟨v, w', a, b, rfl, _⟩ := h
    rfl
  obtain ⟨_, _, a, b, rfl, ha, hb, ga, gb, q⟩ := h
  obtain ⟨p, rfl, hp⟩ := dp_q ha
  obtain ⟨p2, rfl, hp2⟩ := dp_q hb
  refine ⟨_, (pss_one (ps_ret (pe_call (ok__law_ratio T) (hr.mono (by decide)) (by rfl) T.m__law_ratio T.F__law_ratio.kp T.b__law_ratio .nil (passes_call (takes_of rfl rfl rfl rfl) (fun _ _ _ _ h => h)) (pa_cons (pe_op op_sub (pe_op op_mulW (pe_ix ix_tup (pv 0) pe_int (fun _ _ => rfl)) (pe_ix ix_tup (pv 1) pe_int (fun _ _ => rfl))) (pe_op op_mulW (pe_ix ix_tup (pv 1) pe_int (fun _ _ => rfl)) (pe_ix ix_tup (pv 0) pe_int (fun _ _ => rfl)))) (pa_cons (pe_op op_mulW (pe_ix ix_tup (pv 0) pe_int (fun _ _ => rfl)) (pe_ix ix_tup (pv 1) pe_int (fun _ _ => rfl))) pa_nil))))), ?_⟩
  walk_at "z"
  refine z_I (wide_mul ga.1 (nat190 gb.2) (by decide) (by decide) (by decide)) ?_
  walk_at "z"
  refine z_I (wide_mul gb.1 (nat190 ga.2) (by decide) (by decide) (by decide)) ?_
  walk_at "z"
  refine z_I (wide_mul (nat190 ga.2) (nat190 gb.2) (by decide) (by decide) (by decide)) ?_
  walk_at "z"
  have q : RetD K H (qD (a - b)) Q := q
  rw [q_sub a b] at q
  exact ⟨_, _, rfl, q_dd a b, Bl.sub (Bl.mul ga.1 (nat190 gb.2)) (Bl.mul gb.1 (nat190 ga.2)), lt380 (Bl.mul (nat190 ga.2) (nat190 gb.2)), q⟩

theorem ok__law_product {P : Program} {w : World} {K : PySem.W.Frag} {mg : Str → Option Value} {base : Heap} {A : Nat → Addr} {D : Nat → FuncData} (T : Txt K mg A D) : FnOk P w K mg base (L2.CX P w) 2 (A 22) (D 22) ["a", "b"] (sp_lop K (· * ·)) := by
  refine T.F__law_product.okX sc__law_product (fun vs H Q E h => ?_) (fun cdv A' outer s H vs Q E hr h => ?_)
  · obtain ⟨v, w', a, b, rfl, _⟩ := h
    rfl
  obtain ⟨_, _, a, b, rfl, ha, hb, ga, gb, q⟩ := h
  obtain ⟨p, rfl, hp⟩ := dp_q ha
  obtain ⟨p2, rfl, hp2⟩ := dp_q hb
  refine ⟨_, (pss_one (ps_ret (pe_call (ok__law_ratio T) (hr.mono (by decide)) (by rfl) T.m__law_ratio T.F__law_ratio.kp T.b__law_ratio .nil (passes_call (takes_of rfl rfl rfl rfl) (fun _ _ _ _ h => h)) (pa_cons (pe_op op_mulW (pe_ix ix_tup (pv 0) pe_int (fun _ _ => rfl)) (pe_ix ix_tup (pv 1) pe_int (fun _ _ => rfl))) (pa_cons (pe_op op_mulW (pe_ix ix_tup (pv 0) pe_int (fun _ _ => rfl)) (pe_ix ix_tup (pv 1) pe_int (fun _ _ => rfl))) pa_nil))))), ?_⟩
  walk_at "z"
  refine z_I (wide_mul ga.1 gb.1 (by decide) (by decide) (by decide)) ?_
  walk_at "z"
  refine z_I (wide_mul (nat190 ga.2) (nat190 gb.2) (by decide) (by decide) (by decide)) ?_
  walk_at "z"
  have q : RetD K H (qD (a * b)) Q := q
  rw [q_mul a b] at q
  exact ⟨_, _, rfl, q_dd a b, lt380 (Bl.mul ga.1 gb.1), lt380 (Bl.mul (nat190 ga.2) (nat190 gb.2)), q⟩

end
theorem lop {K : PySem.W.Frag} {f : Rat → Rat → Rat} {H : Hp} {v w : V} {a b : Rat} {Q : VK} {E : XK} (ha : Dp K H v (qD a)) (hb : Dp K H w (qD b)) (ga : Bl a) (gb : Bl b) (q : RetD K H (qD (f a b)) Q) : sp_lop K f [v, w] H Q E := ⟨v, w, a, b, rfl, ha, hb, ga, gb, q⟩
theorem opq {K : PySem.W.Frag} {A : Nat → Addr} {f : Rat → Rat → Rat} {H : Hp} {v w : V} {a b : Rat} {Q : VK} {E : XK} (ha : Dp K H v (qD a)) (hb : Dp K H w (qD b)) (ga : Bg a) (gb : Bg b) (hf : fitsQ (f a b)) (q : RetD K H (qD (f a b)) Q) : sp_op K A f [v, w] H Q E :=
  ⟨v, w, a, b, rfl, ha, hb, ga, gb, fun n => absurd hf n, fun _ => q⟩
/-- the point that a transform moves a point to -/
def aX (tx xx xy x y : Rat) : Rat := tx + (xx * x + xy * y)
def sp__law_applied (K : PySem.W.Frag) : Sp := fun vs H Q _ => ∃ (v w : V) (tx ty xx xy yx yy x y : Rat), vs = [v, w] ∧ Dp K H v (tD tx ty xx xy yx yy) ∧ Dp K H w (pD x y) ∧ Bl tx ∧ Bl ty ∧ Bl xx ∧ Bl xy ∧ Bl yx ∧ Bl yy ∧ Bl x ∧ Bl y ∧
  Bl (xx * x) ∧ Bl (xy * y) ∧ Bl (yx * x) ∧ Bl (yy * y) ∧ Bl (xx * x + xy * y) ∧ Bl (yx * x + yy * y) ∧ RetD K H (pD (aX tx xx xy x y) (aX ty yx yy x y)) Q
theorem dp_p {K : PySem.W.Frag} {H : Hp} {p : Addr} {v w : V} {x y : Rat} (h : H p = some (.tup [v, w])) (hx : Dp K H v (qD x)) (hy : Dp K H w (qD y)) : Dp K H (.ref p) (pD x y) := dp_mk h (.cons hx (.cons hy .nil))
section
theorem ok__law_applied {P : Program} {w : World} {K : PySem.W.Frag} {mg : Str → Option Value} {base : Heap} {A : Nat → Addr} {D : Nat → FuncData} (T : Txt K mg A D) : FnOk P w K mg base (L2.CX P w) 3 (A 23) (D 23) ["transform", "point"] (sp__law_applied K) := by
  refine T.F__law_applied.okX sc__law_applied (fun vs H Q E h => ?_) (fun cdv A' outer s H vs Q E hr h => ?_)
  · obtain ⟨v, w', tx, ty, xx, xy, yx, yy, x, y, rfl, _⟩ := h
    rfl
  obtain ⟨_, _, tx, ty, xx, xy, yx, yy, x, y, rfl, ht, hp, b1, b2, b3, b4, b5, b6, b7, b8, c1, c2, c3, c4, c5, c6, q⟩ := h
  obtain ⟨p, v1, v2, v3, v4, v5, v6, rfl, hS, h1, h2, h3, h4, h5, h6⟩ := dp_t6 ht
  obtain ⟨p2, w1, w2, rfl, hS2, k1, k2⟩ := dp_t2 hp
  refine ⟨_, (pss_cons (ps_asg (pv 0) (pg_tup (by rfl) (pgs_cons (pg_name (i := 2) sc__law_applied.nd rfl (.inl rfl)) (pgs_cons (pg_name (i := 3) sc__law_applied.nd rfl (.inl rfl)) (pgs_cons (pg_name (i := 4) sc__law_applied.nd rfl (.inl rfl)) (pgs_cons (pg_name (i := 5) sc__law_applied.nd rfl (.inl rfl)) (pgs_cons (pg_name (i := 6) sc__law_applied.nd rfl (.inl rfl)) (pgs_cons (pg_name (i := 7) sc__law_applied.nd rfl (.inl rfl)) pgs_nil))))))))
  (pss_cons (ps_asg (pv 1) (pg_tup (by rfl) (pgs_cons (pg_name (i := 8) sc__law_applied.nd rfl (.inl rfl)) (pgs_cons (pg_name (i := 9) sc__law_applied.nd rfl (.inl rfl)) pgs_nil))))
  (pss_cons (ps_set (i := 10) sc__law_applied.nd rfl (.inl rfl) (pe_call (ok__law_sum T) (hr.mono (by decide)) (by rfl) T.m__law_sum T.F__law_sum.kp T.b__law_sum .nil (passes_call (takes_of rfl rfl rfl rfl) (fun _ _ _ _ h => h)) (pa_cons (pv 2) (pa_cons (pe_call (ok__law_sum T) (hr.mono (by decide)) (by rfl) T.m__law_sum T.F__law_sum.kp T.b__law_sum .nil (passes_call (takes_of rfl rfl rfl rfl) (fun _ _ _ _ h => h)) (pa_cons (pe_call (ok__law_product T) (hr.mono (by decide)) (by rfl) T.m__law_product T.F__law_product.kp T.b__law_product .nil (passes_call (takes_of rfl rfl rfl rfl) (fun _ _ _ _ h => h)) (pa_cons (pv 4) (pa_cons (pv 8) pa_nil))) (pa_cons (pe_call (ok__law_product T) (hr.mono (by decide)) (by rfl) T.m__law_product T.F__law_product.kp T.b__law_product .nil (passes_call (takes_of rfl rfl rfl rfl) (fun _ _ _ _ h => h)) (pa_cons (pv 5) (pa_cons (pv 9) pa_nil))) pa_nil))) pa_nil))))
  (pss_one (ps_ret (pe_tup (pa_cons (pv 10) (pa_cons (pe_call (ok__law_sum T) (hr.mono (by decide)) (by rfl) T.m__law_sum T.F__law_sum.kp T.b__law_sum .nil (passes_call (takes_of rfl rfl rfl rfl) (fun _ _ _ _ h => h)) (pa_cons (pv 3) (pa_cons (pe_call (ok__law_sum T) (hr.mono (by decide)) (by rfl) T.m__law_sum T.F__law_sum.kp T.b__law_sum .nil (passes_call (takes_of rfl rfl rfl rfl) (fun _ _ _ _ h => h)) (pa_cons (pe_call (ok__law_product T) (hr.mono (by decide)) (by rfl) T.m__law_product T.F__law_product.kp T.b__law_product .nil (passes_call (takes_of rfl rfl rfl rfl) (fun _ _ _ _ h => h)) (pa_cons (pv 6) (pa_cons (pv 8) pa_nil))) (pa_cons (pe_call (ok__law_product T) (hr.mono (by decide)) (by rfl) T.m__law_product T.F__law_product.kp T.b__law_product .nil (passes_call (takes_of rfl rfl rfl rfl) (fun _ _ _ _ h => h)) (pa_cons (pv 7) (pa_cons (pv 9) pa_nil))) pa_nil))) pa_nil))) pa_nil)))))))), ?_⟩
  walk_at "z"
  refine lop h3 k1 b3 b7 fun u1 H1 s1 e1 => ?_
  walk_at "z"
  refine lop (dp_mono s1 h4) (dp_mono s1 k2) b4 b8 fun u2 H2 s2 e2 => ?_
  walk_at "z"
  refine lop (dp_mono s2 e1) e2 c1 c2 fun u3 H3 s3 e3 => ?_
  walk_at "z"
  have z3 := (s1.trans s2).trans s3
  refine lop (dp_mono z3 h1) e3 b1 c5 fun u4 H4 s4 e4 => ?_
  walk_at "z"
  have z4 := z3.trans s4
  refine lop (dp_mono z4 h5) (dp_mono z4 k1) b5 b7 fun u5 H5 s5 e5 => ?_
  walk_at "z"
  have z5 := z4.trans s5
  refine lop (dp_mono z5 h6) (dp_mono z5 k2) b6 b8 fun u6 H6 s6 e6 => ?_
  walk_at "z"
  refine lop (dp_mono s6 e5) e6 c3 c4 fun u7 H7 s7 e7 => ?_
  walk_at "z"
  have z7 := (z5.trans s6).trans s7
  refine lop (dp_mono z7 h2) e7 b2 c6 fun u8 H8 s8 e8 => ?_
  walk_at "z"
  intro p9 H9 _ s9 h9
  have z48 := ((s5.trans s6).trans s7).trans s8
  exact q _ _ ((z7.trans s8).trans s9) (dp_p h9 (dp_mono s9 (dp_mono z48 e4)) (dp_mono s9 e8))

end
/-! ### drawn numbers, points, transforms -/
def sp__law_small (K : PySem.W.Frag) : Sp := fun vs H Q _ => ∃ (p : Addr) (H0 : Hp), vs = [.ref p] ∧ Sd H0 H p ∧ ∀ (v : V) (r : Rat) (H' : Hp), Bd r 50 6 → Sd H0 H' p → Kp p H H' → Dp K H' v (qD r) → Q v H'
def sp__law_point (K : PySem.W.Frag) : Sp := fun vs H Q _ => ∃ (p : Addr) (H0 : Hp), vs = [.ref p] ∧ Sd H0 H p ∧ ∀ (v : V) (x y : Rat) (H' : Hp), Bd x 50 6 → Bd y 50 6 → Sd H0 H' p → Kp p H H' → Dp K H' v (pD x y) → Q v H'
theorem q_int (n : Int) : qD (n : Rat) = .tuple [.int n, .int 1] := by
  unfold qD
  rw [Rat.num_intCast, Rat.den_intCast]
  rfl
section
theorem ok__law_small {P : Program} {w : World} {K : PySem.W.Frag} {mg : Str → Option Value} {base : Heap} {A : Nat → Addr} {D : Nat → FuncData} (T : Txt K mg A D) : FnOk P w K mg base (L2.CX P w) 2 (A 24) (D 24) ["stream"] (sp__law_small K) := by
  refine T.F__law_small.okX sc__law_small (fun vs H Q E h => ?_) (fun cdv A' outer s H vs Q E hr h => ?_)
  · obtain ⟨p, H0, rfl, _⟩ := h
    rfl
  obtain ⟨p, H0, rfl, S, q⟩ := h
  refine ⟨_, (pss_cons (ps_if (pt_cmpR op_eq (pe_call (ok__law_next T) (hr.mono (by decide)) (by rfl) T.m__law_next T.F__law_next.kp T.b__law_next .nil (passes_call (takes_of rfl rfl rfl rfl) (fun _ _ _ _ h => h)) (pa_cons (pv 0) (pa_cons pe_int pa_nil))) pe_int (nomark _))
  (pss_one (ps_ret (pe_tup (pa_cons (pe_op op_sub (pe_call (ok__law_next T) (hr.mono (by decide)) (by rfl) T.m__law_next T.F__law_next.kp T.b__law_next .nil (passes_call (takes_of rfl rfl rfl rfl) (fun _ _ _ _ h => h)) (pa_cons (pv 0) (pa_cons pe_int pa_nil))) pe_int) (pa_cons pe_int pa_nil)))))
  pss_nil)
  (pss_one (ps_ret (pe_call (ok__law_ratio T) (hr.mono (by decide)) (by rfl) T.m__law_ratio T.F__law_ratio.kp T.b__law_ratio .nil (passes_call (takes_of rfl rfl rfl rfl) (fun _ _ _ _ h => h)) (pa_cons (pe_op op_sub (pe_call (ok__law_next T) (hr.mono (by decide)) (by rfl) T.m__law_next T.F__law_next.kp T.b__law_next .nil (passes_call (takes_of rfl rfl rfl rfl) (fun _ _ _ _ h => h)) (pa_cons (pv 0) (pa_cons pe_int pa_nil))) pe_int) (pa_cons (pe_op op_add (pe_call (ok__law_next T) (hr.mono (by decide)) (by rfl) T.m__law_next T.F__law_next.kp T.b__law_next .nil (passes_call (takes_of rfl rfl rfl rfl) (fun _ _ _ _ h => h)) (pa_cons (pv 0) (pa_cons pe_int pa_nil))) pe_int) pa_nil)))))), ?_⟩
  walk_at "z"
  refine nx S (by decide) (lt1000 (by decide)) fun k H1 k0 k1 S1 e1 => ?_
  walk_at "z"
  refine z_if (fun c => ?_) (fun c => ?_)
  · walk_at "z"
    refine nx S1 (by decide) (lt1000 (by decide)) fun n H2 n0 n1 S2 e2 => ?_
    walk_at "z"
    intro p9 H9 _ s9 h9
    refine q _ ((n - 20 : Int) : Rat) H9 ⟨?_, ?_⟩ (S2.mono s9) (((kp_eq e1).trans' (kp_eq e2)).trans' (kp_of s9)) ?_
    · rw [Rat.num_intCast]
      omega
    · rw [Rat.den_intCast]
      decide
    · rw [q_int]
      exact dp_mk h9 (.cons (.int _) (.cons (.int _) .nil))
  · walk_at "z"
    refine nx S1 (by decide) (lt1000 (by decide)) fun n H2 n0 n1 S2 e2 => ?_
    walk_at "z"
    refine nx S2 (by decide) (lt1000 (by decide)) fun d H3 d0 d1 S3 e3 => ?_
    walk_at "z"
    refine ⟨_, _, rfl, by omega, lt400 (by omega), lt400 (by omega), fun v H9 s9 h9 => ?_⟩
    have hb := bd_divInt (n := n - 50) (d := d + 1) (by omega)
    exact q _ _ H9 (hb.le (by omega) (by omega)) (S3.mono s9) ((((kp_eq e1).trans' (kp_eq e2)).trans' (kp_eq e3)).trans' (kp_of s9)) h9
theorem ok__law_point {P : Program} {w : World} {K : PySem.W.Frag} {mg : Str → Option Value} {base : Heap} {A : Nat → Addr} {D : Nat → FuncData} (T : Txt K mg A D) : FnOk P w K mg base (L2.CX P w) 3 (A 25) (D 25) ["stream"] (sp__law_point K) := by
  refine T.F__law_point.okX sc__law_point (fun vs H Q E h => ?_) (fun cdv A' outer s H vs Q E hr h => ?_)
  · obtain ⟨p, H0, rfl, _⟩ := h
    rfl
  obtain ⟨p, H0, rfl, S, q⟩ := h
  refine ⟨_, (pss_cons (ps_set (i := 1) sc__law_point.nd rfl (.inl rfl) (pe_call (ok__law_small T) (hr.mono (by decide)) (by rfl) T.m__law_small T.F__law_small.kp T.b__law_small .nil (passes_call (takes_of rfl rfl rfl rfl) (fun _ _ _ _ h => h)) (pa_cons (pv 0) pa_nil)))
  (pss_one (ps_ret (pe_tup (pa_cons (pv 1) (pa_cons (pe_call (ok__law_small T) (hr.mono (by decide)) (by rfl) T.m__law_small T.F__law_small.kp T.b__law_small .nil (passes_call (takes_of rfl rfl rfl rfl) (fun _ _ _ _ h => h)) (pa_cons (pv 0) pa_nil)) pa_nil)))))), ?_⟩
  walk_at "z"
  refine ⟨p, H0, rfl, S, fun v x H1 bx S1 k1 h1 => ?_⟩
  walk_at "z"
  refine ⟨p, H0, rfl, S1, fun w y H2 by' S2 k2 h2 => ?_⟩
  walk_at "z"
  intro p9 H9 _ s9 h9
  exact q _ x y H9 bx by' (S2.mono s9) ((k1.trans' k2).trans' (kp_of s9)) (dp_p h9 (dp_mono s9 (kp_sd S1 k2 rfl h1)) (dp_mono s9 h2))
end
/-! ### the program's transforms -/
/-- fits along the way of one part -/
def FitX (tx xx xy x y : Rat) : Prop := fitsQ (xx * x) ∧ fitsQ (xy * y) ∧ fitsQ (tx + xx * x) ∧ fitsQ (tx + xx * x + xy * y)
def mX (tx xx xy x y : Rat) : Rat := tx + xx * x + xy * y
def sp_moved_part (K : PySem.W.Frag) : Sp := fun vs H Q _ => ∃ (v1 v2 v3 w : V) (tx xx xy x y : Rat), vs = [v1, v2, v3, w] ∧ Dp K H v1 (qD tx) ∧ Dp K H v2 (qD xx) ∧ Dp K H v3 (qD xy) ∧ Dp K H w (pD x y) ∧ Bg tx ∧ Bg xx ∧ Bg xy ∧ Bg x ∧ Bg y ∧ FitX tx xx xy x y ∧ RetD K H (qD (mX tx xx xy x y)) Q
def sp_apply (K : PySem.W.Frag) : Sp := fun vs H Q _ => ∃ (v w : V) (tx ty xx xy yx yy x y : Rat), vs = [v, w] ∧ Dp K H v (tD tx ty xx xy yx yy) ∧ Dp K H w (pD x y) ∧ Bg tx ∧ Bg ty ∧ Bg xx ∧ Bg xy ∧ Bg yx ∧ Bg yy ∧ Bg x ∧ Bg y ∧ FitX tx xx xy x y ∧ FitX ty yx yy x y ∧ RetD K H (pD (mX tx xx xy x y) (mX ty yx yy x y)) Q
section
theorem ok_moved_part {P : Program} {w : World} {K : PySem.W.Frag} {mg : Str → Option Value} {base : Heap} {A : Nat → Addr} {D : Nat → FuncData} (T : Txt K mg A D) : FnOk P w K mg base (L2.CX P w) 3 (A 9) (D 9) ["shift", "by_x", "by_y", "point"] (sp_moved_part K) := by
  refine T.F_moved_part.okX sc_moved_part (fun vs H Q E h => ?_) (fun cdv A' outer s H vs Q E hr h => ?_)
  · obtain ⟨_, _, _, _, _, _, _, _, _, rfl, _⟩ := h
    rfl
  obtain ⟨_, _, _, _, tx, xx, xy, x, y, rfl, h1, h2, h3, hw, b1, b2, b3, b4, b5, ⟨f1, f2, f3, f4⟩, q⟩ := h
  obtain ⟨p2, w1, w2, rfl, hS2, k1, k2⟩ := dp_t2 hw
  refine ⟨_, (pss_cons (ps_set (i := 4) sc_moved_part.nd rfl (.inl rfl) (pe_call (ok_multiply T) (hr.mono (by decide)) (by rfl) T.m_multiply T.F_multiply.kp T.b_multiply .nil (passes_call (takes_of rfl rfl rfl rfl) (fun _ _ _ _ h => h)) (pa_cons (pv 1) (pa_cons (pe_ix ix_tup (pv 3) pe_int (fun _ _ => rfl)) pa_nil))))
  (pss_cons (ps_set (i := 5) sc_moved_part.nd rfl (.inl rfl) (pe_call (ok_multiply T) (hr.mono (by decide)) (by rfl) T.m_multiply T.F_multiply.kp T.b_multiply .nil (passes_call (takes_of rfl rfl rfl rfl) (fun _ _ _ _ h => h)) (pa_cons (pv 2) (pa_cons (pe_ix ix_tup (pv 3) pe_int (fun _ _ => rfl)) pa_nil))))
  (pss_one (ps_ret (pe_call (ok_add T) (hr.mono (by decide)) (by rfl) T.m_add T.F_add.kp T.b_add .nil (passes_call (takes_of rfl rfl rfl rfl) (fun _ _ _ _ h => h)) (pa_cons (pe_call (ok_add T) (hr.mono (by decide)) (by rfl) T.m_add T.F_add.kp T.b_add .nil (passes_call (takes_of rfl rfl rfl rfl) (fun _ _ _ _ h => h)) (pa_cons (pv 0) (pa_cons (pv 4) pa_nil))) (pa_cons (pv 5) pa_nil))))))), ?_⟩
  walk_at "z"
  refine opq h2 k1 b2 b4 f1 fun u1 H1 s1 e1 => ?_
  have hS3 := seqT s1 hS2
  walk_at "z"
  refine opq (dp_mono s1 h3) (dp_mono s1 k2) b3 b5 f2 fun u2 H2 s2 e2 => ?_
  walk_at "z"
  refine opq (dp_mono (s1.trans s2) h1) (dp_mono s2 e1) b1 (fits_bg f1) f3 fun u3 H3 s3 e3 => ?_
  walk_at "z"
  refine opq e3 (dp_mono s3 e2) (fits_bg f3) (fits_bg f2) f4 fun u4 H4 s4 e4 => ?_
  exact q _ _ (((s1.trans s2).trans s3).trans s4) e4

theorem ok_apply {P : Program} {w : World} {K : PySem.W.Frag} {mg : Str → Option Value} {base : Heap} {A : Nat → Addr} {D : Nat → FuncData} (T : Txt K mg A D) : FnOk P w K mg base (L2.CX P w) 4 (A 8) (D 8) ["transform", "point"] (sp_apply K) := by
  refine T.F_apply.okX sc_apply (fun vs H Q E h => ?_) (fun cdv A' outer s H vs Q E hr h => ?_)
  · obtain ⟨_, _, _, _, _, _, _, _, _, _, rfl, _⟩ := h
    rfl
  obtain ⟨_, _, tx, ty, xx, xy, yx, yy, x, y, rfl, ht, hp, b1, b2, b3, b4, b5, b6, b7, b8, f1, f2, q⟩ := h
  obtain ⟨p, v1, v2, v3, v4, v5, v6, rfl, hS, h1, h2, h3, h4, h5, h6⟩ := dp_t6 ht
  refine ⟨_, (pss_cons (ps_asg (pv 0) (pg_tup (by rfl) (pgs_cons (pg_name (i := 2) sc_apply.nd rfl (.inl rfl)) (pgs_cons (pg_name (i := 3) sc_apply.nd rfl (.inl rfl)) (pgs_cons (pg_name (i := 4) sc_apply.nd rfl (.inl rfl)) (pgs_cons (pg_name (i := 5) sc_apply.nd rfl (.inl rfl)) (pgs_cons (pg_name (i := 6) sc_apply.nd rfl (.inl rfl)) (pgs_cons (pg_name (i := 7) sc_apply.nd rfl (.inl rfl)) pgs_nil))))))))
  (pss_one (ps_ret (pe_tup (pa_cons (pe_call (ok_moved_part T) (hr.mono (by decide)) (by rfl) T.m_moved_part T.F_moved_part.kp T.b_moved_part .nil (passes_call (takes_of rfl rfl rfl rfl) (fun _ _ _ _ h => h)) (pa_cons (pv 2) (pa_cons (pv 4) (pa_cons (pv 5) (pa_cons (pv 1) pa_nil))))) (pa_cons (pe_call (ok_moved_part T) (hr.mono (by decide)) (by rfl) T.m_moved_part T.F_moved_part.kp T.b_moved_part .nil (passes_call (takes_of rfl rfl rfl rfl) (fun _ _ _ _ h => h)) (pa_cons (pv 3) (pa_cons (pv 6) (pa_cons (pv 7) (pa_cons (pv 1) pa_nil))))) pa_nil)))))), ?_⟩
  walk_at "z"
  refine ⟨_, _, _, _, tx, xx, xy, x, y, rfl, h1, h3, h4, hp, b1, b3, b4, b7, b8, f1, fun u1 H1 s1 e1 => ?_⟩
  walk_at "z"
  refine ⟨_, _, _, _, ty, yx, yy, x, y, rfl, dp_mono s1 h2, dp_mono s1 h5, dp_mono s1 h6, dp_mono s1 hp, b2, b5, b6, b7, b8, f2, fun u2 H2 s2 e2 => ?_⟩
  walk_at "z"
  intro p9 H9 _ s9 h9
  exact q _ _ ((s1.trans s2).trans s9) (dp_p h9 (dp_mono s9 (dp_mono s2 e1)) (dp_mono s9 e2))

end
/-! ### drawn transforms -/
def sp__law_transform (K : PySem.W.Frag) : Sp := fun vs H Q _ => ∃ (p : Addr) (H0 : Hp), vs = [.ref p] ∧ Sd H0 H p ∧ ∀ (v : V) (a b c d e f : Rat) (H' : Hp), Bd a 50 6 → Bd b 50 6 → Bd c 50 6 → Bd d 50 6 → Bd e 100 6 → Bd f 100 6 → Sd H0 H' p → Kp p H H' → Dp K H' v (tD a b c d e f) → Q v H'
def Sml (K : PySem.W.Frag) (H : Hp) (v : V) (k : Nat) : Prop := ∃ r : Rat, Bd r k 6 ∧ Dp K H v (qD r)
theorem small_mono {K : PySem.W.Frag} {p : Addr} {H0 : Hp} {σ : L2.St} {E : XK} {k : Nat} (σ' : L2.St) (H' : Hp) (Q Q' : VK) (h : ∀ y H4, Q y H4 → Q' y H4) (q : tCall (sp__law_small K) [] E (tCons (tVar 0) tNil) σ' H' Q) : tCall (sp__law_small K) [] E (tCons (tVar 0) tNil) σ' H' Q' := by
  obtain ⟨v, hv, p, H0, e, S, q⟩ := q
  exact ⟨v, hv, p, H0, e, S, fun v r H9 b S9 k9 d => h _ _ (q v r H9 b S9 k9 d)⟩
theorem Sd.upd {H0 H : Hp} {p q : Addr} {o : HO} (S : Sd H0 H p) (h0 : H0 q = none) (hq : q ≠ p) : Sd H0 (upd H q o) p := by
  obtain ⟨a, b, m, e⟩ := S.stm
  refine ⟨fun c x hc => ?_, S.fresh, a, b, m, by rw [upd_ne (Ne.symm hq)]; exact e⟩
  rw [upd_ne (ne_of_none hc h0)]
  exact S.same c x hc
theorem kp_upd {p q : Addr} {H H1 : Hp} {o : HO} (k : Kp p H H1) (h : H q = none) : Kp p H (upd H1 q o) := fun b x hb e => by
  rw [upd_ne (ne_of_none e h)]
  exact k b x hb e
theorem kp_self {q : Addr} {H : Hp} {o : HO} : Kp q H (upd H q o) := fun b x hb e => by
  rw [upd_ne hb]
  exact e
section
theorem ok__law_transform {P : Program} {w : World} {K : PySem.W.Frag} {mg : Str → Option Value} {base : Heap} {A : Nat → Addr} {D : Nat → FuncData} (T : Txt K mg A D) : FnOk P w K mg base (L2.CX P w) 3 (A 26) (D 26) ["stream"] (sp__law_transform K) := by
  refine T.F__law_transform.okX sc__law_transform (fun vs H Q E h => ?_) (fun cdv A' outer s H vs Q E hr h => ?_)
  · obtain ⟨p, H0, rfl, _⟩ := h
    rfl
  obtain ⟨p, H0, rfl, S, q⟩ := h
  refine ⟨_, (pss_cons (ps_setLc (i := 1) (own := [("k", 2)]) (g := gName 2) (tt := tYes) rfl sc__law_transform.nd rfl rfl (sw_true rfl rfl rfl (by decide +kernel)) (pi_range1 (by rfl) T.z_range (pa_cons pe_int pa_nil)) (blkOk_by (N := ["stream", "parts", "k"]) (sc := defScope s__law_transform) (by decide +kernel)) (fun _ _ _ _ _ => pg_name (i := 2) sc__law_transform.nd rfl (Or.inl rfl)) (fun _ _ _ _ _ => pts_nil) (fun _ _ _ _ _ => (pe_call (ok__law_small T) (hr.mono (by decide)) (by rfl) T.m__law_small T.F__law_small.kp T.b__law_small .nil passL (pa_cons (pv 0) pa_nil))))
  (Evl.pss_cut (ps_if (pt_cmpR op_eq (pe_call (ok__law_next T) (hr.mono (by decide)) (by rfl) T.m__law_next T.F__law_next.kp T.b__law_next .nil (passes_call (takes_of rfl rfl rfl rfl) (fun _ _ _ _ h => h)) (pa_cons (pv 0) (pa_cons pe_int pa_nil))) pe_int (nomark _))
  (pss_cons (ps_asg (pe_call (ok__law_product T) (hr.mono (by decide)) (by rfl) T.m__law_product T.F__law_product.kp T.b__law_product .nil (passes_call (takes_of rfl rfl rfl rfl) (fun _ _ _ _ h => h)) (pa_cons (pe_ix ix_list (pv 1) pe_int (fun _ _ => rfl)) (pa_cons (pe_tup (pa_cons pe_int (pa_cons pe_int pa_nil))) pa_nil))) (pg_sub (pv 1) pe_int set_list))
  (pss_one (ps_asg (pe_call (ok__law_product T) (hr.mono (by decide)) (by rfl) T.m__law_product T.F__law_product.kp T.b__law_product .nil (passes_call (takes_of rfl rfl rfl rfl) (fun _ _ _ _ h => h)) (pa_cons (pe_ix ix_list (pv 1) pe_int (fun _ _ => rfl)) (pa_cons (pe_tup (pa_cons pe_int (pa_cons pe_int pa_nil))) pa_nil))) (pg_sub (pv 1) pe_int set_list))))
  pss_nil)
  (Evl.pss_cut (ps_if (pt_cmpR op_eq (pe_call (ok__law_next T) (hr.mono (by decide)) (by rfl) T.m__law_next T.F__law_next.kp T.b__law_next .nil (passes_call (takes_of rfl rfl rfl rfl) (fun _ _ _ _ h => h)) (pa_cons (pv 0) (pa_cons pe_int pa_nil))) pe_int (nomark _))
  (pss_cons (ps_asg (pe_tup (pa_cons pe_int (pa_cons pe_int pa_nil))) (pg_sub (pv 1) pe_int set_list))
  (pss_one (ps_asg (pe_tup (pa_cons pe_int (pa_cons pe_int pa_nil))) (pg_sub (pv 1) pe_int set_list))))
  pss_nil)
  (pss_one (ps_ret (pe_callTy Z.c_tupOf (by rfl) T.z_tuple (by decide +kernel) (pa_cons (pv 1) pa_nil))))))), ?_⟩
  walk_at "z"
  refine z_lcR1 6 (by decide) (fun R q => by walk_at "z"; exact q) (fun _ => rfl) (fun i D acc H' => Sd H0 H' p ∧ Kp p H H' ∧ H D = none ∧ H0 D = none ∧ D ≠ p ∧ ∀ v ∈ acc, Sml K H' v 50) (fun D H' hD s _ => ⟨S.mono s, kp_of s, hD, S.same.free hD, S.ne0 hD, fun v hv => absurd hv List.not_mem_nil⟩) ?_ (small_mono (p := p) (H0 := H0) (σ := []) (k := 0)) ?_
  · rintro i D acc H1 hi hl hH ⟨S1, k1, hD, hD0, hDp, ha⟩
    walk_at "z"
    refine ⟨p, H0, rfl, S1, fun v r H2 b S2 k2 d => ?_⟩
    have hH2 := k2 _ _ hDp hH
    refine ⟨hH2, S2.upd hD0 hDp, kp_upd (k1.trans' k2) hD, hD, hD0, hDp, fun w hw => ?_⟩
    rcases List.mem_append.mp hw with hw | hw
    · obtain ⟨r', b', d'⟩ := ha w hw
      exact ⟨r', b', dp_kp kp_self hH2 rfl (kp_sd S1 k2 rfl d')⟩
    · rw [List.mem_singleton.mp hw]
      exact ⟨r, b, dp_kp kp_self hH2 rfl d⟩
  rintro D acc H1 hl hH ⟨S1, k1, hD, hD0, hDp, ha⟩
  match acc, hl with
  | [v1, v2, v3, v4, v5, v6], _ =>
  obtain ⟨a, ba, da⟩ := ha v1 (by simp)
  obtain ⟨b, bb, db⟩ := ha v2 (by simp)
  obtain ⟨c, bc, dc⟩ := ha v3 (by simp)
  obtain ⟨d, bd, dd⟩ := ha v4 (by simp)
  obtain ⟨e, be, de⟩ := ha v5 (by simp)
  obtain ⟨f, bf, df⟩ := ha v6 (by simp)
  clear ha
  walk_at "z"
  let W : L2.St → Hp → Prop := fun σ H' => ∃ (v4 v5 v6 : V) (d e f : Rat), σ = [some (.ref p), some (.ref D), none] ∧ Sd H0 H' p ∧ Kp p H H' ∧ H' D = some (.lst [v1, v2, v3, v4, v5, v6]) ∧ Bd d 50 6 ∧ Bd e 100 6 ∧ Bd f 100 6 ∧ Dp K H' v1 (qD a) ∧ Dp K H' v2 (qD b) ∧ Dp K H' v3 (qD c) ∧ Dp K H' v4 (qD d) ∧ Dp K H' v5 (qD e) ∧ Dp K H' v6 (qD f)
  refine z_cut W ?_ ?_
  · walk_at "z"
    refine nx S1 (by decide) (lt1000 (by decide)) fun k H2 k0 k10 S2 e2 => ?_
    have k2 := kp_eq e2
    have hH2 := k2 _ _ hDp hH
    have ga := kp_sd S1 k2 rfl da
    have gb := kp_sd S1 k2 rfl db
    have gc := kp_sd S1 k2 rfl dc
    have gd := kp_sd S1 k2 rfl dd
    have ge := kp_sd S1 k2 rfl de
    have gf := kp_sd S1 k2 rfl df
    clear da db dc dd de df
    walk_at "z"
    refine z_if (fun cc => ?_) (fun cc => ?_)
    · walk_at "z"
      intro p2 H3 _ s3 h3
      walk_at "z"
      have two : Dp K H3 (.ref p2) (qD 2) := dp_mk h3 (.cons (.int _) (.cons (.int _) .nil))
      refine lop (dp_mono s3 gc) two (bc.bl (by decide) (by decide)) ⟨by decide, by decide⟩ fun u1 H4 s4 e4 => ?_
      walk_at "z"
      have s34 := s3.trans s4
      have hH4 := s34 _ _ hH2
      refine z_setL hH4 rfl ?_
      have S4 := (S2.mono s34)
      have hH5 : (upd H4 D (.lst ([v1, v2, v3, v4, v5, v6].set (Int.toNat 4) u1))) D = some (.lst [v1, v2, v3, v4, u1, v6]) := upd_same
      have S5 : Sd H0 (upd H4 D (.lst ([v1, v2, v3, v4, v5, v6].set (Int.toNat 4) u1))) p := S4.upd hD0 hDp
      have k5 : Kp p H (upd H4 D (.lst ([v1, v2, v3, v4, v5, v6].set (Int.toNat 4) u1))) := kp_upd ((k1.trans' k2).trans' (kp_of s34)) hD
      have up : ∀ {v : V} {r : Rat}, Dp K H4 v (qD r) → Dp K (upd H4 D (.lst ([v1, v2, v3, v4, v5, v6].set (Int.toNat 4) u1))) v (qD r) := fun h => dp_kp kp_self hH4 rfl h
      have g1 := up (dp_mono s34 ga)
      have g2 := up (dp_mono s34 gb)
      have g3 := up (dp_mono s34 gc)
      have g4 := up (dp_mono s34 gd)
      have g5 := up e4
      have g6 := up (dp_mono s34 gf)
      clear up e4
      generalize upd H4 D (.lst ([v1, v2, v3, v4, v5, v6].set (Int.toNat 4) u1)) = H5 at *
      walk_at "z"
      intro p6 H6 _ s6 h6
      walk_at "z"
      have two6 : Dp K H6 (.ref p6) (qD 2) := dp_mk h6 (.cons (.int _) (.cons (.int _) .nil))
      refine lop (dp_mono s6 g4) two6 (bd.bl (by decide) (by decide)) ⟨by decide, by decide⟩ fun u2 H7 s7 e7 => ?_
      walk_at "z"
      have s67 := s6.trans s7
      have hH7 := s67 _ _ hH5
      refine z_setL hH7 rfl ?_
      have up : ∀ {v : V} {r : Rat}, Dp K H7 v (qD r) → Dp K (upd H7 D (.lst ([v1, v2, v3, v4, u1, v6].set (Int.toNat 5) u2))) v (qD r) := fun h => dp_kp kp_self hH7 rfl h
      exact ⟨v4, u1, u2, d, c * 2, d * 2, rfl, (S5.mono s67).upd hD0 hDp, kp_upd (k5.trans' (kp_of s67)) hD, upd_same, bd, (bd_mul bc (p' := 2) (q' := 1) ⟨by decide, by decide⟩).le (by decide) (by decide), (bd_mul bd (p' := 2) (q' := 1) ⟨by decide, by decide⟩).le (by decide) (by decide),
        up (dp_mono s67 g1), up (dp_mono s67 g2), up (dp_mono s67 g3), up (dp_mono s67 g4), up (dp_mono s67 g5), up e7⟩
    · walk_at "z"
      exact ⟨v4, v5, v6, d, e, f, rfl, S2, k1.trans' k2, hH2, bd, be.le (by decide) (by decide), bf.le (by decide) (by decide), ga, gb, gc, gd, ge, gf⟩
  clear dd de df bd be bf da db dc S1 k1
  rintro σ' H2 ⟨v4, v5, v6, d, e, f, rfl, S2, k2, hH2, bd, be, bf, ga, gb, gc, gd, ge, gf⟩
  refine z_cut W ?_ ?_
  · walk_at "z"
    refine nx S2 (by decide) (lt1000 (by decide)) fun k H3 k0 k10 S3 e3 => ?_
    have k3 := kp_eq e3
    have hH3 := k3 _ _ hDp hH2
    have g1 := kp_sd S2 k3 rfl ga
    have g2 := kp_sd S2 k3 rfl gb
    have g3 := kp_sd S2 k3 rfl gc
    have g4 := kp_sd S2 k3 rfl gd
    have g5 := kp_sd S2 k3 rfl ge
    have g6 := kp_sd S2 k3 rfl gf
    walk_at "z"
    refine z_if (fun cc => ?_) (fun cc => ?_)
    · walk_at "z"
      intro p4 H4 hp4 s4 h4
      walk_at "z"
      have hH4 := s4 _ _ hH3
      refine z_setL hH4 rfl ?_
      have z4 : Dp K H4 (.ref p4) (qD 0) := dp_mk h4 (.cons (.int _) (.cons (.int _) .nil))
      have up : ∀ {v : V} {r : Rat}, Dp K H4 v (qD r) → Dp K (upd H4 D (.lst ([v1, v2, v3, v4, v5, v6].set (Int.toNat 3) (.ref p4)))) v (qD r) := fun h => dp_kp kp_self hH4 rfl h
      have hH5 : (upd H4 D (.lst ([v1, v2, v3, v4, v5, v6].set (Int.toNat 3) (.ref p4)))) D = some (.lst [v1, v2, v3, .ref p4, v5, v6]) := upd_same
      have S5 : Sd H0 (upd H4 D (.lst ([v1, v2, v3, v4, v5, v6].set (Int.toNat 3) (.ref p4)))) p := (S3.mono s4).upd hD0 hDp
      have k5 : Kp p H (upd H4 D (.lst ([v1, v2, v3, v4, v5, v6].set (Int.toNat 3) (.ref p4)))) := kp_upd ((k2.trans' k3).trans' (kp_of s4)) hD
      have m1 := up (dp_mono s4 g1)
      have m2 := up (dp_mono s4 g2)
      have m3 := up (dp_mono s4 g3)
      have m4 := up z4
      have m6 := up (dp_mono s4 g6)
      clear up z4
      generalize upd H4 D (.lst ([v1, v2, v3, v4, v5, v6].set (Int.toNat 3) (.ref p4))) = H5 at *
      walk_at "z"
      intro p6 H6 hp6 s6 h6
      walk_at "z"
      have hH6 := s6 _ _ hH5
      refine z_setL hH6 rfl ?_
      have z6 : Dp K H6 (.ref p6) (qD 0) := dp_mk h6 (.cons (.int _) (.cons (.int _) .nil))
      have up : ∀ {v : V} {r : Rat}, Dp K H6 v (qD r) → Dp K (upd H6 D (.lst ([v1, v2, v3, V.ref p4, v5, v6].set (Int.toNat 4) (.ref p6)))) v (qD r) := fun h => dp_kp kp_self hH6 rfl h
      exact ⟨.ref p4, .ref p6, v6, 0, 0, f, rfl, (S5.mono s6).upd hD0 hDp, kp_upd (k5.trans' (kp_of s6)) hD, upd_same, ⟨by decide, by decide⟩, ⟨by decide, by decide⟩, bf, up (dp_mono s6 m1), up (dp_mono s6 m2), up (dp_mono s6 m3), up (dp_mono s6 m4), up z6, up (dp_mono s6 m6)⟩
    · walk_at "z"
      exact ⟨v4, v5, v6, d, e, f, rfl, S3, k2.trans' k3, hH3, bd, be, bf, g1, g2, g3, g4, g5, g6⟩
  clear ga gb gc gd ge gf bd be bf S2 k2
  rintro σ' H2 ⟨v4, v5, v6, d, e, f, rfl, S2, k2, hH2, bd, be, bf, ga, gb, gc, gd, ge, gf⟩
  walk_at "z"
  refine z_tupOf (.inl (.inl hH2)) fun p9 H9 _ s9 h9 => ?_
  exact q _ a b c d e f H9 ba bb bc bd be bf (S2.mono s9) (k2.trans' (kp_of s9)) (dp_mk h9 (.cons (dp_mono s9 ga) (.cons (dp_mono s9 gb) (.cons (dp_mono s9 gc) (.cons (dp_mono s9 gd) (.cons (dp_mono s9 ge) (.cons (dp_mono s9 gf) .nil)))))))
end
theorem dZ {K : PySem.W.Frag} {mg : Str → Option Value} {A : Nat → Addr} {D : Nat → FuncData} (T : Txt K mg A D) (H : Hp) : Dp K H (.ref (A 30)) (qD 0) := T.d_ZERO H
theorem dp_6 {K : PySem.W.Frag} {H : Hp} {p : Addr} {v1 v2 v3 v4 v5 v6 : V} {a b c d e f : Rat} (h : H p = some (.tup [v1, v2, v3, v4, v5, v6])) (h1 : Dp K H v1 (qD a)) (h2 : Dp K H v2 (qD b)) (h3 : Dp K H v3 (qD c)) (h4 : Dp K H v4 (qD d)) (h5 : Dp K H v5 (qD e)) (h6 : Dp K H v6 (qD f)) :
    Dp K H (.ref p) (tD a b c d e f) := dp_mk h (.cons h1 (.cons h2 (.cons h3 (.cons h4 (.cons h5 (.cons h6 .nil))))))
def sp_sum_of_products (K : PySem.W.Frag) : Sp := fun vs H Q _ => ∃ (v1 v2 v3 v4 : V) (a b c d : Rat), vs = [v1, v2, v3, v4] ∧ Dp K H v1 (qD a) ∧ Dp K H v2 (qD b) ∧ Dp K H v3 (qD c) ∧ Dp K H v4 (qD d) ∧ Bg a ∧ Bg b ∧ Bg c ∧ Bg d ∧ fitsQ (a * b) ∧ fitsQ (c * d) ∧ fitsQ (a * b + c * d) ∧ RetD K H (qD (a * b + c * d)) Q
def sp_negative (K : PySem.W.Frag) : Sp := fun vs H Q _ => ∃ (v : V) (a : Rat), vs = [v] ∧ Dp K H v (qD a) ∧ RetD K H (qD (-a)) Q
theorem neg_q (r : Rat) : PyData.tuple [.int (-r.num), .int (r.den : Int)] = qD (-r) := by
  unfold qD
  rw [Rat.neg_num, Rat.neg_den]
section
theorem ok_sum_of_products {P : Program} {w : World} {K : PySem.W.Frag} {mg : Str → Option Value} {base : Heap} {A : Nat → Addr} {D : Nat → FuncData} (T : Txt K mg A D) : FnOk P w K mg base (L2.CX P w) 3 (A 12) (D 12) ["a", "b", "c", "d"] (sp_sum_of_products K) := by
  refine T.F_sum_of_products.okX sc_sum_of_products (fun vs H Q E h => ?_) (fun cdv A' outer s H vs Q E hr h => ?_)
  · obtain ⟨_, _, _, _, _, _, _, _, rfl, _⟩ := h
    rfl
  obtain ⟨v1, v2, v3, v4, a, b, c, d, rfl, h1, h2, h3, h4, g1, g2, g3, g4, f1, f2, f3, q⟩ := h
  refine ⟨_, (pss_one (ps_ret (pe_call (ok_add T) (hr.mono (by decide)) (by rfl) T.m_add T.F_add.kp T.b_add .nil (passes_call (takes_of rfl rfl rfl rfl) (fun _ _ _ _ h => h)) (pa_cons (pe_call (ok_multiply T) (hr.mono (by decide)) (by rfl) T.m_multiply T.F_multiply.kp T.b_multiply .nil (passes_call (takes_of rfl rfl rfl rfl) (fun _ _ _ _ h => h)) (pa_cons (pv 0) (pa_cons (pv 1) pa_nil))) (pa_cons (pe_call (ok_multiply T) (hr.mono (by decide)) (by rfl) T.m_multiply T.F_multiply.kp T.b_multiply .nil (passes_call (takes_of rfl rfl rfl rfl) (fun _ _ _ _ h => h)) (pa_cons (pv 2) (pa_cons (pv 3) pa_nil))) pa_nil))))), ?_⟩
  walk_at "z"
  refine opq h1 h2 g1 g2 f1 fun u1 H1 s1 e1 => ?_
  walk_at "z"
  refine opq (dp_mono s1 h3) (dp_mono s1 h4) g3 g4 f2 fun u2 H2 s2 e2 => ?_
  walk_at "z"
  exact opq (dp_mono s2 e1) e2 (fits_bg f1) (fits_bg f2) f3 fun u3 H3 s3 e3 => q _ _ ((s1.trans s2).trans s3) e3
theorem ok_negative {P : Program} {w : World} {K : PySem.W.Frag} {mg : Str → Option Value} {base : Heap} {A : Nat → Addr} {D : Nat → FuncData} (T : Txt K mg A D) : FnOk P w K mg base (L2.CX P w) 1 (A 13) (D 13) ["a"] (sp_negative K) := by
  refine T.F_negative.okX sc_negative (fun vs H Q E h => ?_) (fun cdv A' outer s H vs Q E hr h => ?_)
  · obtain ⟨_, _, rfl, _⟩ := h
    rfl
  obtain ⟨_, a, rfl, h1, q⟩ := h
  obtain ⟨p, rfl, hp⟩ := dp_q h1
  refine ⟨_, (pss_one (ps_ret (pe_tup (pa_cons (pe_un un_neg (pe_ix ix_tup (pv 0) pe_int (fun _ _ => rfl))) (pa_cons (pe_ix ix_tup (pv 0) pe_int (fun _ _ => rfl)) pa_nil))))), ?_⟩
  walk_at "z"
  intro p9 H9 _ s9 h9
  exact q _ _ s9 (by rw [← neg_q]; exact dp_mk h9 (.cons (.int _) (.cons (.int _) .nil)))
end
theorem sop {K : PySem.W.Frag} {H : Hp} {v1 v2 v3 v4 : V} {a b c d : Rat} {Q : VK} {E : XK} (h1 : Dp K H v1 (qD a)) (h2 : Dp K H v2 (qD b)) (h3 : Dp K H v3 (qD c)) (h4 : Dp K H v4 (qD d)) (g1 : Bg a) (g2 : Bg b) (g3 : Bg c) (g4 : Bg d) (f1 : fitsQ (a * b)) (f2 : fitsQ (c * d)) (f3 : fitsQ (a * b + c * d))
    (q : RetD K H (qD (a * b + c * d)) Q) : sp_sum_of_products K [v1, v2, v3, v4] H Q E := ⟨v1, v2, v3, v4, a, b, c, d, rfl, h1, h2, h3, h4, g1, g2, g3, g4, f1, f2, f3, q⟩
/-- the parts of a transform, each at most so great -/
structure Tb (tx ty xx xy yx yy : Rat) (k : Nat) : Prop where
  b1 : Bd tx k 6
  b2 : Bd ty k 6
  b3 : Bd xx k 6
  b4 : Bd xy k 6
  b5 : Bd yx k 6
  b6 : Bd yy k 6
theorem fitX {tx xx xy x y : Rat} (h1 : Bd tx 100 6) (h2 : Bd xx 100 6) (h3 : Bd xy 100 6) (h4 : Bd x 100 6) (h5 : Bd y 100 6) : FitX tx xx xy x y :=
  ⟨(bd_mul h2 h4).fits (by decide) (by decide), (bd_mul h3 h5).fits (by decide) (by decide), (bd_add h1 (bd_mul h2 h4)).fits (by decide) (by decide), (bd_add (bd_add h1 (bd_mul h2 h4)) (bd_mul h3 h5)).fits (by decide) (by decide)⟩
theorem aX_mX (tx xx xy x y : Rat) : aX tx xx xy x y = mX tx xx xy x y := by
  unfold aX mX
  rw [Rat.add_assoc]
def sp_compose (K : PySem.W.Frag) : Sp := fun vs H Q _ => ∃ (v w : V) (tx ty xx xy yx yy ux uy a b c d : Rat), vs = [v, w] ∧ Dp K H v (tD tx ty xx xy yx yy) ∧ Dp K H w (tD ux uy a b c d) ∧ Tb tx ty xx xy yx yy 100 ∧ Tb ux uy a b c d 100 ∧
  RetD K H (tD (mX ux a b tx ty) (mX uy c d tx ty) (a * xx + b * yx) (a * xy + b * yy) (c * xx + d * yx) (c * xy + d * yy)) Q
theorem lb {r : Rat} (h : Bd r 100 6) : Bg r := h.bg (by decide) (by decide)
theorem cut2 {a b c d e f : V} : cutV [a, b, c, d, e, f] (some 2) none = [c, d, e, f] := by
  unfold cutV
  rw [show HT.sIx [a, b, c, d, e, f].length 0 (some 2) = min 2 6 from HT.sIx_nat 6 0 2, HT.sIx_none]
  rfl
section
theorem ok_compose {P : Program} {w : World} {K : PySem.W.Frag} {mg : Str → Option Value} {base : Heap} {A : Nat → Addr} {D : Nat → FuncData} (T : Txt K mg A D) : FnOk P w K mg base (L2.CX P w) 5 (A 10) (D 10) ["first", "second"] (sp_compose K) := by
  refine T.F_compose.okX sc_compose (fun vs H Q E h => ?_) (fun cdv A' outer s H vs Q E hr h => ?_)
  · obtain ⟨_, _, _, _, _, _, _, _, _, _, _, _, _, _, rfl, _⟩ := h
    rfl
  obtain ⟨_, _, tx, ty, xx, xy, yx, yy, ux, uy, a, b, c, d, rfl, ht, hu, B, C, q⟩ := h
  obtain ⟨p, v1, v2, v3, v4, v5, v6, rfl, hS, h1, h2, h3', h4, h5, h6⟩ := dp_t6 ht
  obtain ⟨p2, w1, w2, w3, w4, w5, w6, rfl, hS2, k1, k2, k3, k4, k5, k6⟩ := dp_t6 hu
  refine ⟨_, (pss_cons (ps_asg (pv 0) (pg_tup (by rfl) (pgs_cons (pg_name (i := 2) sc_compose.nd rfl (.inl rfl)) (pgs_cons (pg_name (i := 3) sc_compose.nd rfl (.inl rfl)) (pgs_cons (pg_name (i := 4) sc_compose.nd rfl (.inl rfl)) (pgs_cons (pg_name (i := 5) sc_compose.nd rfl (.inl rfl)) (pgs_cons (pg_name (i := 6) sc_compose.nd rfl (.inl rfl)) (pgs_cons (pg_name (i := 7) sc_compose.nd rfl (.inl rfl)) pgs_nil))))))))
  (pss_cons (ps_asg (pe_slice sl_tup (pv 1) (po_some pe_int) po_none) (pg_tup (by rfl) (pgs_cons (pg_name (i := 8) sc_compose.nd rfl (.inl rfl)) (pgs_cons (pg_name (i := 9) sc_compose.nd rfl (.inl rfl)) (pgs_cons (pg_name (i := 10) sc_compose.nd rfl (.inl rfl)) (pgs_cons (pg_name (i := 11) sc_compose.nd rfl (.inl rfl)) pgs_nil))))))
  (pss_cons (ps_set (i := 12) sc_compose.nd rfl (.inl rfl) (pe_tup (pa_cons (pe_call (ok_sum_of_products T) (hr.mono (by decide)) (by rfl) T.m_sum_of_products T.F_sum_of_products.kp T.b_sum_of_products .nil (passes_call (takes_of rfl rfl rfl rfl) (fun _ _ _ _ h => h)) (pa_cons (pv 8) (pa_cons (pv 4) (pa_cons (pv 9) (pa_cons (pv 6) pa_nil))))) (pa_cons (pe_call (ok_sum_of_products T) (hr.mono (by decide)) (by rfl) T.m_sum_of_products T.F_sum_of_products.kp T.b_sum_of_products .nil (passes_call (takes_of rfl rfl rfl rfl) (fun _ _ _ _ h => h)) (pa_cons (pv 8) (pa_cons (pv 5) (pa_cons (pv 9) (pa_cons (pv 7) pa_nil))))) (pa_cons (pe_call (ok_sum_of_products T) (hr.mono (by decide)) (by rfl) T.m_sum_of_products T.F_sum_of_products.kp T.b_sum_of_products .nil (passes_call (takes_of rfl rfl rfl rfl) (fun _ _ _ _ h => h)) (pa_cons (pv 10) (pa_cons (pv 4) (pa_cons (pv 11) (pa_cons (pv 6) pa_nil))))) (pa_cons (pe_call (ok_sum_of_products T) (hr.mono (by decide)) (by rfl) T.m_sum_of_products T.F_sum_of_products.kp T.b_sum_of_products .nil (passes_call (takes_of rfl rfl rfl rfl) (fun _ _ _ _ h => h)) (pa_cons (pv 10) (pa_cons (pv 5) (pa_cons (pv 11) (pa_cons (pv 7) pa_nil))))) pa_nil))))))
  (pss_one (ps_ret (pe_op op_catT (pe_call (ok_apply T) (hr.mono (by decide)) (by rfl) T.m_apply T.F_apply.kp T.b_apply .nil (passes_call (takes_of rfl rfl rfl rfl) (fun _ _ _ _ h => h)) (pa_cons (pv 1) (pa_cons (pe_tup (pa_cons (pv 2) (pa_cons (pv 3) pa_nil))) pa_nil))) (pv 12))))))), ?_⟩
  walk_at "z"
  refine ⟨_, rfl, ?_⟩
  walk_at "z"
  refine z_slT hS2 (fun z => absurd ((HT.sIx_nat 6 0 2).symm.trans z.1) (by decide)) cut2 fun p3 H3 _ s3 h3 => ?_
  walk_at "z"
  refine sop (dp_mono s3 k3) (dp_mono s3 h3') (dp_mono s3 k4) (dp_mono s3 h5) (lb C.b3) (lb B.b3) (lb C.b4) (lb B.b5) ((bd_mul C.b3 B.b3).fits (by decide) (by decide)) ((bd_mul C.b4 B.b5).fits (by decide) (by decide)) ((bd_add (bd_mul C.b3 B.b3) (bd_mul C.b4 B.b5)).fits (by decide) (by decide)) fun u4 H4 s4 e4 => ?_
  walk_at "z"
  have z4 := s3.trans s4
  refine sop (dp_mono z4 k3) (dp_mono z4 h4) (dp_mono z4 k4) (dp_mono z4 h6) (lb C.b3) (lb B.b4) (lb C.b4) (lb B.b6) ((bd_mul C.b3 B.b4).fits (by decide) (by decide)) ((bd_mul C.b4 B.b6).fits (by decide) (by decide)) ((bd_add (bd_mul C.b3 B.b4) (bd_mul C.b4 B.b6)).fits (by decide) (by decide)) fun u5 H5 s5 e5 => ?_
  walk_at "z"
  have z5 := z4.trans s5
  refine sop (dp_mono z5 k5) (dp_mono z5 h3') (dp_mono z5 k6) (dp_mono z5 h5) (lb C.b5) (lb B.b3) (lb C.b6) (lb B.b5) ((bd_mul C.b5 B.b3).fits (by decide) (by decide)) ((bd_mul C.b6 B.b5).fits (by decide) (by decide)) ((bd_add (bd_mul C.b5 B.b3) (bd_mul C.b6 B.b5)).fits (by decide) (by decide)) fun u6 H6 s6 e6 => ?_
  walk_at "z"
  have z6 := z5.trans s6
  refine sop (dp_mono z6 k5) (dp_mono z6 h4) (dp_mono z6 k6) (dp_mono z6 h6) (lb C.b5) (lb B.b4) (lb C.b6) (lb B.b6) ((bd_mul C.b5 B.b4).fits (by decide) (by decide)) ((bd_mul C.b6 B.b6).fits (by decide) (by decide)) ((bd_add (bd_mul C.b5 B.b4) (bd_mul C.b6 B.b6)).fits (by decide) (by decide)) fun u7 H7 s7 e7 => ?_
  walk_at "z"
  intro p8 H8 _ s8 h8
  walk_at "z"
  intro p9 H9 _ s9 h9
  have z7 := z6.trans s7
  have z9 := (z7.trans s8).trans s9
  walk_at "z"
  refine ⟨_, _, ux, uy, a, b, c, d, tx, ty, rfl, dp_mono z9 hu, dp_p h9 (dp_mono z9 h1) (dp_mono z9 h2), lb C.b1, lb C.b2, lb C.b3, lb C.b4, lb C.b5, lb C.b6, lb B.b1, lb B.b2, fitX C.b1 C.b3 C.b4 B.b1 B.b2, fitX C.b2 C.b5 C.b6 B.b1 B.b2, fun u10 H10 s10 e10 => ?_⟩
  obtain ⟨p10, y1, y2, rfl, hS10, g1, g2⟩ := dp_t2 e10
  walk_at "z"
  have h8' := s10 _ _ (s9 _ _ h8)
  refine z_catT hS10 (.inl (.inl h8')) (by simp) (by simp) (by simp) fun p11 H11 _ s11 h11 => ?_
  have z8 := ((s8.trans s9).trans s10).trans s11
  exact q _ _ ((z9.trans s10).trans s11) (dp_6 h11 (dp_mono s11 g1) (dp_mono s11 g2) (dp_mono (((s5.trans s6).trans s7).trans z8) e4) (dp_mono ((s6.trans s7).trans z8) e5) (dp_mono (s7.trans z8) e6) (dp_mono z8 e7))
end
/-! ### the inverse -/
def det (xx xy yx yy : Rat) : Rat := xx * yy - xy * yx
def ivx (a b D tx ty : Rat) : Rat := -(a / D * tx + b / D * ty)
def sp_inverse (K : PySem.W.Frag) (A : Nat → Addr) : Sp := fun vs H Q E => ∃ (v : V) (tx ty xx xy yx yy : Rat), vs = [v] ∧ Dp K H v (tD tx ty xx xy yx yy) ∧ Tb tx ty xx xy yx yy 100 ∧ (det xx xy yx yy = 0 → ∀ H', Same H H' → E (.ref (A 2)) none H') ∧
  (det xx xy yx yy ≠ 0 → RetD K H (tD (ivx yy (-xy) (det xx xy yx yy) tx ty) (ivx (-yx) xx (det xx xy yx yy) tx ty) (yy / det xx xy yx yy) ((-xy) / det xx xy yx yy) ((-yx) / det xx xy yx yy) (xx / det xx xy yx yy)) Q)
theorem bdet {tx ty xx xy yx yy : Rat} (B : Tb tx ty xx xy yx yy 100) : Bd (det xx xy yx yy) 720000 1296 := bd_sub (bd_mul B.b3 B.b6) (bd_mul B.b4 B.b5)
theorem bq {a D : Rat} (h0 : D ≠ 0) (h : Bd a 100 6) (hD : Bd D 720000 1296) : Bd (a / D) 129600 4320000 := bd_div h0 h hD
theorem bqt {a b : Rat} (h : Bd a 129600 4320000) (h' : Bd b 100 6) : Bd (a * b) 12960000 25920000 := bd_mul h h'
theorem bqs {a b : Rat} (h : Bd a 12960000 25920000) (h' : Bd b 12960000 25920000) : Bd (a + b) 671846400000000 671846400000000 := (bd_add h h').le (by decide) (by decide)
theorem divq {K : PySem.W.Frag} {A : Nat → Addr} {H : Hp} {v w : V} {a b : Rat} {Q : VK} {E : XK} (ha : Dp K H v (qD a)) (hb : Dp K H w (qD b)) (ga : Bg a) (gb : Bg b) (h0 : b ≠ 0) (hf : fitsQ (a / b)) (q : RetD K H (qD (a / b)) Q) : sp_divide K A [v, w] H Q E :=
  ⟨v, w, a, b, rfl, ha, hb, ga, gb, fun z => absurd z h0, fun _ => ⟨fun n => absurd hf n, fun _ => q⟩⟩
section
theorem ok_inverse {P : Program} {w : World} {K : PySem.W.Frag} {mg : Str → Option Value} {base : Heap} {A : Nat → Addr} {D : Nat → FuncData} (T : Txt K mg A D) : FnOk P w K mg base (L2.CX P w) 4 (A 11) (D 11) ["transform"] (sp_inverse K A) := by
  refine T.F_inverse.okX sc_inverse (fun vs H Q E h => ?_) (fun cdv A' outer s H vs Q E hr h => ?_)
  · obtain ⟨_, _, _, _, _, _, _, rfl, _⟩ := h
    rfl
  obtain ⟨_, tx, ty, xx, xy, yx, yy, rfl, ht, B, q0, q⟩ := h
  obtain ⟨p, v1, v2, v3, v4, v5, v6, rfl, hS, h1, h2, h3', h4, h5, h6⟩ := dp_t6 ht
  refine ⟨_, (pss_cons (ps_asg (pv 0) (pg_tup (by rfl) (pgs_cons (pg_name (i := 1) sc_inverse.nd rfl (.inl rfl)) (pgs_cons (pg_name (i := 2) sc_inverse.nd rfl (.inl rfl)) (pgs_cons (pg_name (i := 3) sc_inverse.nd rfl (.inl rfl)) (pgs_cons (pg_name (i := 4) sc_inverse.nd rfl (.inl rfl)) (pgs_cons (pg_name (i := 5) sc_inverse.nd rfl (.inl rfl)) (pgs_cons (pg_name (i := 6) sc_inverse.nd rfl (.inl rfl)) pgs_nil))))))))
  (pss_cons (ps_set (i := 7) sc_inverse.nd rfl (.inl rfl) (pe_call (ok_subtract T) (hr.mono (by decide)) (by rfl) T.m_subtract T.F_subtract.kp T.b_subtract .nil (passes_call (takes_of rfl rfl rfl rfl) (fun _ _ _ _ h => h)) (pa_cons (pe_call (ok_multiply T) (hr.mono (by decide)) (by rfl) T.m_multiply T.F_multiply.kp T.b_multiply .nil (passes_call (takes_of rfl rfl rfl rfl) (fun _ _ _ _ h => h)) (pa_cons (pv 3) (pa_cons (pv 6) pa_nil))) (pa_cons (pe_call (ok_multiply T) (hr.mono (by decide)) (by rfl) T.m_multiply T.F_multiply.kp T.b_multiply .nil (passes_call (takes_of rfl rfl rfl rfl) (fun _ _ _ _ h => h)) (pa_cons (pv 4) (pa_cons (pv 5) pa_nil))) pa_nil))))
  (pss_cons (ps_if (pt_cmpR (op_eqD hr.units) (pv 7) (Z.pe_globR T.c_ZERO) (nomark _))
  (pss_one (ps_raise rfl (takes_of rfl rfl rfl rfl) (Z.pmk T.x_DivisionByZero (by rfl))))
  pss_nil)
  (pss_cons (ps_set (i := 8) sc_inverse.nd rfl (.inl rfl) (pe_call (ok_divide T) (hr.mono (by decide)) (by rfl) T.m_divide T.F_divide.kp T.b_divide .nil (passes_call (takes_of rfl rfl rfl rfl) (fun _ _ _ _ h => h)) (pa_cons (pv 6) (pa_cons (pv 7) pa_nil))))
  (pss_cons (ps_set (i := 9) sc_inverse.nd rfl (.inl rfl) (pe_call (ok_divide T) (hr.mono (by decide)) (by rfl) T.m_divide T.F_divide.kp T.b_divide .nil (passes_call (takes_of rfl rfl rfl rfl) (fun _ _ _ _ h => h)) (pa_cons (pe_call (ok_negative T) (hr.mono (by decide)) (by rfl) T.m_negative T.F_negative.kp T.b_negative .nil (passes_call (takes_of rfl rfl rfl rfl) (fun _ _ _ _ h => h)) (pa_cons (pv 4) pa_nil)) (pa_cons (pv 7) pa_nil))))
  (pss_cons (ps_set (i := 10) sc_inverse.nd rfl (.inl rfl) (pe_call (ok_divide T) (hr.mono (by decide)) (by rfl) T.m_divide T.F_divide.kp T.b_divide .nil (passes_call (takes_of rfl rfl rfl rfl) (fun _ _ _ _ h => h)) (pa_cons (pe_call (ok_negative T) (hr.mono (by decide)) (by rfl) T.m_negative T.F_negative.kp T.b_negative .nil (passes_call (takes_of rfl rfl rfl rfl) (fun _ _ _ _ h => h)) (pa_cons (pv 5) pa_nil)) (pa_cons (pv 7) pa_nil))))
  (pss_cons (ps_set (i := 11) sc_inverse.nd rfl (.inl rfl) (pe_call (ok_divide T) (hr.mono (by decide)) (by rfl) T.m_divide T.F_divide.kp T.b_divide .nil (passes_call (takes_of rfl rfl rfl rfl) (fun _ _ _ _ h => h)) (pa_cons (pv 3) (pa_cons (pv 7) pa_nil))))
  (pss_cons (ps_set (i := 12) sc_inverse.nd rfl (.inl rfl) (pe_call (ok_negative T) (hr.mono (by decide)) (by rfl) T.m_negative T.F_negative.kp T.b_negative .nil (passes_call (takes_of rfl rfl rfl rfl) (fun _ _ _ _ h => h)) (pa_cons (pe_call (ok_sum_of_products T) (hr.mono (by decide)) (by rfl) T.m_sum_of_products T.F_sum_of_products.kp T.b_sum_of_products .nil (passes_call (takes_of rfl rfl rfl rfl) (fun _ _ _ _ h => h)) (pa_cons (pv 8) (pa_cons (pv 1) (pa_cons (pv 9) (pa_cons (pv 2) pa_nil))))) pa_nil)))
  (pss_cons (ps_set (i := 13) sc_inverse.nd rfl (.inl rfl) (pe_call (ok_negative T) (hr.mono (by decide)) (by rfl) T.m_negative T.F_negative.kp T.b_negative .nil (passes_call (takes_of rfl rfl rfl rfl) (fun _ _ _ _ h => h)) (pa_cons (pe_call (ok_sum_of_products T) (hr.mono (by decide)) (by rfl) T.m_sum_of_products T.F_sum_of_products.kp T.b_sum_of_products .nil (passes_call (takes_of rfl rfl rfl rfl) (fun _ _ _ _ h => h)) (pa_cons (pv 10) (pa_cons (pv 1) (pa_cons (pv 11) (pa_cons (pv 2) pa_nil))))) pa_nil)))
  (pss_one (ps_ret (pe_tup (pa_cons (pv 12) (pa_cons (pv 13) (pa_cons (pv 8) (pa_cons (pv 9) (pa_cons (pv 10) (pa_cons (pv 11) pa_nil)))))))))))))))))), ?_⟩
  walk_at "z"
  refine opq h3' h6 (lb B.b3) (lb B.b6) ((bd_mul B.b3 B.b6).fits (by decide) (by decide)) fun u1 H1 s1 e1 => ?_
  walk_at "z"
  refine opq (dp_mono s1 h4) (dp_mono s1 h5) (lb B.b4) (lb B.b5) ((bd_mul B.b4 B.b5).fits (by decide) (by decide)) fun u2 H2 s2 e2 => ?_
  walk_at "z"
  refine opq (dp_mono s2 e1) e2 ((bd_mul B.b3 B.b6).bg (by decide) (by decide)) ((bd_mul B.b4 B.b5).bg (by decide) (by decide)) ((bd_sub (bd_mul B.b3 B.b6) (bd_mul B.b4 B.b5)).fits (by decide) (by decide)) fun u3 H3 s3 e3 => ?_
  have z3 := (s1.trans s2).trans s3
  have e3 : Dp K H3 u3 (qD (det xx xy yx yy)) := e3
  have bD := bdet B
  generalize det xx xy yx yy = D0 at *
  walk_at "z"
  refine z_eqQ e3 (dZ T _) ?_
  walk_at "z"
  refine z_if (fun c => q0 c _ z3) (fun c => ?_)
  have q := q c
  have gD : Bg D0 := bD.bg (by decide) (by decide)
  walk_at "z"
  refine divq (dp_mono z3 h6) e3 (lb B.b6) gD c ((bq c B.b6 bD).fits (by decide) (by decide)) fun u4 H4 s4 e4 => ?_
  walk_at "z"
  have z4 := z3.trans s4
  refine ⟨_, _, rfl, dp_mono z4 h4, fun u5 H5 s5 e5 => ?_⟩
  walk_at "z"
  refine divq e5 (dp_mono (s4.trans s5) e3) (lb (bd_neg B.b4)) gD c ((bq c (bd_neg B.b4) bD).fits (by decide) (by decide)) fun u6 H6 s6 e6 => ?_
  walk_at "z"
  have z6 := (z4.trans s5).trans s6
  refine ⟨_, _, rfl, dp_mono z6 h5, fun u7 H7 s7 e7 => ?_⟩
  walk_at "z"
  refine divq e7 (dp_mono (((s4.trans s5).trans s6).trans s7) e3) (lb (bd_neg B.b5)) gD c ((bq c (bd_neg B.b5) bD).fits (by decide) (by decide)) fun u8 H8 s8 e8 => ?_
  walk_at "z"
  have z8 := (z6.trans s7).trans s8
  refine divq (dp_mono z8 h3') (dp_mono (((((s4.trans s5).trans s6).trans s7).trans s8)) e3) (lb B.b3) gD c ((bq c B.b3 bD).fits (by decide) (by decide)) fun u9 H9 s9 e9 => ?_
  walk_at "z"
  have z9 := z8.trans s9
  have a4 := bq c B.b6 bD
  have a6 := bq c (bd_neg B.b4) bD
  have a8 := bq c (bd_neg B.b5) bD
  have a9 := bq c B.b3 bD
  have f4 := dp_mono ((((s5.trans s6).trans s7).trans s8).trans s9) e4
  have f6 := dp_mono ((s7.trans s8).trans s9) e6
  have f8 := dp_mono s9 e8
  clear e4 e5 e6 e7 e8 e3
  refine sop f4 (dp_mono z9 h1) f6 (dp_mono z9 h2) (a4.bg (by decide) (by decide)) (lb B.b1) (a6.bg (by decide) (by decide)) (lb B.b2) ((bqt a4 B.b1).fits (by decide) (by decide)) ((bqt a6 B.b2).fits (by decide) (by decide)) ((bqs (bqt a4 B.b1) (bqt a6 B.b2)).fits (by decide) (by decide)) fun u10 H10 s10 e10 => ?_
  walk_at "z"
  refine ⟨_, _, rfl, e10, fun u11 H11 s11 e11 => ?_⟩
  walk_at "z"
  have s1011 := s10.trans s11
  have z11 := z9.trans s1011
  refine sop (dp_mono s1011 f8) (dp_mono z11 h1) (dp_mono s1011 e9) (dp_mono z11 h2) (a8.bg (by decide) (by decide)) (lb B.b1) (a9.bg (by decide) (by decide)) (lb B.b2) ((bqt a8 B.b1).fits (by decide) (by decide)) ((bqt a9 B.b2).fits (by decide) (by decide)) ((bqs (bqt a8 B.b1) (bqt a9 B.b2)).fits (by decide) (by decide)) fun u12 H12 s12 e12 => ?_
  walk_at "z"
  refine ⟨_, _, rfl, e12, fun u13 H13 s13 e13 => ?_⟩
  walk_at "z"
  intro p14 H14 _ s14 h14
  have zz := (s12.trans s13).trans s14
  have z911 := s1011.trans zz
  exact q _ _ ((z11.trans zz)) (dp_6 h14 (dp_mono zz e11) (dp_mono s14 e13) (dp_mono z911 f4) (dp_mono z911 f6) (dp_mono z911 f8) (dp_mono z911 e9))
end
/-! ### what the law asks -/
theorem isN {K : PySem.W.Frag} {H : Hp} {v : V} {r : Rat} {Q : VK} {E : XK} (h : Dp K H v (qD r)) (q : Q (.bl true) H) : sp__law_is_number K [v] H Q E := ⟨v, r, rfl, h, q⟩
def sp__law_is_transform (K : PySem.W.Frag) : Sp := fun vs H Q _ => ∃ (v : V) (a b c d e f : Rat), vs = [v] ∧ Dp K H v (tD a b c d e f) ∧ Bg a ∧ Bg b ∧ Bg c ∧ Bg d ∧ Bg e ∧ Bg f ∧ ∀ H', Same H H' → Q (.bl true) H'
theorem lt24 {a : Nat} (h : a < 2 ^ 200) : a < 2 ^ 400 := Nat.lt_of_lt_of_le h (Nat.pow_le_pow_right (by decide) (by decide))
def sp__law_no_inverse (K : PySem.W.Frag) : Sp := fun vs H Q _ => ∃ (v : V) (tx ty xx xy yx yy : Rat), vs = [v] ∧ Dp K H v (tD tx ty xx xy yx yy) ∧ Tb tx ty xx xy yx yy 100 ∧ det xx xy yx yy = 0 ∧ ∀ H', Q (.bl true) H'
section
theorem ok__law_is_transform {P : Program} {w : World} {K : PySem.W.Frag} {mg : Str → Option Value} {base : Heap} {A : Nat → Addr} {D : Nat → FuncData} (T : Txt K mg A D) : FnOk P w K mg base (L2.CX P w) 3 (A 27) (D 27) ["actual"] (sp__law_is_transform K) := by
  refine T.F__law_is_transform.okX sc__law_is_transform (fun vs H Q E h => ?_) (fun cdv A' outer s H vs Q E hr h => ?_)
  · obtain ⟨_, _, _, _, _, _, _, rfl, _⟩ := h
    rfl
  obtain ⟨_, a, b, c, d, e, f, rfl, ht, g1, g2, g3, g4, g5, g6, q⟩ := h
  obtain ⟨p, v1, v2, v3, v4, v5, v6, rfl, hS, h1, h2, h3, h4, h5, h6⟩ := dp_t6 ht
  refine ⟨_, (pss_cons (ps_if (PW.pt (pw_or (pt_not (pt_val (pe_callB call_isi (by rfl) T.z_isinstance (by decide +kernel) (pa_cons (pv 0) (pa_cons (pe_bltn (v := .ty "tuple") (by rfl) T.z_tuple (by decide +kernel) rfl) pa_nil))))) (pw_or1 (pt_cmpR op_ne (pe_callB Z.c_len (by rfl) T.z_len (by decide +kernel) (pa_cons (pv 0) pa_nil)) pe_int (nomark _)))))
  (pss_one (ps_ret pe_bl))
  pss_nil)
  (pss_cons (ps_for (passes_of rfl) rfl (pi_tup (pv 0)) (pg_name (i := 1) sc__law_is_transform.nd rfl (.inl rfl))
  (pss_one (ps_if (PW.pt (pw_or (pt_not (pt_val (pe_call (ok__law_is_number T) (hr.mono (by decide)) (by rfl) T.m__law_is_number T.F__law_is_number.kp T.b__law_is_number .nil (passes_call (takes_of rfl rfl rfl rfl) (fun _ _ _ _ h => h)) (pa_cons (pv 1) pa_nil)))) (pw_or (pt_cmpR op_lt (pe_ix ix_tup (pv 1) pe_int (fun _ _ => rfl)) pe_int (nomark _)) (pw_or1 (pt_cmpR (op_neD hr.units) (pe_call (ok__law_ratio T) (hr.mono (by decide)) (by rfl) T.m__law_ratio T.F__law_ratio.kp T.b__law_ratio .nil (passes_call (takes_of rfl rfl rfl rfl) (fun _ _ _ _ h => h)) (pa_cons (pe_ix ix_tup (pv 1) pe_int (fun _ _ => rfl)) (pa_cons (pe_ix ix_tup (pv 1) pe_int (fun _ _ => rfl)) pa_nil))) (pv 1) (nomark _))))))
  (pss_one (ps_ret pe_bl))
  pss_nil)))
  (pss_one (ps_ret pe_bl)))), ?_⟩
  walk_at "z"
  refine z_forT (fun R q => by walk_at "z"; exact q) hS (fun i σ' H' => Same H H' ∧ ∃ kv : Option V, σ' = [some (.ref p), kv]) ⟨fun _ _ e => e, _, rfl⟩ (fun i σ' H' _ h => seqT h.1 hS) ?_ ?_
  · rintro i x' σ' H1 hi ⟨s1, kv, rfl⟩
    walk_at "z"
    have hx : ∃ r, Dp K H1 x' (qD r) ∧ Bg r := by
      match i, hi with
      | 0, hi => cases hi; exact ⟨_, dp_mono s1 h1, g1⟩
      | 1, hi => cases hi; exact ⟨_, dp_mono s1 h2, g2⟩
      | 2, hi => cases hi; exact ⟨_, dp_mono s1 h3, g3⟩
      | 3, hi => cases hi; exact ⟨_, dp_mono s1 h4, g4⟩
      | 4, hi => cases hi; exact ⟨_, dp_mono s1 h5, g5⟩
      | 5, hi => cases hi; exact ⟨_, dp_mono s1 h6, g6⟩
      | i + 6, hi => simp at hi
    obtain ⟨r, hr', gr⟩ := hx
    refine isN hr' ?_
    obtain ⟨pr, rfl, hSr⟩ := dp_q hr'
    have hden := r.den_nz
    walk_at "z"
    refine z_if (fun c => by omega) (fun _ => ?_)
    walk_at "z"
    refine ⟨_, _, rfl, by omega, lt24 gr.1, lt24 (nat200 gr.2), fun u2 H2 s2 e2 => ?_⟩
    walk_at "z"
    rw [Rat.num_divInt_den] at e2
    refine z_neSame e2 (dp_mono s2 hr') (shaped_q _) ?_
    walk_at "z"
    exact ⟨s1.trans s2, _, rfl⟩
  rintro σ' H1 ⟨s1, kv, rfl⟩
  walk_at "z"
  exact q _ s1
theorem ok__law_no_inverse {P : Program} {w : World} {K : PySem.W.Frag} {mg : Str → Option Value} {base : Heap} {A : Nat → Addr} {D : Nat → FuncData} (T : Txt K mg A D) : FnOk P w K mg base (L2.CX P w) 5 (A 28) (D 28) ["transform"] (sp__law_no_inverse K) := by
  refine T.F__law_no_inverse.okX sc__law_no_inverse (fun vs H Q E h => ?_) (fun cdv A' outer s H vs Q E hr h => ?_)
  · obtain ⟨_, _, _, _, _, _, _, rfl, _⟩ := h
    rfl
  obtain ⟨v, tx, ty, xx, xy, yx, yy, rfl, ht, B, h0, q⟩ := h
  refine ⟨_, (pss_cons (ps_try_as (i := 1) (Wout := fun _ _ _ _ => False) rfl rfl sc__law_no_inverse.nd rfl rfl ⟨rfl, by decide, .inl T.x_DivisionByZero.g⟩ takes0 (fun W pn xe tk PO => (pss_one (ps_expr (pe_callS (ok_inverse T) (hr.mono (by decide)) (by rfl) T.m_inverse T.F_inverse.kp T.b_inverse (fun σ => passAt tk σ) (by exact (pa_cons (pv 0) pa_nil))))))
  (fun a oe cls d pn hz hf => (pss_one (ps_ret (pe_and (pe_callB (Z.call_isE hz hf) (by rfl) T.z_isinstance (by decide +kernel) (pa_cons (pv 1) (pa_cons (Z.pe_globR T.x_FontError.g) pa_nil))) (pe_one (pe_callB (Z.call_isE hz hf) (by rfl) T.z_isinstance (by decide +kernel) (pa_cons (pv 1) (pa_cons (pe_bltn (v := .ty "ValueError") (by rfl) T.z_ValueError (by decide +kernel) rfl) pa_nil)))))))))
  (pss_one (ps_ret pe_bl))), ?_⟩
  walk_at "z"
  refine ⟨v, tx, ty, xx, xy, yx, yy, rfl, ht, B, fun _ H' _ => ?_, fun z => absurd h0 z⟩
  refine z_exc (exm T.x_DivisionByZero T.e_DivisionByZero_DivisionByZero) fun a ha => ?_
  walk_at "z"
  refine z_isEr T.x_DivisionByZero.c (kit_own T.x_FontError T.e_DivisionByZero_FontError T.e_FontError_FontError) ?_
  walk_at "z"
  refine z_isEt T.x_DivisionByZero.c (kit_ve T.x_DivisionByZero) ?_
  exact q _
end
def sp_law (K : PySem.W.Frag) : Sp := fun vs H Q _ => ∃ (a : Addr) (ns : List Int), vs = [.ref a] ∧ SqL K H a (ns.map V.int) ∧ ns.length ≤ 63 ∧ ∀ H', Q (.bl true) H'
theorem b1 : Bd (1 : Rat) 100 6 := ⟨by decide, by decide⟩
theorem b0 : Bd (0 : Rat) 100 6 := ⟨by decide, by decide⟩
theorem bup {r : Rat} (h : Bd r 50 6) : Bd r 100 6 := h.le (by decide) (by decide)
theorem shaped_p (x y : Rat) : SeqAt.shaped (pD x y) = true := rfl
def Pt (K : PySem.W.Frag) (H : Hp) (v : V) : Prop := ∃ x y : Rat, Bd x 100 6 ∧ Bd y 100 6 ∧ Dp K H v (pD x y)
/-- the law's move of a point, by bounds -/
theorem apd {K : PySem.W.Frag} {H : Hp} {v w : V} {tx ty xx xy yx yy x y : Rat} {Q : VK} {E : XK} {tp tq lp lq pp pq : Nat} (ht : Dp K H v (tD tx ty xx xy yx yy)) (hw : Dp K H w (pD x y)) (c1 : Bd tx tp tq) (c2 : Bd ty tp tq) (c3 : Bd xx lp lq) (c4 : Bd xy lp lq) (c5 : Bd yx lp lq) (c6 : Bd yy lp lq) (c7 : Bd x pp pq) (c8 : Bd y pp pq)
    (n1 : tp < 2 ^ 190) (n2 : tq < 2 ^ 190) (n3 : lp < 2 ^ 190) (n4 : lq < 2 ^ 190) (n5 : pp < 2 ^ 190) (n6 : pq < 2 ^ 190) (n7 : lp * pp < 2 ^ 190) (n8 : lq * pq < 2 ^ 190) (n9 : lp * pp * (lq * pq) + lp * pp * (lq * pq) < 2 ^ 190) (n10 : lq * pq * (lq * pq) < 2 ^ 190)
    (q : RetD K H (pD (aX tx xx xy x y) (aX ty yx yy x y)) Q) : sp__law_applied K [v, w] H Q E :=
  ⟨v, w, tx, ty, xx, xy, yx, yy, x, y, rfl, ht, hw, c1.bl n1 n2, c2.bl n1 n2, c3.bl n3 n4, c4.bl n3 n4, c5.bl n3 n4, c6.bl n3 n4, c7.bl n5 n6, c8.bl n5 n6,
    (bd_mul c3 c7).bl n7 n8, (bd_mul c4 c8).bl n7 n8, (bd_mul c5 c7).bl n7 n8, (bd_mul c6 c8).bl n7 n8, (bd_add (bd_mul c3 c7) (bd_mul c4 c8)).bl n9 n10, (bd_add (bd_mul c5 c7) (bd_mul c6 c8)).bl n9 n10, q⟩
theorem baX {tx xx xy x y : Rat} (h1 : Bd tx 100 6) (h2 : Bd xx 100 6) (h3 : Bd xy 100 6) (h4 : Bd x 100 6) (h5 : Bd y 100 6) : Bd (aX tx xx xy x y) 4449600 7776 := bd_add h1 (bd_add (bd_mul h2 h4) (bd_mul h3 h5))
theorem bmX {tx xx xy x y : Rat} (h1 : Bd tx 100 6) (h2 : Bd xx 100 6) (h3 : Bd xy 100 6) (h4 : Bd x 100 6) (h5 : Bd y 100 6) : Bd (mX tx xx xy x y) 4449600 7776 := bd_add (bd_add h1 (bd_mul h2 h4)) (bd_mul h3 h5)
theorem blin {a b c d : Rat} (h1 : Bd a 100 6) (h2 : Bd b 100 6) (h3 : Bd c 100 6) (h4 : Bd d 100 6) : Bd (a * b + c * d) 720000 1296 := bd_add (bd_mul h1 h2) (bd_mul h3 h4)
theorem both_is (ux a b tx ty xx xy yx yy x y : Rat) : aX (mX ux a b tx ty) (a * xx + b * yx) (a * xy + b * yy) x y = aX ux a b (aX tx xx xy x y) (aX ty yx yy x y) := by
  unfold aX mX
  grind
theorem there_x {tx ty xx xy yx yy x y : Rat} (h : det xx xy yx yy ≠ 0) : aX (ivx yy (-xy) (det xx xy yx yy) tx ty) (yy / det xx xy yx yy) (-xy / det xx xy yx yy) (aX tx xx xy x y) (aX ty yx yy x y) = x := by
  unfold aX ivx
  have e : det xx xy yx yy = xx * yy - xy * yx := rfl
  generalize det xx xy yx yy = D at *
  grind
theorem there_y {tx ty xx xy yx yy x y : Rat} (h : det xx xy yx yy ≠ 0) : aX (ivx (-yx) xx (det xx xy yx yy) tx ty) (-yx / det xx xy yx yy) (xx / det xx xy yx yy) (aX tx xx xy x y) (aX ty yx yy x y) = y := by
  unfold aX ivx
  have e : det xx xy yx yy = xx * yy - xy * yx := rfl
  generalize det xx xy yx yy = D at *
  grind
def bakx (yy xy D tx ty x y : Rat) : Rat := (yy * (x - tx) - xy * (y - ty)) / D
theorem back_x {tx ty xy yy D x y : Rat} (h : D ≠ 0) : aX (ivx yy (-xy) D tx ty) (yy / D) (-xy / D) x y = bakx yy xy D tx ty x y := by
  unfold aX ivx bakx
  grind
theorem back_y {tx ty xx yx D x y : Rat} (h : D ≠ 0) : aX (ivx (-yx) xx D tx ty) (-yx / D) (xx / D) x y = bakx xx yx D ty tx y x := by
  unfold aX ivx bakx
  grind
theorem here_x {tx ty xx xy yx yy x y : Rat} (h : det xx xy yx yy ≠ 0) : aX tx xx xy (bakx yy xy (det xx xy yx yy) tx ty x y) (bakx xx yx (det xx xy yx yy) ty tx y x) = x := by
  unfold aX bakx
  have e : det xx xy yx yy = xx * yy - xy * yx := rfl
  generalize det xx xy yx yy = D at *
  grind
theorem here_y {tx ty xx xy yx yy x y : Rat} (h : det xx xy yx yy ≠ 0) : aX ty yx yy (bakx yy xy (det xx xy yx yy) tx ty x y) (bakx xx yx (det xx xy yx yy) ty tx y x) = y := by
  unfold aX bakx
  have e : det xx xy yx yy = xx * yy - xy * yx := rfl
  generalize det xx xy yx yy = D at *
  grind
theorem bbak {yy xy D tx ty x y : Rat} (h0 : D ≠ 0) (h1 : Bd yy 100 6) (h2 : Bd xy 100 6) (hD : Bd D 720000 1296) (h3 : Bd tx 100 6) (h4 : Bd ty 100 6) (h5 : Bd x 100 6) (h6 : Bd y 100 6) : Bd (bakx yy xy D tx ty x y) 67184640000 33592320000 :=
  bd_div h0 (bd_sub (bd_mul h1 (bd_sub h5 h3)) (bd_mul h2 (bd_sub h6 h4))) hD
section
theorem ok_law {P : Program} {w : World} {K : PySem.W.Frag} {mg : Str → Option Value} {base : Heap} {A : Nat → Addr} {D : Nat → FuncData} (T : Txt K mg A D) : FnOk P w K mg base CX0 6 (A 29) (D 29) ["script"] (sp_law K) := by
  refine T.F_law.ok sc_law (fun vs H Q E h => ?_) (fun cdv A' outer s H vs Q E hr h => ?_)
  · obtain ⟨l, ns, rfl, _⟩ := h
    rfl
  obtain ⟨l, ns, rfl, hS, _, q⟩ := h
  refine ⟨_, (pss_cons (ps_set (i := 1) sc_law.nd rfl (.inl rfl) (pe_call (ok__law_stream T) (hr.mono (by decide)) (by rfl) T.m__law_stream T.F__law_stream.kp T.b__law_stream .nil passL (pa_cons (pe_call (ok__law_cell T) (hr.mono (by decide)) (by rfl) T.m__law_cell T.F__law_cell.kp T.b__law_cell .nil passL (pa_cons (pv 0) (pa_cons pe_int pa_nil))) pa_nil)))
  (pss_cons (ps_set (i := 2) sc_law.nd rfl (.inl rfl) (pe_call (ok__law_transform T) (hr.mono (by decide)) (by rfl) T.m__law_transform T.F__law_transform.kp T.b__law_transform .nil passL (pa_cons (pv 1) pa_nil)))
  (pss_cons (ps_set (i := 3) sc_law.nd rfl (.inl rfl) (pe_call (ok__law_transform T) (hr.mono (by decide)) (by rfl) T.m__law_transform T.F__law_transform.kp T.b__law_transform .nil passL (pa_cons (pe_call (ok__law_stream T) (hr.mono (by decide)) (by rfl) T.m__law_stream T.F__law_stream.kp T.b__law_stream .nil passL (pa_cons (pe_call (ok__law_cell T) (hr.mono (by decide)) (by rfl) T.m__law_cell T.F__law_cell.kp T.b__law_cell .nil passL (pa_cons (pv 0) (pa_cons pe_int pa_nil))) pa_nil)) pa_nil)))
  (pss_cons (ps_set (i := 4) sc_law.nd rfl (.inl rfl) (pe_call (ok__law_point T) (hr.mono (by decide)) (by rfl) T.m__law_point T.F__law_point.kp T.b__law_point .nil passL (pa_cons (pe_call (ok__law_stream T) (hr.mono (by decide)) (by rfl) T.m__law_stream T.F__law_stream.kp T.b__law_stream .nil passL (pa_cons (pe_call (ok__law_cell T) (hr.mono (by decide)) (by rfl) T.m__law_cell T.F__law_cell.kp T.b__law_cell .nil passL (pa_cons (pv 0) (pa_cons pe_int pa_nil))) pa_nil)) pa_nil)))
  (pss_cons (ps_set (i := 5) sc_law.nd rfl (.inl rfl) (pe_lst (pa_cons (pv 4) (pa_cons (pe_tup (pa_cons (pe_tup (pa_cons pe_int (pa_cons pe_int pa_nil))) (pa_cons (pe_tup (pa_cons pe_int (pa_cons pe_int pa_nil))) pa_nil))) (pa_cons (pe_tup (pa_cons (pe_tup (pa_cons pe_int (pa_cons pe_int pa_nil))) (pa_cons (pe_tup (pa_cons pe_int (pa_cons pe_int pa_nil))) pa_nil))) (pa_cons (pe_tup (pa_cons (pe_tup (pa_cons pe_int (pa_cons pe_int pa_nil))) (pa_cons (pe_tup (pa_cons pe_int (pa_cons pe_int pa_nil))) pa_nil))) pa_nil))))))
  (pss_cons (ps_set (i := 6) sc_law.nd rfl (.inl rfl) (pe_call (ok_compose T) (hr.mono (by decide)) (by rfl) T.m_compose T.F_compose.kp T.b_compose .nil passL (pa_cons (pv 2) (pa_cons (pv 3) pa_nil))))
  (pss_cons (ps_if (pt_not (pt_val (pe_call (ok__law_is_transform T) (hr.mono (by decide)) (by rfl) T.m__law_is_transform T.F__law_is_transform.kp T.b__law_is_transform .nil passL (pa_cons (pv 6) pa_nil))))
  (pss_one (ps_ret pe_bl))
  pss_nil)
  (pss_cons (ps_for PassesOwn.never rfl (pi_list (pv 5)) (pg_name (i := 7) sc_law.nd rfl (.inl rfl))
  (pss_one (ps_if (pt_cmpR (op_neD hr.units) (pe_call (ok__law_applied T) (hr.mono (by decide)) (by rfl) T.m__law_applied T.F__law_applied.kp T.b__law_applied .nil passL (pa_cons (pv 6) (pa_cons (pv 7) pa_nil))) (pe_call (ok__law_applied T) (hr.mono (by decide)) (by rfl) T.m__law_applied T.F__law_applied.kp T.b__law_applied .nil passL (pa_cons (pv 3) (pa_cons (pe_call (ok__law_applied T) (hr.mono (by decide)) (by rfl) T.m__law_applied T.F__law_applied.kp T.b__law_applied .nil passL (pa_cons (pv 2) (pa_cons (pv 7) pa_nil))) pa_nil))) (nomark _))
  (pss_one (ps_ret pe_bl))
  pss_nil)))
  (pss_cons (ps_set (i := 8) sc_law.nd rfl (.inl rfl) (pe_call (ok__law_difference T) (hr.mono (by decide)) (by rfl) T.m__law_difference T.F__law_difference.kp T.b__law_difference .nil passL (pa_cons (pe_call (ok__law_product T) (hr.mono (by decide)) (by rfl) T.m__law_product T.F__law_product.kp T.b__law_product .nil passL (pa_cons (pe_ix ix_tup (pv 2) pe_int (fun _ _ => rfl)) (pa_cons (pe_ix ix_tup (pv 2) pe_int (fun _ _ => rfl)) pa_nil))) (pa_cons (pe_call (ok__law_product T) (hr.mono (by decide)) (by rfl) T.m__law_product T.F__law_product.kp T.b__law_product .nil passL (pa_cons (pe_ix ix_tup (pv 2) pe_int (fun _ _ => rfl)) (pa_cons (pe_ix ix_tup (pv 2) pe_int (fun _ _ => rfl)) pa_nil))) pa_nil))))
  (pss_cons (ps_if (pt_cmpR op_eq (pe_ix ix_tup (pv 8) pe_int (fun _ _ => rfl)) pe_int (nomark _))
  (pss_one (ps_ret (pe_call (ok__law_no_inverse T) (hr.mono (by decide)) (by rfl) T.m__law_no_inverse T.F__law_no_inverse.kp T.b__law_no_inverse .nil passL (pa_cons (pv 2) pa_nil))))
  pss_nil)
  (pss_cons (ps_set (i := 9) sc_law.nd rfl (.inl rfl) (pe_call (ok_inverse T) (hr.mono (by decide)) (by rfl) T.m_inverse T.F_inverse.kp T.b_inverse .nil passL (pa_cons (pv 2) pa_nil)))
  (pss_cons (ps_if (pt_not (pt_val (pe_call (ok__law_is_transform T) (hr.mono (by decide)) (by rfl) T.m__law_is_transform T.F__law_is_transform.kp T.b__law_is_transform .nil passL (pa_cons (pv 9) pa_nil))))
  (pss_one (ps_ret pe_bl))
  pss_nil)
  (pss_cons (ps_for PassesOwn.never rfl (pi_list (pv 5)) (pg_name (i := 7) sc_law.nd rfl (.inl rfl))
  (pss_cons (ps_if (pt_cmpR (op_neD hr.units) (pe_call (ok__law_applied T) (hr.mono (by decide)) (by rfl) T.m__law_applied T.F__law_applied.kp T.b__law_applied .nil passL (pa_cons (pv 9) (pa_cons (pe_call (ok__law_applied T) (hr.mono (by decide)) (by rfl) T.m__law_applied T.F__law_applied.kp T.b__law_applied .nil passL (pa_cons (pv 2) (pa_cons (pv 7) pa_nil))) pa_nil))) (pv 7) (nomark _))
  (pss_one (ps_ret pe_bl))
  pss_nil)
  (pss_one (ps_if (pt_cmpR (op_neD hr.units) (pe_call (ok__law_applied T) (hr.mono (by decide)) (by rfl) T.m__law_applied T.F__law_applied.kp T.b__law_applied .nil passL (pa_cons (pv 2) (pa_cons (pe_call (ok__law_applied T) (hr.mono (by decide)) (by rfl) T.m__law_applied T.F__law_applied.kp T.b__law_applied .nil passL (pa_cons (pv 9) (pa_cons (pv 7) pa_nil))) pa_nil))) (pv 7) (nomark _))
  (pss_one (ps_ret pe_bl))
  pss_nil))))
  (pss_one (ps_ret pe_bl))))))))))))))), ?_⟩
  walk_at "z"
  refine ⟨l, ns, 0, rfl, hS, fun v => ?_⟩
  walk_at "z"
  refine ⟨v, rfl, fun p H1 i1 j1 m hp s1 h1 => ?_⟩
  have S1 := Sd.mk0 hp s1 h1
  walk_at "z"
  refine ⟨p, H, rfl, S1, fun vt tx ty xx xy yx yy H2 b1' b2' b3' b4' b5' b6' S2 k2 ht => ?_⟩
  have B : Tb tx ty xx xy yx yy 100 := ⟨bup b1', bup b2', bup b3', bup b4', b5', b6'⟩
  clear b1' b2' b3' b4' b5' b6'
  walk_at "z"
  refine ⟨l, ns, 1, rfl, S2.same.seq hS, fun v2 => ?_⟩
  walk_at "z"
  refine ⟨v2, rfl, fun p2 H3 i2 j2 m2 hp2 s3 h3 => ?_⟩
  have S3 := Sd.mk0 hp2 s3 h3
  walk_at "z"
  refine ⟨p2, H2, rfl, S3, fun vu ux uy a b c d H4 b1' b2' b3' b4' b5' b6' S4 k4 hu => ?_⟩
  have C : Tb ux uy a b c d 100 := ⟨bup b1', bup b2', bup b3', bup b4', b5', b6'⟩
  clear b1' b2' b3' b4' b5' b6'
  walk_at "z"
  refine ⟨l, ns, 2, rfl, (S2.same.trans S4.same).seq hS, fun v3 => ?_⟩
  walk_at "z"
  refine ⟨v3, rfl, fun p3 H5 i3 j3 m3 hp3 s5 h5 => ?_⟩
  have S5 := Sd.mk0 hp3 s5 h5
  walk_at "z"
  refine ⟨p3, H4, rfl, S5, fun vp x0 y0 H6 bx by' S6 k6 hpt => ?_⟩
  have ht6 := dp_mono (S4.same.trans S6.same) ht
  have hu6 := dp_mono S6.same hu
  clear ht hu S1 S2 S3 S4 S5 S6 k2 k4 k6 h1 h3 h5
  walk_at "z"
  intro pA HA _ sA hA
  walk_at "z"
  intro pB HB _ sB hB
  walk_at "z"
  intro pC HC _ sC hC
  walk_at "z"
  intro pD' HD _ sD hD
  walk_at "z"
  intro pE HE _ sE hE
  walk_at "z"
  intro pF HF _ sF hF
  walk_at "z"
  intro pG HG _ sG hG
  walk_at "z"
  intro pI HI _ sI hI
  walk_at "z"
  intro pJ HJ _ sJ hJ
  walk_at "z"
  intro pL HL _ sL hL
  walk_at "z"
  have zGL := (sI.trans sJ).trans sL
  have zFL := sG.trans zGL
  have zDL := (sE.trans sF).trans zFL
  have zCL := sD.trans zDL
  have zAL := ((sA.trans sB).trans sC).trans zCL
  have mk0 : ∀ {H' : Hp} {p : Addr}, H' p = some (.tup [.int 0, .int 1]) → Dp K H' (.ref p) (qD 0) := fun h => dp_mk h (.cons (.int _) (.cons (.int _) .nil))
  have mk1 : ∀ {H' : Hp} {p : Addr}, H' p = some (.tup [.int 1, .int 1]) → Dp K H' (.ref p) (qD 1) := fun h => dp_mk h (.cons (.int _) (.cons (.int _) .nil))
  have q1 : Dp K HL (.ref pC) (pD 0 0) := dp_mono zCL (dp_p hC (dp_mono (sB.trans sC) (mk0 hA)) (dp_mono sC (mk0 hB)))
  have q2 : Dp K HL (.ref pF) (pD 1 0) := dp_mono zFL (dp_p hF (dp_mono (sE.trans sF) (mk1 hD)) (dp_mono sF (mk0 hE)))
  have q3 : Dp K HL (.ref pJ) (pD 0 1) := dp_mono sL (dp_p hJ (dp_mono (sI.trans sJ) (mk0 hG)) (dp_mono sJ (mk1 hI)))
  have q4 := dp_mono zAL hpt
  have ht7 := dp_mono zAL ht6
  have hu7 := dp_mono zAL hu6
  have pts : ∀ (i : Nat) (v : V), [vp, .ref pC, .ref pF, .ref pJ][i]? = some v → Pt K HL v := by
    intro i v hi
    match i, hi with
    | 0, hi => cases hi; exact ⟨_, _, bup bx, bup by', q4⟩
    | 1, hi => cases hi; exact ⟨_, _, b0, b0, q1⟩
    | 2, hi => cases hi; exact ⟨_, _, b1, b0, q2⟩
    | 3, hi => cases hi; exact ⟨_, _, b0, b1, q3⟩
    | i + 4, hi => simp at hi
  clear mk0 mk1 q1 q2 q3 q4 hA hB hC hD hE hF hG hI hJ zGL zFL zDL zCL zAL sA sB sC sD sE sF sG sI sJ sL ht6 hu6 hpt
  refine ⟨_, _, tx, ty, xx, xy, yx, yy, ux, uy, a, b, c, d, rfl, ht7, hu7, B, C, fun vb H7 s7 e7 => ?_⟩
  walk_at "z"
  have o1 := bmX C.b1 C.b3 C.b4 B.b1 B.b2
  have o2 := bmX C.b2 C.b5 C.b6 B.b1 B.b2
  have o3 := blin C.b3 B.b3 C.b4 B.b5
  have o4 := blin C.b3 B.b4 C.b4 B.b6
  have o5 := blin C.b5 B.b3 C.b6 B.b5
  have o6 := blin C.b5 B.b4 C.b6 B.b6
  refine ⟨_, _, _, _, _, _, _, rfl, e7, o1.bg (by decide) (by decide), o2.bg (by decide) (by decide), o3.bg (by decide) (by decide), o4.bg (by decide) (by decide), o5.bg (by decide) (by decide), o6.bg (by decide) (by decide), fun H8 s8 => ?_⟩
  walk_at "z"
  have ht8 := dp_mono (s7.trans s8) ht7
  have hu8 := dp_mono (s7.trans s8) hu7
  have e8 := dp_mono s8 e7
  have hL8 := s8 _ _ (s7 _ _ hL)
  have pts8 : ∀ (i : Nat) (v : V), [vp, .ref pC, .ref pF, .ref pJ][i]? = some v → Pt K H8 v := fun i v hi => by
    obtain ⟨x, y, g, g', h⟩ := pts i v hi
    exact ⟨x, y, g, g', dp_mono (s7.trans s8) h⟩
  clear ht7 hu7 e7 hL pts s7 s8
  refine z_forL (fun R q => by walk_at "z"; exact q) (.inl (.inl hL8)) (fun i σ' H' => Same H8 H' ∧ ∃ kv : Option V, σ' = [some (.ref l), some (.ref p), some vt, some vu, some vp, some (.ref pL), some vb, kv, none, none]) ⟨fun _ _ e => e, _, rfl⟩ (fun i σ' H' _ h => .inl (.inl (h.1 _ _ hL8))) ?_ ?_
  · rintro i x' σ' H9 hi ⟨s9, kv, rfl⟩
    obtain ⟨x, y, gx, gy, hw⟩ := pts8 i x' hi
    have hw9 := dp_mono s9 hw
    have ht9 := dp_mono s9 ht8
    have hu9 := dp_mono s9 hu8
    walk_at "z"
    refine apd (dp_mono s9 e8) hw9 o1 o2 o3 o4 o5 o6 gx gy (by decide) (by decide) (by decide) (by decide) (by decide) (by decide) (by decide) (by decide) (by decide) (by decide) fun u1 HA sA eA => ?_
    walk_at "z"
    refine apd (dp_mono sA ht9) (dp_mono sA hw9) B.b1 B.b2 B.b3 B.b4 B.b5 B.b6 gx gy (by decide) (by decide) (by decide) (by decide) (by decide) (by decide) (by decide) (by decide) (by decide) (by decide) fun u2 HB sB eB => ?_
    walk_at "z"
    refine apd (dp_mono (sA.trans sB) hu9) eB C.b1 C.b2 C.b3 C.b4 C.b5 C.b6 (baX B.b1 B.b3 B.b4 gx gy) (baX B.b2 B.b5 B.b6 gx gy) (by decide) (by decide) (by decide) (by decide) (by decide) (by decide) (by decide) (by decide) (by decide) (by decide) fun u3 HC sC eC => ?_
    walk_at "z"
    rw [both_is, both_is] at eA
    refine z_neSame (dp_mono (sB.trans sC) eA) eC (shaped_p _ _) ?_
    walk_at "z"
    exact ⟨((s9.trans sA).trans sB).trans sC, _, rfl⟩
  rintro σ' H9 ⟨s9, kv, rfl⟩
  have ht9 := dp_mono s9 ht8
  have hL9 := s9 _ _ hL8
  have pts9 : ∀ (i : Nat) (v : V), [vp, .ref pC, .ref pF, .ref pJ][i]? = some v → Pt K H9 v := fun i v hi => by
    obtain ⟨x, y, g, g', h⟩ := pts8 i v hi
    exact ⟨x, y, g, g', dp_mono s9 h⟩
  clear ht8 hL8 pts8 s9 e8 hu8
  obtain ⟨pt, v1, v2, v3', v4, v5, v6, rfl, hT, h1, h2, h3, h4, h5, h6⟩ := dp_t6 ht9
  have m : ∀ {r : Rat}, Bd r 100 6 → Bl r := fun h => h.bl (by decide) (by decide)
  walk_at "z"
  refine lop h3 h6 (m B.b3) (m B.b6) fun u1 HA sA eA => ?_
  have hTA := seqT sA hT
  walk_at "z"
  refine lop (dp_mono sA h4) (dp_mono sA h5) (m B.b4) (m B.b5) fun u2 HB sB eB => ?_
  walk_at "z"
  refine lop (dp_mono sB eA) eB ((bd_mul B.b3 B.b6).bl (by decide) (by decide)) ((bd_mul B.b4 B.b5).bl (by decide) (by decide)) fun u3 HC sC eC => ?_
  have eC : Dp K HC u3 (qD (det xx xy yx yy)) := eC
  obtain ⟨pd, rfl, hd⟩ := dp_q eC
  have zC := (sA.trans sB).trans sC
  have ht := dp_mono zC ht9
  have hL := zC _ _ hL9
  have pts : ∀ (i : Nat) (v : V), [vp, .ref pC, .ref pF, .ref pJ][i]? = some v → Pt K HC v := fun i v hi => by
    obtain ⟨x, y, g, g', h⟩ := pts9 i v hi
    exact ⟨x, y, g, g', dp_mono zC h⟩
  clear pts9 hL9 ht9 hTA hT h1 h2 h3 h4 h5 h6 zC eA eB sA sB sC
  walk_at "z"
  refine z_if (fun cz => ?_) (fun cz => ?_)
  · walk_at "z"
    exact ⟨_, tx, ty, xx, xy, yx, yy, rfl, ht, B, Rat.num_eq_zero.mp cz, fun H' => q _⟩
  have h0 : det xx xy yx yy ≠ 0 := fun z => cz (by rw [z]; rfl)
  clear eC hd
  walk_at "z"
  refine ⟨_, tx, ty, xx, xy, yx, yy, rfl, ht, B, fun z => absurd z h0, fun _ vk HD sD eD => ?_⟩
  walk_at "z"
  have bD := bdet B
  have r1 := bd_neg (bqs (bqt (bq h0 B.b6 bD) B.b1) (bqt (bq h0 (bd_neg B.b4) bD) B.b2))
  have r2 := bd_neg (bqs (bqt (bq h0 (bd_neg B.b5) bD) B.b1) (bqt (bq h0 B.b3 bD) B.b2))
  have r3 := bq h0 B.b6 bD
  have r4 := bq h0 (bd_neg B.b4) bD
  have r5 := bq h0 (bd_neg B.b5) bD
  have r6 := bq h0 B.b3 bD
  refine ⟨_, _, _, _, _, _, _, rfl, eD, r1.bg (by decide) (by decide), r2.bg (by decide) (by decide), r3.bg (by decide) (by decide), r4.bg (by decide) (by decide), r5.bg (by decide) (by decide), r6.bg (by decide) (by decide), fun HE sE => ?_⟩
  walk_at "z"
  have zE := sD.trans sE
  have htE := dp_mono zE ht
  have hbE := dp_mono sE eD
  have hLE := zE _ _ hL
  have ptsE : ∀ (i : Nat) (v : V), [vp, .ref pC, .ref pF, .ref pJ][i]? = some v → Pt K HE v := fun i v hi => by
    obtain ⟨x, y, g, g', h⟩ := pts i v hi
    exact ⟨x, y, g, g', dp_mono zE h⟩
  clear ht eD hL pts sD sE
  refine z_forL (fun R q => by walk_at "z"; exact q) (.inl (.inl hLE)) (fun i σ' H' => Same HE H' ∧ ∃ kv : Option V, σ' = [some (.ref l), some (.ref p), some (.ref pt), some vu, some vp, some (.ref pL), some vb, kv, some (.ref pd), some vk]) ⟨fun _ _ e => e, _, rfl⟩ (fun i σ' H' _ h => .inl (.inl (h.1 _ _ hLE))) ?_ ?_
  · rintro i x' σ' HF hi ⟨sF, kv, rfl⟩
    obtain ⟨x, y, gx, gy, hw⟩ := ptsE i x' hi
    have hwF := dp_mono sF hw
    have htF := dp_mono sF htE
    have hbF := dp_mono sF hbE
    walk_at "z"
    refine apd htF hwF B.b1 B.b2 B.b3 B.b4 B.b5 B.b6 gx gy (by decide) (by decide) (by decide) (by decide) (by decide) (by decide) (by decide) (by decide) (by decide) (by decide) fun u2 HG sG eG => ?_
    walk_at "z"
    refine apd (dp_mono sG hbF) eG r1 r2 r3 r4 r5 r6 (baX B.b1 B.b3 B.b4 gx gy) (baX B.b2 B.b5 B.b6 gx gy) (by decide) (by decide) (by decide) (by decide) (by decide) (by decide) (by decide) (by decide) (by decide) (by decide) fun u3 HI sI eI => ?_
    walk_at "z"
    rw [there_x h0, there_y h0] at eI
    refine z_neSame eI (dp_mono (sG.trans sI) hwF) (shaped_p _ _) ?_
    have zI := sG.trans sI
    walk_at "z"
    refine apd (dp_mono zI hbF) (dp_mono zI hwF) r1 r2 r3 r4 r5 r6 gx gy (by decide) (by decide) (by decide) (by decide) (by decide) (by decide) (by decide) (by decide) (by decide) (by decide) fun u4 HJ sJ eJ => ?_
    rw [back_x h0, back_y h0] at eJ
    walk_at "z"
    refine apd (dp_mono (zI.trans sJ) htF) eJ B.b1 B.b2 B.b3 B.b4 B.b5 B.b6 (bbak h0 B.b6 B.b4 bD B.b1 B.b2 gx gy) (bbak h0 B.b3 B.b5 bD B.b2 B.b1 gy gx) (by decide) (by decide) (by decide) (by decide) (by decide) (by decide) (by decide) (by decide) (by decide) (by decide) fun u5 HK sK eK => ?_
    rw [here_x h0, here_y h0] at eK
    walk_at "z"
    refine z_neSame eK (dp_mono ((zI.trans sJ).trans sK) hwF) (shaped_p _ _) ?_
    walk_at "z"
    exact ⟨((sF.trans zI).trans sJ).trans sK, _, rfl⟩
  rintro σ' HG ⟨sG, kv, rfl⟩
  walk_at "z"
  exact q _
end

theorem all_mk {l : PySem.W.OpenLaw} {w : World} {K : PySem.W.Frag} {h : Heap} {mg : Str → Option Value} {fa : Addr} (X : K.In h) (G : h.Ns mainGlobals mg) (hfa : mg "law" = some (.ref fa))
    {a3 : Addr} {od3 an3 : Option Addr} {sl3 : Array (Option Value)} {oc3 kV3 dc3 pm3 cd3 ct3 : Value} {a4 : Addr} {od4 an4 : Option Addr} {sl4 : Array (Option Value)} {oc4 kV4 dc4 pm4 cd4 ct4 : Value} {a5 : Addr} {od5 an5 : Option Addr} {sl5 : Array (Option Value)} {oc5 kV5 dc5 pm5 cd5 ct5 : Value} {a6 : Addr} {od6 an6 : Option Addr} {sl6 : Array (Option Value)} {oc6 kV6 dc6 pm6 cd6 ct6 : Value} {a7 : Addr} {od7 an7 : Option Addr} {sl7 : Array (Option Value)} {oc7 kV7 dc7 pm7 cd7 ct7 : Value} {a8 : Addr} {od8 an8 : Option Addr} {sl8 : Array (Option Value)} {oc8 kV8 dc8 pm8 cd8 ct8 : Value} {a9 : Addr} {od9 an9 : Option Addr} {sl9 : Array (Option Value)} {oc9 kV9 dc9 pm9 cd9 ct9 : Value} {a10 : Addr} {od10 an10 : Option Addr} {sl10 : Array (Option Value)} {oc10 kV10 dc10 pm10 cd10 ct10 : Value} {a11 : Addr} {od11 an11 : Option Addr} {sl11 : Array (Option Value)} {oc11 kV11 dc11 pm11 cd11 ct11 : Value} {a12 : Addr} {od12 an12 : Option Addr} {sl12 : Array (Option Value)} {oc12 kV12 dc12 pm12 cd12 ct12 : Value} {a13 : Addr} {od13 an13 : Option Addr} {sl13 : Array (Option Value)} {oc13 kV13 dc13 pm13 cd13 ct13 : Value} {a14 : Addr} {od14 an14 : Option Addr} {sl14 : Array (Option Value)} {oc14 kV14 dc14 pm14 cd14 ct14 : Value} {a15 : Addr} {od15 an15 : Option Addr} {sl15 : Array (Option Value)} {oc15 kV15 dc15 pm15 cd15 ct15 : Value} {a16 : Addr} {od16 an16 : Option Addr} {sl16 : Array (Option Value)} {oc16 kV16 dc16 pm16 cd16 ct16 : Value} {a17 : Addr} {od17 an17 : Option Addr} {sl17 : Array (Option Value)} {oc17 kV17 dc17 pm17 cd17 ct17 : Value} {a18 : Addr} {od18 an18 : Option Addr} {sl18 : Array (Option Value)} {oc18 kV18 dc18 pm18 cd18 ct18 : Value} {a19 : Addr} {od19 an19 : Option Addr} {sl19 : Array (Option Value)} {oc19 kV19 dc19 pm19 cd19 ct19 : Value} {a20 : Addr} {od20 an20 : Option Addr} {sl20 : Array (Option Value)} {oc20 kV20 dc20 pm20 cd20 ct20 : Value} {a21 : Addr} {od21 an21 : Option Addr} {sl21 : Array (Option Value)} {oc21 kV21 dc21 pm21 cd21 ct21 : Value} {a22 : Addr} {od22 an22 : Option Addr} {sl22 : Array (Option Value)} {oc22 kV22 dc22 pm22 cd22 ct22 : Value} {a23 : Addr} {od23 an23 : Option Addr} {sl23 : Array (Option Value)} {oc23 kV23 dc23 pm23 cd23 ct23 : Value} {a24 : Addr} {od24 an24 : Option Addr} {sl24 : Array (Option Value)} {oc24 kV24 dc24 pm24 cd24 ct24 : Value} {a25 : Addr} {od25 an25 : Option Addr} {sl25 : Array (Option Value)} {oc25 kV25 dc25 pm25 cd25 ct25 : Value} {a26 : Addr} {od26 an26 : Option Addr} {sl26 : Array (Option Value)} {oc26 kV26 dc26 pm26 cd26 ct26 : Value} {a27 : Addr} {od27 an27 : Option Addr} {sl27 : Array (Option Value)} {oc27 kV27 dc27 pm27 cd27 ct27 : Value} {a28 : Addr} {od28 an28 : Option Addr} {sl28 : Array (Option Value)} {oc28 kV28 dc28 pm28 cd28 ct28 : Value} {a29 : Addr} {od29 an29 : Option Addr} {sl29 : Array (Option Value)} {oc29 kV29 dc29 pm29 cd29 ct29 : Value} {a0 : Addr} {a1 : Addr} {a2 : Addr} {t_LIMIT : Tok} {a30 : Addr} {tZERO_0_0 : Tok} {tZERO_0_1 : Tok} {odZERO_0 : Option Addr} {nnZERO_0 : Nat} {slZERO_0 : Array (Option Value)}
    (n3 : PySem.W.nsIn K mainGlobals "ratio" = some (some (.ref a3)))
    (l3 : K.lookup a3 = some ⟨oc3, od3, .func (PySem.W.fnOf "ratio" "ratio" (defArgs s_ratio) (defBody s_ratio) (defScope s_ratio) .none kV3 dc3 pm3 an3 cd3 ct3), sl3⟩)
    (c3 : PySem.W.codeIn K cd3 "ratio" = true) (k3 : PySem.W.keepIn K (.ref a3) = true)
    (n4 : PySem.W.nsIn K mainGlobals "add" = some (some (.ref a4)))
    (l4 : K.lookup a4 = some ⟨oc4, od4, .func (PySem.W.fnOf "add" "add" (defArgs s_add) (defBody s_add) (defScope s_add) .none kV4 dc4 pm4 an4 cd4 ct4), sl4⟩)
    (c4 : PySem.W.codeIn K cd4 "add" = true) (k4 : PySem.W.keepIn K (.ref a4) = true)
    (n5 : PySem.W.nsIn K mainGlobals "subtract" = some (some (.ref a5)))
    (l5 : K.lookup a5 = some ⟨oc5, od5, .func (PySem.W.fnOf "subtract" "subtract" (defArgs s_subtract) (defBody s_subtract) (defScope s_subtract) .none kV5 dc5 pm5 an5 cd5 ct5), sl5⟩)
    (c5 : PySem.W.codeIn K cd5 "subtract" = true) (k5 : PySem.W.keepIn K (.ref a5) = true)
    (n6 : PySem.W.nsIn K mainGlobals "multiply" = some (some (.ref a6)))
    (l6 : K.lookup a6 = some ⟨oc6, od6, .func (PySem.W.fnOf "multiply" "multiply" (defArgs s_multiply) (defBody s_multiply) (defScope s_multiply) .none kV6 dc6 pm6 an6 cd6 ct6), sl6⟩)
    (c6 : PySem.W.codeIn K cd6 "multiply" = true) (k6 : PySem.W.keepIn K (.ref a6) = true)
    (n7 : PySem.W.nsIn K mainGlobals "divide" = some (some (.ref a7)))
    (l7 : K.lookup a7 = some ⟨oc7, od7, .func (PySem.W.fnOf "divide" "divide" (defArgs s_divide) (defBody s_divide) (defScope s_divide) .none kV7 dc7 pm7 an7 cd7 ct7), sl7⟩)
    (c7 : PySem.W.codeIn K cd7 "divide" = true) (k7 : PySem.W.keepIn K (.ref a7) = true)
    (n8 : PySem.W.nsIn K mainGlobals "apply" = some (some (.ref a8)))
    (l8 : K.lookup a8 = some ⟨oc8, od8, .func (PySem.W.fnOf "apply" "apply" (defArgs s_apply) (defBody s_apply) (defScope s_apply) .none kV8 dc8 pm8 an8 cd8 ct8), sl8⟩)
    (c8 : PySem.W.codeIn K cd8 "apply" = true) (k8 : PySem.W.keepIn K (.ref a8) = true)
    (n9 : PySem.W.nsIn K mainGlobals "moved_part" = some (some (.ref a9)))
    (l9 : K.lookup a9 = some ⟨oc9, od9, .func (PySem.W.fnOf "moved_part" "moved_part" (defArgs s_moved_part) (defBody s_moved_part) (defScope s_moved_part) .none kV9 dc9 pm9 an9 cd9 ct9), sl9⟩)
    (c9 : PySem.W.codeIn K cd9 "moved_part" = true) (k9 : PySem.W.keepIn K (.ref a9) = true)
    (n10 : PySem.W.nsIn K mainGlobals "compose" = some (some (.ref a10)))
    (l10 : K.lookup a10 = some ⟨oc10, od10, .func (PySem.W.fnOf "compose" "compose" (defArgs s_compose) (defBody s_compose) (defScope s_compose) .none kV10 dc10 pm10 an10 cd10 ct10), sl10⟩)
    (c10 : PySem.W.codeIn K cd10 "compose" = true) (k10 : PySem.W.keepIn K (.ref a10) = true)
    (n11 : PySem.W.nsIn K mainGlobals "inverse" = some (some (.ref a11)))
    (l11 : K.lookup a11 = some ⟨oc11, od11, .func (PySem.W.fnOf "inverse" "inverse" (defArgs s_inverse) (defBody s_inverse) (defScope s_inverse) .none kV11 dc11 pm11 an11 cd11 ct11), sl11⟩)
    (c11 : PySem.W.codeIn K cd11 "inverse" = true) (k11 : PySem.W.keepIn K (.ref a11) = true)
    (n12 : PySem.W.nsIn K mainGlobals "sum_of_products" = some (some (.ref a12)))
    (l12 : K.lookup a12 = some ⟨oc12, od12, .func (PySem.W.fnOf "sum_of_products" "sum_of_products" (defArgs s_sum_of_products) (defBody s_sum_of_products) (defScope s_sum_of_products) .none kV12 dc12 pm12 an12 cd12 ct12), sl12⟩)
    (c12 : PySem.W.codeIn K cd12 "sum_of_products" = true) (k12 : PySem.W.keepIn K (.ref a12) = true)
    (n13 : PySem.W.nsIn K mainGlobals "negative" = some (some (.ref a13)))
    (l13 : K.lookup a13 = some ⟨oc13, od13, .func (PySem.W.fnOf "negative" "negative" (defArgs s_negative) (defBody s_negative) (defScope s_negative) .none kV13 dc13 pm13 an13 cd13 ct13), sl13⟩)
    (c13 : PySem.W.codeIn K cd13 "negative" = true) (k13 : PySem.W.keepIn K (.ref a13) = true)
    (n14 : PySem.W.nsIn K mainGlobals "_law_cell" = some (some (.ref a14)))
    (l14 : K.lookup a14 = some ⟨oc14, od14, .func (PySem.W.fnOf "_law_cell" "_law_cell" (defArgs s__law_cell) (defBody s__law_cell) (defScope s__law_cell) .none kV14 dc14 pm14 an14 cd14 ct14), sl14⟩)
    (c14 : PySem.W.codeIn K cd14 "_law_cell" = true) (k14 : PySem.W.keepIn K (.ref a14) = true)
    (n15 : PySem.W.nsIn K mainGlobals "_law_stream" = some (some (.ref a15)))
    (l15 : K.lookup a15 = some ⟨oc15, od15, .func (PySem.W.fnOf "_law_stream" "_law_stream" (defArgs s__law_stream) (defBody s__law_stream) (defScope s__law_stream) .none kV15 dc15 pm15 an15 cd15 ct15), sl15⟩)
    (c15 : PySem.W.codeIn K cd15 "_law_stream" = true) (k15 : PySem.W.keepIn K (.ref a15) = true)
    (n16 : PySem.W.nsIn K mainGlobals "_law_next" = some (some (.ref a16)))
    (l16 : K.lookup a16 = some ⟨oc16, od16, .func (PySem.W.fnOf "_law_next" "_law_next" (defArgs s__law_next) (defBody s__law_next) (defScope s__law_next) .none kV16 dc16 pm16 an16 cd16 ct16), sl16⟩)
    (c16 : PySem.W.codeIn K cd16 "_law_next" = true) (k16 : PySem.W.keepIn K (.ref a16) = true)
    (n17 : PySem.W.nsIn K mainGlobals "_law_is_integer" = some (some (.ref a17)))
    (l17 : K.lookup a17 = some ⟨oc17, od17, .func (PySem.W.fnOf "_law_is_integer" "_law_is_integer" (defArgs s__law_is_integer) (defBody s__law_is_integer) (defScope s__law_is_integer) .none kV17 dc17 pm17 an17 cd17 ct17), sl17⟩)
    (c17 : PySem.W.codeIn K cd17 "_law_is_integer" = true) (k17 : PySem.W.keepIn K (.ref a17) = true)
    (n18 : PySem.W.nsIn K mainGlobals "_law_ratio" = some (some (.ref a18)))
    (l18 : K.lookup a18 = some ⟨oc18, od18, .func (PySem.W.fnOf "_law_ratio" "_law_ratio" (defArgs s__law_ratio) (defBody s__law_ratio) (defScope s__law_ratio) .none kV18 dc18 pm18 an18 cd18 ct18), sl18⟩)
    (c18 : PySem.W.codeIn K cd18 "_law_ratio" = true) (k18 : PySem.W.keepIn K (.ref a18) = true)
    (n19 : PySem.W.nsIn K mainGlobals "_law_is_number" = some (some (.ref a19)))
    (l19 : K.lookup a19 = some ⟨oc19, od19, .func (PySem.W.fnOf "_law_is_number" "_law_is_number" (defArgs s__law_is_number) (defBody s__law_is_number) (defScope s__law_is_number) .none kV19 dc19 pm19 an19 cd19 ct19), sl19⟩)
    (c19 : PySem.W.codeIn K cd19 "_law_is_number" = true) (k19 : PySem.W.keepIn K (.ref a19) = true)
    (n20 : PySem.W.nsIn K mainGlobals "_law_sum" = some (some (.ref a20)))
    (l20 : K.lookup a20 = some ⟨oc20, od20, .func (PySem.W.fnOf "_law_sum" "_law_sum" (defArgs s__law_sum) (defBody s__law_sum) (defScope s__law_sum) .none kV20 dc20 pm20 an20 cd20 ct20), sl20⟩)
    (c20 : PySem.W.codeIn K cd20 "_law_sum" = true) (k20 : PySem.W.keepIn K (.ref a20) = true)
    (n21 : PySem.W.nsIn K mainGlobals "_law_difference" = some (some (.ref a21)))
    (l21 : K.lookup a21 = some ⟨oc21, od21, .func (PySem.W.fnOf "_law_difference" "_law_difference" (defArgs s__law_difference) (defBody s__law_difference) (defScope s__law_difference) .none kV21 dc21 pm21 an21 cd21 ct21), sl21⟩)
    (c21 : PySem.W.codeIn K cd21 "_law_difference" = true) (k21 : PySem.W.keepIn K (.ref a21) = true)
    (n22 : PySem.W.nsIn K mainGlobals "_law_product" = some (some (.ref a22)))
    (l22 : K.lookup a22 = some ⟨oc22, od22, .func (PySem.W.fnOf "_law_product" "_law_product" (defArgs s__law_product) (defBody s__law_product) (defScope s__law_product) .none kV22 dc22 pm22 an22 cd22 ct22), sl22⟩)
    (c22 : PySem.W.codeIn K cd22 "_law_product" = true) (k22 : PySem.W.keepIn K (.ref a22) = true)
    (n23 : PySem.W.nsIn K mainGlobals "_law_applied" = some (some (.ref a23)))
    (l23 : K.lookup a23 = some ⟨oc23, od23, .func (PySem.W.fnOf "_law_applied" "_law_applied" (defArgs s__law_applied) (defBody s__law_applied) (defScope s__law_applied) .none kV23 dc23 pm23 an23 cd23 ct23), sl23⟩)
    (c23 : PySem.W.codeIn K cd23 "_law_applied" = true) (k23 : PySem.W.keepIn K (.ref a23) = true)
    (n24 : PySem.W.nsIn K mainGlobals "_law_small" = some (some (.ref a24)))
    (l24 : K.lookup a24 = some ⟨oc24, od24, .func (PySem.W.fnOf "_law_small" "_law_small" (defArgs s__law_small) (defBody s__law_small) (defScope s__law_small) .none kV24 dc24 pm24 an24 cd24 ct24), sl24⟩)
    (c24 : PySem.W.codeIn K cd24 "_law_small" = true) (k24 : PySem.W.keepIn K (.ref a24) = true)
    (n25 : PySem.W.nsIn K mainGlobals "_law_point" = some (some (.ref a25)))
    (l25 : K.lookup a25 = some ⟨oc25, od25, .func (PySem.W.fnOf "_law_point" "_law_point" (defArgs s__law_point) (defBody s__law_point) (defScope s__law_point) .none kV25 dc25 pm25 an25 cd25 ct25), sl25⟩)
    (c25 : PySem.W.codeIn K cd25 "_law_point" = true) (k25 : PySem.W.keepIn K (.ref a25) = true)
    (n26 : PySem.W.nsIn K mainGlobals "_law_transform" = some (some (.ref a26)))
    (l26 : K.lookup a26 = some ⟨oc26, od26, .func (PySem.W.fnOf "_law_transform" "_law_transform" (defArgs s__law_transform) (defBody s__law_transform) (defScope s__law_transform) .none kV26 dc26 pm26 an26 cd26 ct26), sl26⟩)
    (c26 : PySem.W.codeIn K cd26 "_law_transform" = true) (k26 : PySem.W.keepIn K (.ref a26) = true)
    (n27 : PySem.W.nsIn K mainGlobals "_law_is_transform" = some (some (.ref a27)))
    (l27 : K.lookup a27 = some ⟨oc27, od27, .func (PySem.W.fnOf "_law_is_transform" "_law_is_transform" (defArgs s__law_is_transform) (defBody s__law_is_transform) (defScope s__law_is_transform) .none kV27 dc27 pm27 an27 cd27 ct27), sl27⟩)
    (c27 : PySem.W.codeIn K cd27 "_law_is_transform" = true) (k27 : PySem.W.keepIn K (.ref a27) = true)
    (n28 : PySem.W.nsIn K mainGlobals "_law_no_inverse" = some (some (.ref a28)))
    (l28 : K.lookup a28 = some ⟨oc28, od28, .func (PySem.W.fnOf "_law_no_inverse" "_law_no_inverse" (defArgs s__law_no_inverse) (defBody s__law_no_inverse) (defScope s__law_no_inverse) .none kV28 dc28 pm28 an28 cd28 ct28), sl28⟩)
    (c28 : PySem.W.codeIn K cd28 "_law_no_inverse" = true) (k28 : PySem.W.keepIn K (.ref a28) = true)
    (n29 : PySem.W.nsIn K mainGlobals "law" = some (some (.ref a29)))
    (l29 : K.lookup a29 = some ⟨oc29, od29, .func (PySem.W.fnOf "law" "law" (defArgs s_law) (defBody s_law) (defScope s_law) .none kV29 dc29 pm29 an29 cd29 ct29), sl29⟩)
    (c29 : PySem.W.codeIn K cd29 "law" = true) (k29 : PySem.W.keepIn K (.ref a29) = true)
    (xg0 : PySem.W.nsIn K mainGlobals "FontError" = some (some (.ref a0))) (xq0 : PySem.W.excIn K a0 [.type "ValueError", .type "Exception", .type "BaseException", .type "object"] "ValueError.__new__" = true) (xk0 : PySem.W.keepIn K (.ref a0) = true) (xt0 : PySem.W.typeIn K (.ref a0) = some (.type "type"))
    (xa0 : PySem.W.findIn K (.ref a0) "__getattribute__" = some (some (.builtin "BaseException.__getattribute__"))) (xb0 : PySem.W.findIn K (.ref a0) "__getattr__" = some none) (xc0 : PySem.W.subIn K (.ref a0) (.type "BaseException") = some true) (xd0 : PySem.W.hasDictIn K a0 = true)
    (xe0 : PySem.W.findIn K (.ref a0) "__class__" = some (some (.builtin "object.__class__"))) (xf0 : PySem.W.mroIn K a0 (.type "object") = some true) (xv0 : PySem.W.subIn K (.ref a0) (.type "ValueError") = some true)
    (xg1 : PySem.W.nsIn K mainGlobals "TooGreat" = some (some (.ref a1))) (xq1 : PySem.W.excIn K a1 [.type "ValueError", .type "Exception", .type "BaseException", .type "object"] "ValueError.__new__" = true) (xk1 : PySem.W.keepIn K (.ref a1) = true) (xt1 : PySem.W.typeIn K (.ref a1) = some (.type "type"))
    (xa1 : PySem.W.findIn K (.ref a1) "__getattribute__" = some (some (.builtin "BaseException.__getattribute__"))) (xb1 : PySem.W.findIn K (.ref a1) "__getattr__" = some none) (xc1 : PySem.W.subIn K (.ref a1) (.type "BaseException") = some true) (xd1 : PySem.W.hasDictIn K a1 = true)
    (xe1 : PySem.W.findIn K (.ref a1) "__class__" = some (some (.builtin "object.__class__"))) (xf1 : PySem.W.mroIn K a1 (.type "object") = some true) (xv1 : PySem.W.subIn K (.ref a1) (.type "ValueError") = some true)
    (xg2 : PySem.W.nsIn K mainGlobals "DivisionByZero" = some (some (.ref a2))) (xq2 : PySem.W.excIn K a2 [.type "ValueError", .type "Exception", .type "BaseException", .type "object"] "ValueError.__new__" = true) (xk2 : PySem.W.keepIn K (.ref a2) = true) (xt2 : PySem.W.typeIn K (.ref a2) = some (.type "type"))
    (xa2 : PySem.W.findIn K (.ref a2) "__getattribute__" = some (some (.builtin "BaseException.__getattribute__"))) (xb2 : PySem.W.findIn K (.ref a2) "__getattr__" = some none) (xc2 : PySem.W.subIn K (.ref a2) (.type "BaseException") = some true) (xd2 : PySem.W.hasDictIn K a2 = true)
    (xe2 : PySem.W.findIn K (.ref a2) "__class__" = some (some (.builtin "object.__class__"))) (xf2 : PySem.W.mroIn K a2 (.type "object") = some true) (xv2 : PySem.W.subIn K (.ref a2) (.type "ValueError") = some true)
    (xm : PySem.W.specialIn K (.builtin "object.__class__") "__get__" = some (some (.builtin "getset_descriptor.__get__"))) (xn : PySem.W.takesIn K (.builtin "object.__class__") = some true)
    (e0_0 : PySem.W.subIn K (.ref a0) (.ref a0) = some true)
    (e0_1 : PySem.W.subIn K (.ref a0) (.ref a1) = some false)
    (e0_2 : PySem.W.subIn K (.ref a0) (.ref a2) = some false)
    (e1_0 : PySem.W.subIn K (.ref a1) (.ref a0) = some true)
    (e1_1 : PySem.W.subIn K (.ref a1) (.ref a1) = some true)
    (e1_2 : PySem.W.subIn K (.ref a1) (.ref a2) = some false)
    (e2_0 : PySem.W.subIn K (.ref a2) (.ref a0) = some true)
    (e2_1 : PySem.W.subIn K (.ref a2) (.ref a1) = some false)
    (e2_2 : PySem.W.subIn K (.ref a2) (.ref a2) = some true)
    (z_ValueError : PySem.W.nsIn K mainGlobals "ValueError" = some none)
    (z_abs : PySem.W.nsIn K mainGlobals "abs" = some none)
    (z_bool : PySem.W.nsIn K mainGlobals "bool" = some none)
    (z_int : PySem.W.nsIn K mainGlobals "int" = some none)
    (z_isinstance : PySem.W.nsIn K mainGlobals "isinstance" = some none)
    (z_len : PySem.W.nsIn K mainGlobals "len" = some none)
    (z_range : PySem.W.nsIn K mainGlobals "range" = some none)
    (z_tuple : PySem.W.nsIn K mainGlobals "tuple" = some none)
    (l_gcd : PySem.W.nsIn K mainGlobals "gcd" = some (some (.builtin "math.gcd")))
    (c_LIMIT : PySem.W.nsIn K mainGlobals "LIMIT" = some (some (.int (1000000000000000000) t_LIMIT)))
    (ntZERO : PySem.W.nsIn K mainGlobals "ZERO" = some (some (.ref a30)))
    (ktZERO_0 : K.lookup a30 = some ⟨.type "tuple", odZERO_0, .seq (List.toArray [.int (0) tZERO_0_0, .int (1) tZERO_0_1]) nnZERO_0, slZERO_0⟩)
    : ∃ fd : FuncData, (∀ (s : Shared) (v : Value), BindsTo s fd ⟨[v], []⟩ [("script", v)]) ∧ ∀ base : Heap, K.In base → base.Ns mainGlobals mg → FnOk l.prog w K mg base CX0 6 fa fd ["script"] (sp_law K) := by
  have e := hfa.symm.trans (PySem.W.mg_of X G n29)
  cases e
  have F3 := fun_mk (st := s_ratio) l3 c3 k3
  have b3 := F3.binds (ps := ["n", "d"]) fun _ _ _ _ _ _ us hl => match us, hl with | [_, _], _ => rfl
  have F4 := fun_mk (st := s_add) l4 c4 k4
  have b4 := F4.binds (ps := ["a", "b"]) fun _ _ _ _ _ _ us hl => match us, hl with | [_, _], _ => rfl
  have F5 := fun_mk (st := s_subtract) l5 c5 k5
  have b5 := F5.binds (ps := ["a", "b"]) fun _ _ _ _ _ _ us hl => match us, hl with | [_, _], _ => rfl
  have F6 := fun_mk (st := s_multiply) l6 c6 k6
  have b6 := F6.binds (ps := ["a", "b"]) fun _ _ _ _ _ _ us hl => match us, hl with | [_, _], _ => rfl
  have F7 := fun_mk (st := s_divide) l7 c7 k7
  have b7 := F7.binds (ps := ["a", "b"]) fun _ _ _ _ _ _ us hl => match us, hl with | [_, _], _ => rfl
  have F8 := fun_mk (st := s_apply) l8 c8 k8
  have b8 := F8.binds (ps := ["transform", "point"]) fun _ _ _ _ _ _ us hl => match us, hl with | [_, _], _ => rfl
  have F9 := fun_mk (st := s_moved_part) l9 c9 k9
  have b9 := F9.binds (ps := ["shift", "by_x", "by_y", "point"]) fun _ _ _ _ _ _ us hl => match us, hl with | [_, _, _, _], _ => rfl
  have F10 := fun_mk (st := s_compose) l10 c10 k10
  have b10 := F10.binds (ps := ["first", "second"]) fun _ _ _ _ _ _ us hl => match us, hl with | [_, _], _ => rfl
  have F11 := fun_mk (st := s_inverse) l11 c11 k11
  have b11 := F11.binds (ps := ["transform"]) fun _ _ _ _ _ _ us hl => match us, hl with | [_], _ => rfl
  have F12 := fun_mk (st := s_sum_of_products) l12 c12 k12
  have b12 := F12.binds (ps := ["a", "b", "c", "d"]) fun _ _ _ _ _ _ us hl => match us, hl with | [_, _, _, _], _ => rfl
  have F13 := fun_mk (st := s_negative) l13 c13 k13
  have b13 := F13.binds (ps := ["a"]) fun _ _ _ _ _ _ us hl => match us, hl with | [_], _ => rfl
  have F14 := fun_mk (st := s__law_cell) l14 c14 k14
  have b14 := F14.binds (ps := ["script", "k"]) fun _ _ _ _ _ _ us hl => match us, hl with | [_, _], _ => rfl
  have F15 := fun_mk (st := s__law_stream) l15 c15 k15
  have b15 := F15.binds (ps := ["cell"]) fun _ _ _ _ _ _ us hl => match us, hl with | [_], _ => rfl
  have F16 := fun_mk (st := s__law_next) l16 c16 k16
  have b16 := F16.binds (ps := ["stream", "size"]) fun _ _ _ _ _ _ us hl => match us, hl with | [_, _], _ => rfl
  have F17 := fun_mk (st := s__law_is_integer) l17 c17 k17
  have b17 := F17.binds (ps := ["actual"]) fun _ _ _ _ _ _ us hl => match us, hl with | [_], _ => rfl
  have F18 := fun_mk (st := s__law_ratio) l18 c18 k18
  have b18 := F18.binds (ps := ["n", "d"]) fun _ _ _ _ _ _ us hl => match us, hl with | [_, _], _ => rfl
  have F19 := fun_mk (st := s__law_is_number) l19 c19 k19
  have b19 := F19.binds (ps := ["actual"]) fun _ _ _ _ _ _ us hl => match us, hl with | [_], _ => rfl
  have F20 := fun_mk (st := s__law_sum) l20 c20 k20
  have b20 := F20.binds (ps := ["a", "b"]) fun _ _ _ _ _ _ us hl => match us, hl with | [_, _], _ => rfl
  have F21 := fun_mk (st := s__law_difference) l21 c21 k21
  have b21 := F21.binds (ps := ["a", "b"]) fun _ _ _ _ _ _ us hl => match us, hl with | [_, _], _ => rfl
  have F22 := fun_mk (st := s__law_product) l22 c22 k22
  have b22 := F22.binds (ps := ["a", "b"]) fun _ _ _ _ _ _ us hl => match us, hl with | [_, _], _ => rfl
  have F23 := fun_mk (st := s__law_applied) l23 c23 k23
  have b23 := F23.binds (ps := ["transform", "point"]) fun _ _ _ _ _ _ us hl => match us, hl with | [_, _], _ => rfl
  have F24 := fun_mk (st := s__law_small) l24 c24 k24
  have b24 := F24.binds (ps := ["stream"]) fun _ _ _ _ _ _ us hl => match us, hl with | [_], _ => rfl
  have F25 := fun_mk (st := s__law_point) l25 c25 k25
  have b25 := F25.binds (ps := ["stream"]) fun _ _ _ _ _ _ us hl => match us, hl with | [_], _ => rfl
  have F26 := fun_mk (st := s__law_transform) l26 c26 k26
  have b26 := F26.binds (ps := ["stream"]) fun _ _ _ _ _ _ us hl => match us, hl with | [_], _ => rfl
  have F27 := fun_mk (st := s__law_is_transform) l27 c27 k27
  have b27 := F27.binds (ps := ["actual"]) fun _ _ _ _ _ _ us hl => match us, hl with | [_], _ => rfl
  have F28 := fun_mk (st := s__law_no_inverse) l28 c28 k28
  have b28 := F28.binds (ps := ["transform"]) fun _ _ _ _ _ _ us hl => match us, hl with | [_], _ => rfl
  have F29 := fun_mk (st := s_law) l29 c29 k29
  have b29 := F29.binds (ps := ["script"]) fun _ _ _ _ _ _ us hl => match us, hl with | [_], _ => rfl
  let A : Nat → Addr := fun | 0 => a0 | 1 => a1 | 2 => a2 | 3 => a3 | 4 => a4 | 5 => a5 | 6 => a6 | 7 => a7 | 8 => a8 | 9 => a9 | 10 => a10 | 11 => a11 | 12 => a12 | 13 => a13 | 14 => a14 | 15 => a15 | 16 => a16 | 17 => a17 | 18 => a18 | 19 => a19 | 20 => a20 | 21 => a21 | 22 => a22 | 23 => a23 | 24 => a24 | 25 => a25 | 26 => a26 | 27 => a27 | 28 => a28 | 29 => fa | 30 => a30 | _ => 0
  let D : Nat → FuncData := fun | 3 => PySem.W.fnOf "ratio" "ratio" (defArgs s_ratio) (defBody s_ratio) (defScope s_ratio) .none kV3 dc3 pm3 an3 cd3 ct3 | 4 => PySem.W.fnOf "add" "add" (defArgs s_add) (defBody s_add) (defScope s_add) .none kV4 dc4 pm4 an4 cd4 ct4 | 5 => PySem.W.fnOf "subtract" "subtract" (defArgs s_subtract) (defBody s_subtract) (defScope s_subtract) .none kV5 dc5 pm5 an5 cd5 ct5 | 6 => PySem.W.fnOf "multiply" "multiply" (defArgs s_multiply) (defBody s_multiply) (defScope s_multiply) .none kV6 dc6 pm6 an6 cd6 ct6 | 7 => PySem.W.fnOf "divide" "divide" (defArgs s_divide) (defBody s_divide) (defScope s_divide) .none kV7 dc7 pm7 an7 cd7 ct7 | 8 => PySem.W.fnOf "apply" "apply" (defArgs s_apply) (defBody s_apply) (defScope s_apply) .none kV8 dc8 pm8 an8 cd8 ct8 | 9 => PySem.W.fnOf "moved_part" "moved_part" (defArgs s_moved_part) (defBody s_moved_part) (defScope s_moved_part) .none kV9 dc9 pm9 an9 cd9 ct9 | 10 => PySem.W.fnOf "compose" "compose" (defArgs s_compose) (defBody s_compose) (defScope s_compose) .none kV10 dc10 pm10 an10 cd10 ct10 | 11 => PySem.W.fnOf "inverse" "inverse" (defArgs s_inverse) (defBody s_inverse) (defScope s_inverse) .none kV11 dc11 pm11 an11 cd11 ct11 | 12 => PySem.W.fnOf "sum_of_products" "sum_of_products" (defArgs s_sum_of_products) (defBody s_sum_of_products) (defScope s_sum_of_products) .none kV12 dc12 pm12 an12 cd12 ct12 | 13 => PySem.W.fnOf "negative" "negative" (defArgs s_negative) (defBody s_negative) (defScope s_negative) .none kV13 dc13 pm13 an13 cd13 ct13 | 14 => PySem.W.fnOf "_law_cell" "_law_cell" (defArgs s__law_cell) (defBody s__law_cell) (defScope s__law_cell) .none kV14 dc14 pm14 an14 cd14 ct14 | 15 => PySem.W.fnOf "_law_stream" "_law_stream" (defArgs s__law_stream) (defBody s__law_stream) (defScope s__law_stream) .none kV15 dc15 pm15 an15 cd15 ct15 | 16 => PySem.W.fnOf "_law_next" "_law_next" (defArgs s__law_next) (defBody s__law_next) (defScope s__law_next) .none kV16 dc16 pm16 an16 cd16 ct16 | 17 => PySem.W.fnOf "_law_is_integer" "_law_is_integer" (defArgs s__law_is_integer) (defBody s__law_is_integer) (defScope s__law_is_integer) .none kV17 dc17 pm17 an17 cd17 ct17 | 18 => PySem.W.fnOf "_law_ratio" "_law_ratio" (defArgs s__law_ratio) (defBody s__law_ratio) (defScope s__law_ratio) .none kV18 dc18 pm18 an18 cd18 ct18 | 19 => PySem.W.fnOf "_law_is_number" "_law_is_number" (defArgs s__law_is_number) (defBody s__law_is_number) (defScope s__law_is_number) .none kV19 dc19 pm19 an19 cd19 ct19 | 20 => PySem.W.fnOf "_law_sum" "_law_sum" (defArgs s__law_sum) (defBody s__law_sum) (defScope s__law_sum) .none kV20 dc20 pm20 an20 cd20 ct20 | 21 => PySem.W.fnOf "_law_difference" "_law_difference" (defArgs s__law_difference) (defBody s__law_difference) (defScope s__law_difference) .none kV21 dc21 pm21 an21 cd21 ct21 | 22 => PySem.W.fnOf "_law_product" "_law_product" (defArgs s__law_product) (defBody s__law_product) (defScope s__law_product) .none kV22 dc22 pm22 an22 cd22 ct22 | 23 => PySem.W.fnOf "_law_applied" "_law_applied" (defArgs s__law_applied) (defBody s__law_applied) (defScope s__law_applied) .none kV23 dc23 pm23 an23 cd23 ct23 | 24 => PySem.W.fnOf "_law_small" "_law_small" (defArgs s__law_small) (defBody s__law_small) (defScope s__law_small) .none kV24 dc24 pm24 an24 cd24 ct24 | 25 => PySem.W.fnOf "_law_point" "_law_point" (defArgs s__law_point) (defBody s__law_point) (defScope s__law_point) .none kV25 dc25 pm25 an25 cd25 ct25 | 26 => PySem.W.fnOf "_law_transform" "_law_transform" (defArgs s__law_transform) (defBody s__law_transform) (defScope s__law_transform) .none kV26 dc26 pm26 an26 cd26 ct26 | 27 => PySem.W.fnOf "_law_is_transform" "_law_is_transform" (defArgs s__law_is_transform) (defBody s__law_is_transform) (defScope s__law_is_transform) .none kV27 dc27 pm27 an27 cd27 ct27 | 28 => PySem.W.fnOf "_law_no_inverse" "_law_no_inverse" (defArgs s__law_no_inverse) (defBody s__law_no_inverse) (defScope s__law_no_inverse) .none kV28 dc28 pm28 an28 cd28 ct28 | _ => PySem.W.fnOf "law" "law" (defArgs s_law) (defBody s_law) (defScope s_law) .none kV29 dc29 pm29 an29 cd29 ct29
  have T : Txt K mg A D :=
    {F_ratio := F3,
     m_ratio := PySem.W.mg_of X G n3,
     b_ratio := b3,
     F_add := F4,
     m_add := PySem.W.mg_of X G n4,
     b_add := b4,
     F_subtract := F5,
     m_subtract := PySem.W.mg_of X G n5,
     b_subtract := b5,
     F_multiply := F6,
     m_multiply := PySem.W.mg_of X G n6,
     b_multiply := b6,
     F_divide := F7,
     m_divide := PySem.W.mg_of X G n7,
     b_divide := b7,
     F_apply := F8,
     m_apply := PySem.W.mg_of X G n8,
     b_apply := b8,
     F_moved_part := F9,
     m_moved_part := PySem.W.mg_of X G n9,
     b_moved_part := b9,
     F_compose := F10,
     m_compose := PySem.W.mg_of X G n10,
     b_compose := b10,
     F_inverse := F11,
     m_inverse := PySem.W.mg_of X G n11,
     b_inverse := b11,
     F_sum_of_products := F12,
     m_sum_of_products := PySem.W.mg_of X G n12,
     b_sum_of_products := b12,
     F_negative := F13,
     m_negative := PySem.W.mg_of X G n13,
     b_negative := b13,
     F__law_cell := F14,
     m__law_cell := PySem.W.mg_of X G n14,
     b__law_cell := b14,
     F__law_stream := F15,
     m__law_stream := PySem.W.mg_of X G n15,
     b__law_stream := b15,
     F__law_next := F16,
     m__law_next := PySem.W.mg_of X G n16,
     b__law_next := b16,
     F__law_is_integer := F17,
     m__law_is_integer := PySem.W.mg_of X G n17,
     b__law_is_integer := b17,
     F__law_ratio := F18,
     m__law_ratio := PySem.W.mg_of X G n18,
     b__law_ratio := b18,
     F__law_is_number := F19,
     m__law_is_number := PySem.W.mg_of X G n19,
     b__law_is_number := b19,
     F__law_sum := F20,
     m__law_sum := PySem.W.mg_of X G n20,
     b__law_sum := b20,
     F__law_difference := F21,
     m__law_difference := PySem.W.mg_of X G n21,
     b__law_difference := b21,
     F__law_product := F22,
     m__law_product := PySem.W.mg_of X G n22,
     b__law_product := b22,
     F__law_applied := F23,
     m__law_applied := PySem.W.mg_of X G n23,
     b__law_applied := b23,
     F__law_small := F24,
     m__law_small := PySem.W.mg_of X G n24,
     b__law_small := b24,
     F__law_point := F25,
     m__law_point := PySem.W.mg_of X G n25,
     b__law_point := b25,
     F__law_transform := F26,
     m__law_transform := PySem.W.mg_of X G n26,
     b__law_transform := b26,
     F__law_is_transform := F27,
     m__law_is_transform := PySem.W.mg_of X G n27,
     b__law_is_transform := b27,
     F__law_no_inverse := F28,
     m__law_no_inverse := PySem.W.mg_of X G n28,
     b__law_no_inverse := b28,
     F_law := F29,
     m_law := PySem.W.mg_of X G n29,
     b_law := b29,
     x_FontError := ⟨PySem.W.mg_of X G xg0, xq0, xk0, xt0, ⟨xa0, xb0, xc0, xd0, xe0, xm, xn, xf0⟩, xv0⟩,
     x_TooGreat := ⟨PySem.W.mg_of X G xg1, xq1, xk1, xt1, ⟨xa1, xb1, xc1, xd1, xe1, xm, xn, xf1⟩, xv1⟩,
     x_DivisionByZero := ⟨PySem.W.mg_of X G xg2, xq2, xk2, xt2, ⟨xa2, xb2, xc2, xd2, xe2, xm, xn, xf2⟩, xv2⟩,
     e_FontError_FontError := e0_0,
     e_FontError_TooGreat := e0_1,
     e_FontError_DivisionByZero := e0_2,
     e_TooGreat_FontError := e1_0,
     e_TooGreat_TooGreat := e1_1,
     e_TooGreat_DivisionByZero := e1_2,
     e_DivisionByZero_FontError := e2_0,
     e_DivisionByZero_TooGreat := e2_1,
     e_DivisionByZero_DivisionByZero := e2_2,
     z_ValueError := PySem.W.mg_none_of X G z_ValueError,
     z_abs := PySem.W.mg_none_of X G z_abs,
     z_bool := PySem.W.mg_none_of X G z_bool,
     z_int := PySem.W.mg_none_of X G z_int,
     z_isinstance := PySem.W.mg_none_of X G z_isinstance,
     z_len := PySem.W.mg_none_of X G z_len,
     z_range := PySem.W.mg_none_of X G z_range,
     z_tuple := PySem.W.mg_none_of X G z_tuple,
     l_gcd := PySem.W.mg_of X G l_gcd,
     c_ZERO := PySem.W.mg_of X G ntZERO,
     d_ZERO := fun H => (Z.dpk (vs := [.int (0), .int (1)]) ktZERO_0 (Nat.le_of_ble_eq_true rfl) (.cons ⟨_, rfl⟩ (.cons ⟨_, rfl⟩ .nil)) (.cons (.int _) (.cons (.int _) .nil))),
     c_LIMIT := ⟨_, PySem.W.mg_of X G c_LIMIT, _, rfl⟩}
  exact ⟨_, fun s v => .of_eq rfl, fun base _ _ => ok_law T⟩
end G
open PySem PySem.W PyProof.Rows
set_option maxRecDepth 100000 in
set_option maxHeartbeats 0 in
theorem PySem.Challenge.cw_fontwinding_k11_composed_and_inverted_holds : PySem.Challenge.rw_fontwinding_k11_composed_and_inverted.Holds := by
  w_on; o_law; k_head; (case hw => w_witness2)
  k_fill
  refine L2.walk_of (l := PySem.Challenge.rw_fontwinding_k11_composed_and_inverted) (n := 63) (k := 6) (x := "script") (CX := fun _ => L2.CX0) (sp := fun w => G.sp_law _) rfl (by decide) rfl ⟨rfl, by decide, by decide⟩ (fun w h Y => PySem.W.kIn_of Y) ?F (fun _ _ a ns hl _ hS => ⟨a, ns, rfl, hS, hl, fun _ => rfl⟩) (fun _ _ _ _ _ h => h)
  case F =>
    intro w mg fa h KX G0 hmg
    refine' G.all_mk KX G0 hmg ?n3 ?l3 ?c3 ?k3 ?n4 ?l4 ?c4 ?k4 ?n5 ?l5 ?c5 ?k5 ?n6 ?l6 ?c6 ?k6 ?n7 ?l7 ?c7 ?k7 ?n8 ?l8 ?c8 ?k8 ?n9 ?l9 ?c9 ?k9 ?n10 ?l10 ?c10 ?k10 ?n11 ?l11 ?c11 ?k11 ?n12 ?l12 ?c12 ?k12 ?n13 ?l13 ?c13 ?k13 ?n14 ?l14 ?c14 ?k14 ?n15 ?l15 ?c15 ?k15 ?n16 ?l16 ?c16 ?k16 ?n17 ?l17 ?c17 ?k17 ?n18 ?l18 ?c18 ?k18 ?n19 ?l19 ?c19 ?k19 ?n20 ?l20 ?c20 ?k20 ?n21 ?l21 ?c21 ?k21 ?n22 ?l22 ?c22 ?k22 ?n23 ?l23 ?c23 ?k23 ?n24 ?l24 ?c24 ?k24 ?n25 ?l25 ?c25 ?k25 ?n26 ?l26 ?c26 ?k26 ?n27 ?l27 ?c27 ?k27 ?n28 ?l28 ?c28 ?k28 ?n29 ?l29 ?c29 ?k29 ?xg0 ?xq0 ?xk0 ?xt0 ?xa0 ?xb0 ?xc0 ?xd0 ?xe0 ?xf0 ?xv0 ?xg1 ?xq1 ?xk1 ?xt1 ?xa1 ?xb1 ?xc1 ?xd1 ?xe1 ?xf1 ?xv1 ?xg2 ?xq2 ?xk2 ?xt2 ?xa2 ?xb2 ?xc2 ?xd2 ?xe2 ?xf2 ?xv2 ?xm ?xn ?e0_0 ?e0_1 ?e0_2 ?e1_0 ?e1_1 ?e1_2 ?e2_0 ?e2_1 ?e2_2 ?z_ValueError ?z_abs ?z_bool ?z_int ?z_isinstance ?z_len ?z_range ?z_tuple ?l_gcd ?c_LIMIT ?ntZERO ?ktZERO_0
    (case n3 => k_is)
    (case l3 => k_is)
    (case c3 => k_is)
    (case k3 => k_is)
    (case n4 => k_is)
    (case l4 => k_is)
    (case c4 => k_is)
    (case k4 => k_is)
    (case n5 => k_is)
    (case l5 => k_is)
    (case c5 => k_is)
    (case k5 => k_is)
    (case n6 => k_is)
    (case l6 => k_is)
    (case c6 => k_is)
    (case k6 => k_is)
    (case n7 => k_is)
    (case l7 => k_is)
    (case c7 => k_is)
    (case k7 => k_is)
    (case n8 => k_is)
    (case l8 => k_is)
    (case c8 => k_is)
    (case k8 => k_is)
    (case n9 => k_is)
    (case l9 => k_is)
    (case c9 => k_is)
    (case k9 => k_is)
    (case n10 => k_is)
    (case l10 => k_is)
    (case c10 => k_is)
    (case k10 => k_is)
    (case n11 => k_is)
    (case l11 => k_is)
    (case c11 => k_is)
    (case k11 => k_is)
    (case n12 => k_is)
    (case l12 => k_is)
    (case c12 => k_is)
    (case k12 => k_is)
    (case n13 => k_is)
    (case l13 => k_is)
    (case c13 => k_is)
    (case k13 => k_is)
    (case n14 => k_is)
    (case l14 => k_is)
    (case c14 => k_is)
    (case k14 => k_is)
    (case n15 => k_is)
    (case l15 => k_is)
    (case c15 => k_is)
    (case k15 => k_is)
    (case n16 => k_is)
    (case l16 => k_is)
    (case c16 => k_is)
    (case k16 => k_is)
    (case n17 => k_is)
    (case l17 => k_is)
    (case c17 => k_is)
    (case k17 => k_is)
    (case n18 => k_is)
    (case l18 => k_is)
    (case c18 => k_is)
    (case k18 => k_is)
    (case n19 => k_is)
    (case l19 => k_is)
    (case c19 => k_is)
    (case k19 => k_is)
    (case n20 => k_is)
    (case l20 => k_is)
    (case c20 => k_is)
    (case k20 => k_is)
    (case n21 => k_is)
    (case l21 => k_is)
    (case c21 => k_is)
    (case k21 => k_is)
    (case n22 => k_is)
    (case l22 => k_is)
    (case c22 => k_is)
    (case k22 => k_is)
    (case n23 => k_is)
    (case l23 => k_is)
    (case c23 => k_is)
    (case k23 => k_is)
    (case n24 => k_is)
    (case l24 => k_is)
    (case c24 => k_is)
    (case k24 => k_is)
    (case n25 => k_is)
    (case l25 => k_is)
    (case c25 => k_is)
    (case k25 => k_is)
    (case n26 => k_is)
    (case l26 => k_is)
    (case c26 => k_is)
    (case k26 => k_is)
    (case n27 => k_is)
    (case l27 => k_is)
    (case c27 => k_is)
    (case k27 => k_is)
    (case n28 => k_is)
    (case l28 => k_is)
    (case c28 => k_is)
    (case k28 => k_is)
    (case n29 => k_is)
    (case l29 => k_is)
    (case c29 => k_is)
    (case k29 => k_is)
    (case xg0 => k_is)
    (case xq0 => k_exc)
    (case xk0 => k_is)
    (case xt0 => k_is)
    (case xa0 => k_is)
    (case xb0 => k_is)
    (case xc0 => k_is)
    (case xd0 => k_is)
    (case xe0 => k_is)
    (case xf0 => k_is)
    (case xv0 => k_is)
    (case xg1 => k_is)
    (case xq1 => k_exc)
    (case xk1 => k_is)
    (case xt1 => k_is)
    (case xa1 => k_is)
    (case xb1 => k_is)
    (case xc1 => k_is)
    (case xd1 => k_is)
    (case xe1 => k_is)
    (case xf1 => k_is)
    (case xv1 => k_is)
    (case xg2 => k_is)
    (case xq2 => k_exc)
    (case xk2 => k_is)
    (case xt2 => k_is)
    (case xa2 => k_is)
    (case xb2 => k_is)
    (case xc2 => k_is)
    (case xd2 => k_is)
    (case xe2 => k_is)
    (case xf2 => k_is)
    (case xv2 => k_is)
    (case xm => k_is)
    (case xn => k_is)
    (case e0_0 => k_is)
    (case e0_1 => k_is)
    (case e0_2 => k_is)
    (case e1_0 => k_is)
    (case e1_1 => k_is)
    (case e1_2 => k_is)
    (case e2_0 => k_is)
    (case e2_1 => k_is)
    (case e2_2 => k_is)
    (case z_ValueError => k_is)
    (case z_abs => k_is)
    (case z_bool => k_is)
    (case z_int => k_is)
    (case z_isinstance => k_is)
    (case z_len => k_is)
    (case z_range => k_is)
    (case z_tuple => k_is)
    (case l_gcd => k_is)
    (case c_LIMIT => k_is)
    (case ntZERO => k_is)
    (case ktZERO_0 => k_is)
