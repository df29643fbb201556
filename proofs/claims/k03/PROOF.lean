import PyProof.Rows.All
import Wide.All
import OpenK.AllK
import Wide.FinOn
import HandS.ForMost
import HandS.ForExc
import HandS.Wide
import HandS.Gcd
import HandS.IsInst
import HandS.ExcIs
import HandS.TryMany
import HandS.Evl
import PySem.Challenge.RW_fontwinding_k03_order_and_rounding
set_option Elab.async false
set_option linter.all false
set_option maxRecDepth 100000
set_option maxHeartbeats 4000000
namespace Z
open PySem PySem.Spec PyProof.Rows L2

/-! ### operators -/
section
variable {X : Cx}
def CFd (_ j : Int) : Prop := j ≠ 0 ∧ j.natAbs.log2 < 9000
theorem op_fdivZ : OpR X (binaryOp .FloorDiv) (rI CFd fun i j => .int (i.fdiv j)) := opI fun i j _ _ _ _ _ hc q => floordiv_int hc.1 q (.inl (PyProof.noPylong_of_log2 hc.2))
theorem pe_globE {x : Str} {pos : Pos} {v : V} (h : ∃ u, X.mg x = some u ∧ RelV v u) (hg : Gl X x := by rfl) (hdb : (x == ("__debug__" : Str)) = false := by decide) : PE X (.Name x pos) (tC v) := by
  obtain ⟨u, h1, h2⟩ := h
  exact pe_glob hg h1 h2 hdb
theorem pe_globR {x : Str} {pos : Pos} {a : Addr} (h : X.mg x = some (.ref a)) (hg : Gl X x := by rfl) (hdb : (x == ("__debug__" : Str)) = false := by decide) : PE X (.Name x pos) (tC (.ref a)) := pe_glob hg h rfl hdb
end
/-- an own error class over ValueError -/
structure ExcX (K : PySem.W.Frag) (mg : Str → Option Value) (x : Str) (C : Addr) : Prop where
  g : mg x = some (.ref C)
  q : PySem.W.excIn K C [.type "ValueError", .type "Exception", .type "BaseException", .type "object"] "ValueError.__new__" = true
  k : PySem.W.keepIn K (.ref C) = true
  t : PySem.W.typeIn K (.ref C) = some (.type "type")
  c : ExcC K C
  v : PySem.W.subIn K (.ref C) (.type "ValueError") = some true
section
variable {X : Cx} {C D : Addr} {K : PySem.W.Frag} {mg : Str → Option Value} {x y : Str} {b : Bool}
theorem pmk {m : Str} {j : Nat} {p p2 pos : Pos} (E : ExcX X.K X.mg x C) (hg : Gl X x) (hdb : (x == ("__debug__" : Str)) = false := by decide) :
    PMk X (.Call (.Name x p) [.Constant (.str m) j p2] [] pos) (fun _ H Q => Q (.ref C) none H) := pmk_own PySem.F.excBase_ValueError E.q E.g E.k (raises_own E.c.hs E.t) hg hdb
theorem exm (E : ExcX K mg x C) (h : PySem.W.subIn K (.ref D) (.ref C) = some b) : PySem.W.exmOne K (.ref D) (.ref C) = some b := PySem.W.exm_ref E.c.hs E.c.hd E.t h
theorem kit_own (E : ExcX K mg x C) (h : PySem.W.subIn K (.ref D) (.ref C) = some b) (hs : PySem.W.subIn K (.ref C) (.ref C) = some true) : PySem.W.kitOne K (.ref D) (.ref C) = some b := by
  unfold PySem.W.kitOne
  by_cases e : D = C
  · subst e
    rw [hs] at h
    cases h
    rw [if_pos (by simp)]
  · rw [if_neg (by simpa using e)]
    unfold PySem.W.kitCls
    obtain ⟨cd, hc, _⟩ := PySem.W.any_some E.c.hd
    have e2 : ((PySem.W.clsIn K C).isSome && PySem.W.typeIn K (.ref C) == some (.type "type")) = true := by rw [hc, E.t] <;> rfl
    show (if _ then _ else _) = _
    rw [if_pos e2, h]
theorem kit_ve (E : ExcX K mg x D) : PySem.W.kitOne K (.ref D) (.type "ValueError") = some true := by
  unfold PySem.W.kitOne
  rw [if_neg (by simp)]
  unfold PySem.W.kitCls
  show (if _ then _ else _) = _
  rw [if_pos (by decide +kernel), E.v]
/-- isinstance of the error that a suite holds -/
def rIsEx (K : PySem.W.Frag) (cls : Value) (d : Option Addr) (a : Addr) : List V → Hp → VK → Prop := fun xs H Q => ∃ D, cls = .ref D ∧ d = none ∧ ExcC K D ∧ rIsE K D a xs H Q
theorem call_isE {a : Addr} {oe : Obj} {cls : Value} {d : Option Addr} {pn : List (Addr × Obj)} (hz : Zc cls d oe) (hf : ∃ vs, oe.data = .fields vs) : CallR (X.suite a ((a, oe) :: pn)) (.builtin "isinstance") (rIsEx X.K cls d a) := by
  intro pins s σ H xs us Q I r h
  obtain ⟨D, e1, e2, c, h⟩ := h
  subst e1
  subst e2
  exact L2.call_isE c hz hf pins s σ H xs us Q I r h
end

/-! ### heaps -/
theorem same_upd {H : Hp} {p : Addr} {o : HO} (h : H p = none) : Same H (upd H p o) := fun b x e => by
  rw [upd_ne (ne_of_none e h)]
  exact e
theorem Same.seqT {K : PySem.W.Frag} {H H' : Hp} {a : Addr} {xs : List V} (e : Same H H') (h : SqT K H a xs) : SqT K H' a xs := by
  rcases h with (h | ⟨o, h⟩) | h
  · exact .inl (.inl (e _ _ h))
  · exact .inl (.inr ⟨o, e _ _ h⟩)
  · exact .inr h
theorem sz {n : Nat} (h : n ≤ 1000) : n ≤ sizeLine := Nat.le_trans h (by decide)

/-! ### readings, step by step -/
section
variable {σ : L2.St} {H : Hp} {n : L2.St → Hp → Prop} {r : VK} {b c : L2.St → Hp → Prop} {t u : TS} {te ta tb : TE} {tt tu : TT} {Q : VK} {QB : Bool → Hp → Prop} {v w x y : V} {i j : Int} {K : PySem.W.Frag}
theorem z_seq (h : t ⟨u ⟨n, r, b, c⟩, r, b, c⟩ σ H) : tSeq t u ⟨n, r, b, c⟩ σ H := h
theorem z_asg {k : Nat} (h : te σ H fun x H1 => n (σ.set k (some x)) H1) : tAsg te (gName k) ⟨n, r, b, c⟩ σ H := h
theorem z_asgS {to ti : TE} {st : TSet} (h : te σ H fun v H0 => to σ H0 fun o H1 => ti σ H1 fun k H2 => st o k v H2 fun H3 => n σ H3) : tAsg te (gSub to ti st) ⟨n, r, b, c⟩ σ H := h
theorem z_drop (h : te σ H fun _ H1 => n σ H1) : tDrop te ⟨n, r, b, c⟩ σ H := h
theorem z_ret (h : te σ H r) : tRet te ⟨n, r, b, c⟩ σ H := h
theorem z_retN (h : r .non H) : tRetN ⟨n, r, b, c⟩ σ H := h
theorem z_next (h : n σ H) : tNext ⟨n, r, b, c⟩ σ H := h
theorem z_brk (h : b σ H) : tBreak ⟨n, r, b, c⟩ σ H := h
theorem z_cont (h : c σ H) : tCont ⟨n, r, b, c⟩ σ H := h
theorem z_ifs (h : tt σ H fun k H1 => if k = true then t ⟨n, r, b, c⟩ σ H1 else u ⟨n, r, b, c⟩ σ H1) : tIfS tt t u ⟨n, r, b, c⟩ σ H := h
theorem z_par {p q : Nat} {tl : TA} (h : tl σ H fun vs H1 => ∃ v w, vs = [v, w] ∧ n ((σ.set p (some v)).set q (some w)) H1) : tPar p q tl ⟨n, r, b, c⟩ σ H := h
theorem z_two {R : V → V → Prop} (h : R v w) : ∃ v' w', [v, w] = [v', w'] ∧ R v' w' := ⟨v, w, rfl, h⟩
theorem z_aug {k : Nat} {ti : TIp} (h : σ[k]? = some (some x)) (q : te σ H fun y H1 => ti x y H1 fun z H2 => n (σ.set k (some z)) H2) : tAug k te ti ⟨n, r, b, c⟩ σ H := ⟨x, h, q⟩
theorem z_ipI {f : Int → Int → Int} (q : Q (.int (f i j)) H) : ipI f (.int i) (.int j) H Q := ⟨i, j, rfl, rfl, q⟩
theorem z_var {k : Nat} (h : σ[k]? = some (some v)) (q : Q v H) : tVar k σ H Q := ⟨v, h, q⟩
theorem z_c (q : Q v H) : tC v σ H Q := q
theorem z_op {g : R2} (h : ta σ H fun x H1 => tb σ H1 fun y H2 => g x y H2 Q) : tOp g ta tb σ H Q := h
theorem z_un {g : V → Hp → VK → Prop} (h : ta σ H fun x H1 => g x H1 Q) : tUn g ta σ H Q := h
theorem z_I0 {g : Int → Int → V} (q : Q (g i j) H) : rI0 g (.int i) (.int j) H Q := ⟨i, j, rfl, rfl, q⟩
theorem z_I {C : Int → Int → Prop} {g : Int → Int → V} (hc : C i j) (q : Q (g i j) H) : rI C g (.int i) (.int j) H Q := ⟨i, j, rfl, rfl, hc, q⟩
theorem z_U {g : Int → V} (q : Q (g i) H) : rU g (.int i) H Q := ⟨i, rfl, q⟩
theorem z_eqI (q : Q (.bl (decide (i = j))) H) : rEq (.int i) (.int j) H Q := ⟨rfl, by rw [show decide (V.int i = V.int j) = decide (i = j) by simp]; exact q⟩
theorem z_neI (q : Q (.bl (decide (¬ i = j))) H) : rNe (.int i) (.int j) H Q := ⟨rfl, by rw [show (!decide (V.int i = V.int j)) = decide (¬ i = j) by simp]; exact q⟩
theorem z_eq (h : scal x y = true) (q : Q (.bl (decide (x = y))) H) : rEq x y H Q := ⟨h, q⟩
theorem z_test (h : te σ H fun x H1 => ∃ k, x = .bl k ∧ QB k H1) : tTest te σ H QB := h
theorem z_tB (h : te σ H fun x H1 => ∃ k, x = .bl k ∧ QB k H1) : tB te σ H QB := h
theorem z_bl {k : Bool} {R : Bool → Prop} (q : R k) : ∃ k', V.bl k = V.bl k' ∧ R k' := ⟨k, rfl, q⟩
theorem z_notT (h : tt σ H fun k H1 => QB (!k) H1) : tNot tt σ H QB := h
theorem z_andT (h : tt σ H fun k H1 => if k = true then tu σ H1 QB else QB false H1) : tAnd tt tu σ H QB := h
theorem z_orT (h : tt σ H fun k H1 => if k = true then QB true H1 else tu σ H1 QB) : tOr tt tu σ H QB := h
theorem z_andV (h : ta σ H fun x H1 => ∃ k, x = .bl k ∧ if k = true then tb σ H1 Q else Q (.bl false) H1) : tAndV ta tb σ H Q := h
theorem z_orV (h : ta σ H fun x H1 => ∃ k, x = .bl k ∧ if k = true then Q (.bl true) H1 else tb σ H1 Q) : tOrV ta tb σ H Q := h
theorem z_notV (h : ta σ H fun x H1 => ∃ k, x = .bl k ∧ Q (.bl (!k)) H1) : tNotV ta σ H Q := h
theorem z_ifE (h : tt σ H fun k H1 => if k = true then ta σ H1 Q else tb σ H1 Q) : tIf tt ta tb σ H Q := h
theorem z_chain {g g' : R2} {tc : TE} (h : ta σ H fun x H1 => tb σ H1 fun y H2 => g x y H2 fun z H3 => ∃ k, z = .bl k ∧ (if k = true then tc σ H3 fun w' H4 => g' y w' H4 Q else Q (.bl false) H3)) : tChain g g' ta tb tc σ H Q := h
theorem z_nil {R : List V → Hp → Prop} (q : R [] H) : tNil σ H R := q
theorem z_cons {tr : TA} {R : List V → Hp → Prop} (h : ta σ H fun x H1 => tr σ H1 fun xs H2 => R (x :: xs) H2) : tCons ta tr σ H R := h
theorem z_tup {tl : TA} (h : tl σ H fun xs H1 => xs.length ≤ sizeLine ∧ ∀ p, H1 p = none → Q (.ref p) (upd H1 p (.tup xs))) : tTup tl σ H Q := h
theorem z_lst {tl : TA} (h : tl σ H fun xs H1 => xs.length ≤ sizeLine ∧ ∀ p, H1 p = none → Q (.ref p) (upd H1 p (.lst xs))) : tLst tl σ H Q := h
theorem z_cb {g : List V → Hp → VK → Prop} {tl : TA} (h : tl σ H fun vs H1 => g vs H1 Q) : tCB g tl σ H Q := h
theorem z_call {sp : Sp} {E : XK} {tl : TA} (h : tl σ H fun vs H1 => sp vs H1 Q E) : tCall sp [] E tl σ H Q := by
  unfold tCall
  simpa only [List.append_nil] using h
theorem z_callS {sp : Sp} {E : L2.St → XK} {tl : TA} (h : tl σ H fun vs H1 => sp vs H1 Q (E σ)) : tCallS sp E tl σ H Q := h
theorem z_ixL {p : Addr} {xs : List V} (h : SqL K H p xs) (ha : atI xs i = some v) (q : Q v H) : rIxL K (.ref p) (.int i) H Q := ⟨p, xs, i, v, rfl, rfl, h, ha, q⟩
theorem z_ixT {p : Addr} {xs : List V} (h : SqT K H p xs) (ha : atI xs i = some v) (q : Q v H) : rIxT K (.ref p) (.int i) H Q := ⟨p, xs, i, v, rfl, rfl, h, ha, q⟩
theorem z_setL {p : Addr} {xs : List V} {k : Nat} {R : Hp → Prop} (h : H p = some (.lst xs)) (hk : ixN xs.length i = some k) (q : R (upd H p (.lst (xs.set k v)))) : rSetL (.ref p) (.int i) v H R := ⟨p, xs, i, k, rfl, rfl, h, hk, q⟩
theorem z_if {p : Prop} [Decidable p] {A B : Prop} (h1 : p → A) (h2 : ¬ p → B) : if decide p = true then A else B := by
  by_cases h : p
  · rw [if_pos (decide_eq_true h)]
    exact h1 h
  · rw [if_neg (by simpa using h)]
    exact h2 h
theorem z_ifB {k : Bool} {A B : Prop} (h1 : k = true → A) (h2 : k = false → B) : if k = true then A else B := by
  cases k with
  | true => exact h1 rfl
  | false => exact h2 rfl
/-- and, or, not of a test whose answer is known, the heap as it was -/
theorem z_andK {k k' : Bool} (h : k = true → ∀ R : Bool → Hp → Prop, R k' H → tu σ H R) (q : QB (k && k') H) : if k = true then tu σ H QB else QB false H := by
  cases k with
  | true => exact h rfl QB q
  | false => exact q
theorem z_orK {k k' : Bool} (h : k = false → ∀ R : Bool → Hp → Prop, R k' H → tu σ H R) (q : QB (k || k') H) : if k = true then QB true H else tu σ H QB := by
  cases k with
  | true => exact q
  | false => exact h rfl QB q
theorem z_andKV {k k' : Bool} (h : k = true → ∀ R : VK, R (.bl k') H → tb σ H R) (q : Q (.bl (k && k')) H) : if k = true then tb σ H Q else Q (.bl false) H := by
  cases k with
  | true => exact h rfl Q q
  | false => exact q
theorem z_orKV {k k' : Bool} (h : k = false → ∀ R : VK, R (.bl k') H → tb σ H R) (q : Q (.bl (k || k')) H) : if k = true then Q (.bl true) H else tb σ H Q := by
  cases k with
  | true => exact q
  | false => exact h rfl Q q
/-- the second comparison of a chain -/
theorem z_chK {k k' : Bool} {tc : TE} {g' : R2} (h : k = true → ∀ R : VK, R (.bl k') H → tc σ H fun w' H4 => g' y w' H4 R) (q : Q (.bl (k && k')) H) :
    if k = true then tc σ H fun w' H4 => g' y w' H4 Q else Q (.bl false) H := by
  cases k with
  | true => exact h rfl Q q
  | false => exact q
theorem z_ty {x : V} {t : String} {T : String} {k : Bool} {H : Hp} {Q : VK} (h : TyX K H x (.type t)) (e : kitB t T = some k) (q : Q (.bl k) H) : rIsi K [x, .ty T] H Q := ⟨x, .ty T, .type t, .type T, k, rfl, .ty T, h, kit_ty e, q⟩
end
end Z
namespace Z
open PySem PySem.Spec PyProof.Rows L2
theorem pe_powc {X : Cx} {a b v : Int} {j1 j2 : Nat} {p1 p2 pos : Pos} (h0 : CPow a b) (hv : a ^ b.toNat = v) : PE X (.BinOp (.Constant (.int a) j1 p1) .Pow (.Constant (.int b) j2 p2) pos) (tC (.int v)) := by
  subst hv
  exact ⟨fun pins s σ H Q I h => (pe_op op_pow pe_int pe_int).run pins s σ H Q I ⟨a, b, rfl, rfl, h0, h⟩⟩
def rInt1 : List V → Hp → VK → Prop := fun xs H Q => (∃ i, xs = [.int i] ∧ Q (.int i) H) ∨ ∃ k, xs = [.bl k] ∧ Q (.int (if k then 1 else 0)) H
def rAbs : List V → Hp → VK → Prop := fun xs H Q => ∃ i, xs = [.int i] ∧ Q (.int (if i < 0 then -i else i)) H
def rLen (K : PySem.W.Frag) : List V → Hp → VK → Prop := fun xs H Q => ∃ p ys, xs = [.ref p] ∧ (SqL K H p ys ∨ SqT K H p ys) ∧ Q (.int ys.length) H
theorem c_int {X : Cx} : CallR X (.type "int") rInt1 := call_int1
theorem c_abs {X : Cx} : CallR X (.builtin "abs") rAbs := call_abs
theorem c_len {X : Cx} : CallR X (.builtin "len") (rLen X.K) := call_len_seq
section
variable {H : Hp} {Q : VK} {i j : Int} {v : V} {R : Prop}
theorem z_int1 (q : Q (.int i) H) : rInt1 [.int i] H Q := .inl ⟨i, rfl, q⟩
theorem z_int1b {k : Bool} (q : Q (.int (if k then 1 else 0)) H) : rInt1 [.bl k] H Q := .inr ⟨k, rfl, q⟩
theorem z_abs (q : Q (.int (if i < 0 then -i else i)) H) : rAbs [.int i] H Q := ⟨i, rfl, q⟩
theorem z_gcd (q : Q (.int ((Nat.gcd i.natAbs j.natAbs : Nat) : Int)) H) : rGcd [.int i, .int j] H Q := ⟨i, j, rfl, q⟩
theorem z_lenL {K : PySem.W.Frag} {p : Addr} {xs : List V} (h : SqL K H p xs) (q : Q (.int (xs.length : Int)) H) : rLen K [.ref p] H Q := ⟨p, xs, rfl, .inl h, q⟩
theorem z_lenT {K : PySem.W.Frag} {p : Addr} {xs : List V} (h : SqT K H p xs) (q : Q (.int (xs.length : Int)) H) : rLen K [.ref p] H Q := ⟨p, xs, rfl, .inr h, q⟩
theorem z_isII {K : PySem.W.Frag} (q : Q (.bl true) H) : rIsi K [.int i, .ty "int"] H Q := z_ty (.base (.int i)) (by decide +kernel) q
theorem z_isIB {K : PySem.W.Frag} (q : Q (.bl false) H) : rIsi K [.int i, .ty "bool"] H Q := z_ty (.base (.int i)) (by decide +kernel) q
theorem z_isBB {K : PySem.W.Frag} {k : Bool} (q : Q (.bl true) H) : rIsi K [.bl k, .ty "bool"] H Q := z_ty (.base (.bl k)) (by decide +kernel) q
theorem z_isTT {K : PySem.W.Frag} {p : Addr} {xs : List V} (h : H p = some (.tup xs)) (q : Q (.bl true) H) : rIsi K [.ref p, .ty "tuple"] H Q := z_ty (.base (.tup h)) (by decide +kernel) q
theorem z_isLL {K : PySem.W.Frag} {p : Addr} {xs : List V} (h : H p = some (.lst xs)) (q : Q (.bl true) H) : rIsi K [.ref p, .ty "list"] H Q := z_ty (.base (.lst h)) (by decide +kernel) q
theorem z_new {xs : List V} {F : Addr → Prop} (h : xs.length ≤ 1000) (q : ∀ p, H p = none → F p) : xs.length ≤ sizeLine ∧ ∀ p, H p = none → F p := ⟨sz h, q⟩
end
end Z
namespace Z
open PySem PySem.Spec PyProof.Rows L2
section
variable {σ : L2.St} {H : Hp} {n : L2.St → Hp → Prop} {r : VK} {b c : L2.St → Hp → Prop} {tb : TS} {K : PySem.W.Frag}
/-- for k in range(m) -/
theorem z_forR1 {ta : TA} {k : Nat} (m : Nat) (hm : m < 2 ^ 62) (ha : ∀ R : List V → Hp → Prop, R [.int (m : Int)] H → ta σ H R) (Pv : Nat → L2.St → Hp → Prop) (h0 : Pv 0 σ H)
    (hs : ∀ i σ H, i < m → Pv i σ H → tb ⟨Pv (i + 1), r, n, Pv (i + 1)⟩ (σ.set k (some (.int (i : Int)))) H) (hd : ∀ σ H, Pv m σ H → n σ H) : tFor (iRng1 ta) (gName k) tb ⟨n, r, b, c⟩ σ H := by
  refine ha _ ⟨(m : Int), rfl, by omega, by omega, ?_⟩
  refine for_range (lo := 0) (n := (m : Int).toNat) Pv h0 (fun i σ' H' hi p => ?_) (fun σ' H' p => hd σ' H' (by simpa using p))
  have e : (0 : Int) + (i : Int) = (i : Int) := Int.zero_add _
  show tb _ (σ'.set k (some (.int ((0 : Int) + (i : Int))))) H'
  rw [e]
  exact hs i σ' H' (by simpa using hi) p
/-- for k in range(lo, hi) -/
theorem z_forR2 {ta : TA} {k : Nat} (lo : Int) (m : Nat) (hl : -(2 ^ 61) ≤ lo ∧ lo < 2 ^ 61) (hm : m < 2 ^ 61) (ha : ∀ R : List V → Hp → Prop, R [.int lo, .int (lo + (m : Int))] H → ta σ H R) (Pv : Nat → L2.St → Hp → Prop) (h0 : Pv 0 σ H)
    (hs : ∀ i σ H, i < m → Pv i σ H → tb ⟨Pv (i + 1), r, n, Pv (i + 1)⟩ (σ.set k (some (.int (lo + (i : Int))))) H) (hd : ∀ σ H, Pv m σ H → n σ H) : tFor (iRng2 ta) (gName k) tb ⟨n, r, b, c⟩ σ H := by
  refine ha _ ⟨lo, lo + (m : Int), rfl, by omega, ?_⟩
  have en : (lo + (m : Int) - lo).toNat = m := by omega
  rw [en]
  exact for_range (lo := lo) (n := m) Pv h0 hs hd
/-- for x in a list, in a tuple -/
theorem z_forL {tl : TE} {g : TG} {a : Addr} {xs : List V} (ha : ∀ R : VK, R (.ref a) H → tl σ H R) (hx : SqL K H a xs) (Pv : Nat → L2.St → Hp → Prop) (h0 : Pv 0 σ H) (hl : ∀ i σ H, i ≤ xs.length → Pv i σ H → SqL K H a xs)
    (hs : ∀ i x σ H, xs[i]? = some x → Pv i σ H → g x σ H fun σ2 H2 => tb ⟨Pv (i + 1), r, n, Pv (i + 1)⟩ σ2 H2) (hd : ∀ σ H, Pv xs.length σ H → n σ H) : tFor (iList K tl) g tb ⟨n, r, b, c⟩ σ H :=
  ha _ ⟨a, rfl, ⟨xs, hx⟩, for_list Pv h0 hl hs hd⟩
theorem z_forT {tl : TE} {g : TG} {a : Addr} {xs : List V} (ha : ∀ R : VK, R (.ref a) H → tl σ H R) (hx : SqT K H a xs) (Pv : Nat → L2.St → Hp → Prop) (h0 : Pv 0 σ H) (hl : ∀ i σ H, i ≤ xs.length → Pv i σ H → SqT K H a xs)
    (hs : ∀ i x σ H, xs[i]? = some x → Pv i σ H → g x σ H fun σ2 H2 => tb ⟨Pv (i + 1), r, n, Pv (i + 1)⟩ σ2 H2) (hd : ∀ σ H, Pv xs.length σ H → n σ H) : tFor (iTup K tl) g tb ⟨n, r, b, c⟩ σ H :=
  ha _ ⟨a, rfl, ⟨xs, hx⟩, for_tup Pv h0 hl hs hd⟩
theorem z_gName {k : Nat} {v : V} {R : L2.St → Hp → Prop} (q : R (σ.set k (some v)) H) : gName k v σ H R := q
end
end Z
namespace Z
section
variable {A B : Prop}
theorem z_ifT (q : A) : if true = true then A else B := by
  rw [if_pos rfl]
  exact q
theorem z_ifF (q : B) : if false = true then A else B := by
  rw [if_neg Bool.false_ne_true]
  exact q
theorem z_ifNF (q : A) : if (!false) = true then A else B := z_ifT q
theorem z_ifNT (q : B) : if (!true) = true then A else B := z_ifF q
theorem z_ifN {p : Prop} [Decidable p] (h1 : ¬ p → A) (h2 : p → B) : if (!decide p) = true then A else B := by
  by_cases h : p
  · rw [if_neg (by simpa using h)]
    exact h2 h
  · rw [if_pos (by simpa using h)]
    exact h1 h
end
end Z
namespace Z
theorem z_ifYes {A B : Prop} {k : Bool} (h : k = true) (q : A) : if k = true then A else B := by
  rw [if_pos h]
  exact q
theorem z_ifNo {A B : Prop} {k : Bool} (h : k = false) (q : B) : if k = true then A else B := by
  rw [if_neg (by rw [h]; exact Bool.false_ne_true)]
  exact q
end Z
namespace Z
open PySem PySem.Spec PyProof.Rows L2
theorem z_exc {K : PySem.W.Frag} {cv cls : Value} {i : Nat} {ts : Addr → Value → Option Addr → TS} {Wout : WX} {n : L2.St → Hp → Prop} {r : VK} {b c : L2.St → Hp → Prop} {d : Option Addr} {σ : L2.St} {H : Hp} (e : PySem.W.exmOne K cls cv = some true)
    (h : ∀ a, H a = none → ts a cls d ⟨fun σ' H' => n (σ'.set i none) H', r, fun σ' H' => b (σ'.set i none) H', fun σ' H' => c (σ'.set i none) H'⟩ (σ.set i (some (.ref a))) H) : WE (wAs K cv i ts Wout ⟨n, r, b, c⟩) σ cls d H :=
  ⟨true, e, fun _ a ha => h a ha, fun z => Bool.noConfusion z⟩
theorem z_excO {K : PySem.W.Frag} {cv cls : Value} {ts : Addr → Value → Option Addr → TS} {Wout : WX} {D : Ends} {d : Option Addr} {σ : L2.St} {H : Hp} (e : PySem.W.exmOne K cls cv = some true)
    (h : ∀ a, H a = none → ts a cls d D σ H) : WE (wOnly K cv ts Wout D) σ cls d H :=
  ⟨true, e, fun _ a ha => h a ha, fun z => Bool.noConfusion z⟩
theorem z_isEr {K : PySem.W.Frag} {a C D : Addr} {k : Bool} {H : Hp} {Q : VK} (x : ExcC K D) (e : PySem.W.kitOne K (.ref D) (.ref C) = some k) (q : Q (.bl k) H) : rIsEx K (.ref D) none a [.ref a, .ref C] H Q :=
  ⟨D, rfl, rfl, x, .ref C, .ref C, k, rfl, fun u h => h, e, q⟩
theorem z_isEt {K : PySem.W.Frag} {a D : Addr} {t : String} {k : Bool} {H : Hp} {Q : VK} (x : ExcC K D) (e : PySem.W.kitOne K (.ref D) (.type t) = some k) (q : Q (.bl k) H) : rIsEx K (.ref D) none a [.ref a, .ty t] H Q :=
  ⟨D, rfl, rfl, x, .ty t, .type t, k, rfl, fun u h => h, e, q⟩
/-- two lists, tuples of flat things compared -/
theorem z_eqD {K : PySem.W.Frag} {x y : V} {d e : PyData} {H : Hp} {Q : VK} (h1 : Dp K H x d) (h2 : Dp K H y e) (s1 : SeqAt.shaped d = true) (s2 : SeqAt.shaped e = true) (q : Q (.bl (PyData.eqv d e)) H) : rEqD K x y H Q := ⟨d, e, h1, h2, s1, s2, q⟩
end Z
namespace Z
open PySem PySem.Spec PyProof.Rows L2
theorem z_eqSame {K : PySem.W.Frag} {x y : V} {d : PyData} {H : Hp} {Q : VK} (h1 : Dp K H x d) (h2 : Dp K H y d) (s : SeqAt.shaped d = true) (q : Q (.bl true) H) : rEqD K x y H Q :=
  ⟨d, d, h1, h2, s, s, by rw [SeqAt.eqv_refl d (SeqAt.canLay_of_shaped s)]; exact q⟩
theorem dpT2 {K : PySem.W.Frag} {H : Hp} {p : Addr} {n d : Int} (h : H p = some (.tup [.int n, .int d])) : Dp K H (.ref p) (.tuple [.int n, .int d]) := .tup (.inl (.inl h)) (.cons (.int n) (.cons (.int d) .nil))
theorem dpB3 {K : PySem.W.Frag} {H : Hp} {p : Addr} {a b c : Bool} (h : H p = some (.lst [.bl a, .bl b, .bl c])) : Dp K H (.ref p) (.list [.bool a, .bool b, .bool c]) := .lst (.inl (.inl h)) (.cons (.bl a) (.cons (.bl b) (.cons (.bl c) .nil)))
end Z
namespace Z
open PySem PySem.Spec PyProof.Rows L2
theorem z_cut {t u : TS} {n : L2.St → Hp → Prop} {r : VK} {b c : L2.St → Hp → Prop} {σ : L2.St} {H : Hp} (Mid : L2.St → Hp → Prop) (h : t ⟨Mid, r, b, c⟩ σ H) (k : ∀ σ' H', Mid σ' H' → u ⟨n, r, b, c⟩ σ' H') : Evl.tCut t u ⟨n, r, b, c⟩ σ H := ⟨Mid, h, k⟩
end Z
namespace Z
open PySem PySem.Spec PyProof.Rows L2
section
variable {σ : L2.St} {H : Hp} {n : L2.St → Hp → Prop} {r : VK} {b c : L2.St → Hp → Prop} {te : TE} {K : PySem.W.Frag} {a : Addr} {xs : List V} {gs : TGs} {m : Nat} {v : V}
theorem z_asgT (h : te σ H fun x H1 => ∃ a xs, x = .ref a ∧ SqT K H1 a xs ∧ xs.length = m ∧ gs xs σ H1 n) : tAsg te (gTup K m gs) ⟨n, r, b, c⟩ σ H := h
theorem z_asgL (h : te σ H fun x H1 => ∃ a xs, x = .ref a ∧ SqL K H1 a xs ∧ xs.length = m ∧ gs xs σ H1 n) : tAsg te (gLst K m gs) ⟨n, r, b, c⟩ σ H := h
theorem z_up (h : SqT K H a xs) (hm : xs.length = m) (q : gs xs σ H n) : ∃ a' xs', V.ref a = .ref a' ∧ SqT K H a' xs' ∧ xs'.length = m ∧ gs xs' σ H n := ⟨a, xs, rfl, h, hm, q⟩
theorem z_upL (h : SqL K H a xs) (hm : xs.length = m) (q : gs xs σ H n) : ∃ a' xs', V.ref a = .ref a' ∧ SqL K H a' xs' ∧ xs'.length = m ∧ gs xs' σ H n := ⟨a, xs, rfl, h, hm, q⟩
theorem z_gT (h : SqT K H a xs) (hm : xs.length = m) (q : gs xs σ H n) : gTup K m gs (.ref a) σ H n := ⟨a, xs, rfl, h, hm, q⟩
theorem z_gcons {t : TG} {u : TGs} {R : L2.St → Hp → Prop} (h : t v σ H fun σ' H' => u xs σ' H' R) : gCons t u (v :: xs) σ H R := ⟨v, xs, rfl, h⟩
theorem z_gnil {R : L2.St → Hp → Prop} (h : R σ H) : gNil [] σ H R := ⟨rfl, h⟩
end
end Z

namespace G
open PySem PySem.Spec PyProof.Rows L2 Z
def topS (i : Nat) : Stmt := PySem.Challenge.pw_fontwinding_k03_order_and_rounding.main.body.getD i (.Pass ⟨0, 0, 0, 0⟩)
abbrev s_compare : Stmt := topS 1
abbrev s_floor_of : Stmt := topS 2
abbrev s_nearest : Stmt := topS 3
abbrev s_sixty_fourths : Stmt := topS 4
abbrev s__law_cell : Stmt := topS 6
abbrev s__law_stream : Stmt := topS 7
abbrev s__law_next : Stmt := topS 8
abbrev s__law_is_integer : Stmt := topS 9
abbrev s__law_ratio : Stmt := topS 10
abbrev s__law_is_number : Stmt := topS 11
abbrev s__law_drawn : Stmt := topS 12
abbrev s__law_holds : Stmt := topS 13
abbrev s_law : Stmt := topS 14
theorem sc_compare : FnScope ["a", "b", "left", "right"] ["a", "b"] (defScope s_compare) := ⟨rfl, rfl, rfl, by decide +kernel, rfl, by decide +kernel, by decide +kernel⟩
theorem sc_floor_of : FnScope ["a"] ["a"] (defScope s_floor_of) := ⟨rfl, rfl, rfl, by decide +kernel, rfl, by decide +kernel, by decide +kernel⟩
theorem sc_nearest : FnScope ["a"] ["a"] (defScope s_nearest) := ⟨rfl, rfl, rfl, by decide +kernel, rfl, by decide +kernel, by decide +kernel⟩
theorem sc_sixty_fourths : FnScope ["a"] ["a"] (defScope s_sixty_fourths) := ⟨rfl, rfl, rfl, by decide +kernel, rfl, by decide +kernel, by decide +kernel⟩
theorem sc__law_cell : FnScope ["script", "k"] ["script", "k"] (defScope s__law_cell) := ⟨rfl, rfl, rfl, by decide +kernel, rfl, by decide +kernel, by decide +kernel⟩
theorem sc__law_stream : FnScope ["cell"] ["cell"] (defScope s__law_stream) := ⟨rfl, rfl, rfl, by decide +kernel, rfl, by decide +kernel, by decide +kernel⟩
theorem sc__law_next : FnScope ["stream", "size", "drawn", "mixed"] ["stream", "size"] (defScope s__law_next) := ⟨rfl, rfl, rfl, by decide +kernel, rfl, by decide +kernel, by decide +kernel⟩
theorem sc__law_is_integer : FnScope ["actual"] ["actual"] (defScope s__law_is_integer) := ⟨rfl, rfl, rfl, by decide +kernel, rfl, by decide +kernel, by decide +kernel⟩
theorem sc__law_ratio : FnScope ["n", "d", "a", "b", "k"] ["n", "d"] (defScope s__law_ratio) := ⟨rfl, rfl, rfl, by decide +kernel, rfl, by decide +kernel, by decide +kernel⟩
theorem sc__law_is_number : FnScope ["actual"] ["actual"] (defScope s__law_is_number) := ⟨rfl, rfl, rfl, by decide +kernel, rfl, by decide +kernel, by decide +kernel⟩
theorem sc__law_drawn : FnScope ["stream", "kind", "n", "d"] ["stream"] (defScope s__law_drawn) := ⟨rfl, rfl, rfl, by decide +kernel, rfl, by decide +kernel, by decide +kernel⟩
theorem sc__law_holds : FnScope ["a", "n", "d", "f", "r", "s"] ["a"] (defScope s__law_holds) := ⟨rfl, rfl, rfl, by decide +kernel, rfl, by decide +kernel, by decide +kernel⟩
theorem sc_law : FnScope ["script", "stream", "a", "b", "kind", "difference", "expected", "actual"] ["script"] (defScope s_law) := ⟨rfl, rfl, rfl, by decide +kernel, rfl, by decide +kernel, by decide +kernel⟩
structure Txt (K : PySem.W.Frag) (mg : Str → Option Value) (A : Nat → Addr) (D : Nat → FuncData) : Prop where
  F_compare : Fun K "compare" "compare" s_compare (A 0) (D 0)
  m_compare : mg "compare" = some (.ref (A 0))
  b_compare : Binds K (D 0) ["a", "b"] []
  F_floor_of : Fun K "floor_of" "floor_of" s_floor_of (A 1) (D 1)
  m_floor_of : mg "floor_of" = some (.ref (A 1))
  b_floor_of : Binds K (D 1) ["a"] []
  F_nearest : Fun K "nearest" "nearest" s_nearest (A 2) (D 2)
  m_nearest : mg "nearest" = some (.ref (A 2))
  b_nearest : Binds K (D 2) ["a"] []
  F_sixty_fourths : Fun K "sixty_fourths" "sixty_fourths" s_sixty_fourths (A 3) (D 3)
  m_sixty_fourths : mg "sixty_fourths" = some (.ref (A 3))
  b_sixty_fourths : Binds K (D 3) ["a"] []
  F__law_cell : Fun K "_law_cell" "_law_cell" s__law_cell (A 4) (D 4)
  m__law_cell : mg "_law_cell" = some (.ref (A 4))
  b__law_cell : Binds K (D 4) ["script", "k"] []
  F__law_stream : Fun K "_law_stream" "_law_stream" s__law_stream (A 5) (D 5)
  m__law_stream : mg "_law_stream" = some (.ref (A 5))
  b__law_stream : Binds K (D 5) ["cell"] []
  F__law_next : Fun K "_law_next" "_law_next" s__law_next (A 6) (D 6)
  m__law_next : mg "_law_next" = some (.ref (A 6))
  b__law_next : Binds K (D 6) ["stream", "size"] []
  F__law_is_integer : Fun K "_law_is_integer" "_law_is_integer" s__law_is_integer (A 7) (D 7)
  m__law_is_integer : mg "_law_is_integer" = some (.ref (A 7))
  b__law_is_integer : Binds K (D 7) ["actual"] []
  F__law_ratio : Fun K "_law_ratio" "_law_ratio" s__law_ratio (A 8) (D 8)
  m__law_ratio : mg "_law_ratio" = some (.ref (A 8))
  b__law_ratio : Binds K (D 8) ["n", "d"] []
  F__law_is_number : Fun K "_law_is_number" "_law_is_number" s__law_is_number (A 9) (D 9)
  m__law_is_number : mg "_law_is_number" = some (.ref (A 9))
  b__law_is_number : Binds K (D 9) ["actual"] []
  F__law_drawn : Fun K "_law_drawn" "_law_drawn" s__law_drawn (A 10) (D 10)
  m__law_drawn : mg "_law_drawn" = some (.ref (A 10))
  b__law_drawn : Binds K (D 10) ["stream"] []
  F__law_holds : Fun K "_law_holds" "_law_holds" s__law_holds (A 11) (D 11)
  m__law_holds : mg "_law_holds" = some (.ref (A 11))
  b__law_holds : Binds K (D 11) ["a"] []
  F_law : Fun K "law" "law" s_law (A 12) (D 12)
  m_law : mg "law" = some (.ref (A 12))
  b_law : Binds K (D 12) ["script"] []
  z_abs : mg "abs" = none
  z_bool : mg "bool" = none
  z_int : mg "int" = none
  z_isinstance : mg "isinstance" = none
  z_len : mg "len" = none
  z_range : mg "range" = none
  z_tuple : mg "tuple" = none
local macro_rules | `(tactic| walk_at "z1") => `(tactic| first
  | with_reducible refine z_seq ?_
  | with_reducible refine z_asg ?_
  | with_reducible refine z_asgS ?_
  | with_reducible refine z_ifs ?_
  | ((with_reducible refine' z_var ?h ?_); case h => with_unfolding_all exact rfl)
  | with_reducible refine z_c ?_
  | with_reducible refine z_op ?_
  | with_reducible refine z_un ?_
  | with_reducible refine z_I0 ?_
  | ((with_reducible refine z_I ?h ?_); case h => first | (exact Or.inr ⟨by decide, by decide⟩) | (exact Or.inl ⟨by decide, by decide⟩) | (show (0 : Int) < _; first | assumption | omega))
  | with_reducible refine z_U ?_
  | with_reducible refine z_eqI ?_
  | with_reducible refine z_neI ?_
  | with_reducible refine z_test ?_
  | with_reducible refine z_tB ?_
  | with_reducible refine z_bl ?_
  | with_reducible refine z_notT ?_
  | with_reducible refine z_andT ?_
  | with_reducible refine z_orT ?_
  | with_reducible refine z_andV ?_
  | with_reducible refine z_orV ?_
  | with_reducible refine z_notV ?_
  | with_reducible refine z_ifE ?_
  | with_reducible refine z_ifT ?_
  | with_reducible refine z_ifF ?_
  | with_reducible refine z_ifNT ?_
  | with_reducible refine z_ifNF ?_
  | with_reducible refine z_chain ?_
  | with_reducible refine z_nil ?_
  | with_reducible refine z_cons ?_
  | with_reducible refine z_tup ?_
  | with_reducible refine z_lst ?_
  | with_reducible refine z_cb ?_
  | with_reducible refine z_call ?_
  | with_reducible refine z_callS ?_
  | with_reducible refine z_int1 ?_
  | with_reducible refine z_int1b ?_
  | with_reducible refine z_abs ?_
  | with_reducible refine z_gcd ?_
  | with_reducible refine z_ret ?_
  | with_reducible refine z_retN ?_
  | with_reducible refine z_drop ?_
  | with_reducible refine z_next ?_
  | with_reducible refine z_brk ?_
  | with_reducible refine z_cont ?_
  | with_reducible refine z_par ?_
  | with_reducible refine z_two ?_
  | with_reducible refine z_asgT ?_
  | with_reducible refine z_gName ?_
  | with_reducible refine z_gcons ?_
  | with_reducible refine z_gnil ?_
  | ((with_reducible refine' z_up ?h ?hm ?_); (case h => walk_at "sq"); (case hm => exact rfl))
  | ((with_reducible refine' z_gT ?h ?hm ?_); (case h => walk_at "sq"); (case hm => exact rfl))
  | with_reducible refine z_isII ?_
  | with_reducible refine z_isIB ?_
  | with_reducible refine z_isBB ?_
  | ((with_reducible refine' z_isTT ?h ?_); case h => assumption)
  | ((with_reducible refine' z_isLL ?h ?_); case h => assumption)
  | ((with_reducible refine z_new ?h ?_); case h => exact Nat.le_of_ble_eq_true rfl)
  | ((with_reducible refine' z_ixL ?h ?h2 ?_); (case h => walk_at "sq"); (case h2 => exact rfl))
  | ((with_reducible refine' z_ixT ?h ?h2 ?_); (case h => walk_at "sq"); (case h2 => exact rfl))
  | ((with_reducible refine' z_lenL ?h ?_); case h => walk_at "sq")
  | ((with_reducible refine' z_lenT ?h ?_); case h => walk_at "sq")
  | ((with_reducible refine z_ifYes ?h ?_); (case h => exact rfl))
  | ((with_reducible refine z_ifNo ?h ?_); (case h => exact rfl)))
local macro_rules | `(tactic| walk_at "sq") => `(tactic| first | assumption | exact Or.inl (Or.inl (by assumption)) | exact Or.inl (Or.inl upd_same))
local macro_rules | `(tactic| walk_at "z") => `(tactic| repeat (walk_at "z1"))
/-! ### promises -/
def sp__law_cell (K : PySem.W.Frag) : Sp := fun vs H Q _ => ∃ (l : Addr) (ns : List Int) (j : Nat), vs = [.ref l, .int (j : Int)] ∧ SqL K H l (ns.map V.int) ∧ ∀ v, Q (.int v) H
/-- a stream: three ints, whatever they are -/
def IsStm (H : Hp) (p : Addr) : Prop := ∃ a b m : Int, H p = some (.lst [.int a, .int b, .int m])
def sp__law_stream : Sp := fun vs H Q _ => ∃ c : Int, vs = [.int c] ∧ ∀ p a b m, H p = none → Q (.ref p) (upd H p (.lst [.int a, .int b, .int m]))
def sp__law_next : Sp := fun vs H Q _ => ∃ (p : Addr) (z : Int), vs = [.ref p, .int z] ∧ IsStm H p ∧ 0 < z ∧ z.natAbs < 2 ^ 1000 ∧ ∀ v a b m, 0 ≤ v → v < z → Q (.int v) (upd H p (.lst [.int a, .int b, .int m]))
section
theorem ok__law_cell {P : Program} {w : World} {K : PySem.W.Frag} {mg : Str → Option Value} {base : Heap} {A : Nat → Addr} {D : Nat → FuncData} (T : Txt K mg A D) : FnOk P w K mg base (L2.CX P w) 1 (A 4) (D 4) ["script", "k"] (sp__law_cell K) := by
  refine T.F__law_cell.okX sc__law_cell (fun vs H Q E h => ?_) (fun cdv A' outer s H vs Q E hr h => ?_)
  · obtain ⟨l, ns, j, rfl, _⟩ := h
    rfl
  obtain ⟨l, ns, j, rfl, hS, q⟩ := h
  refine ⟨_, (pss_cons (ps_if (pt_cmpR op_lt (pv 1) (pe_callB Z.c_len (by rfl) T.z_len (by decide +kernel) (pa_cons (pv 0) pa_nil)) (nomark _))
  (pss_one (ps_ret (pe_ix ix_list (pv 0) (pv 1) (fun _ _ => rfl))))
  pss_nil)
  (pss_one (ps_ret pe_int))), ?_⟩
  walk_at "z"
  refine z_if (fun hj => ?_) (fun _ => ?_)
  · walk_at "z"
    rw [List.length_map] at hj
    have hj' : j < ns.length := by omega
    refine z_ixL hS (v := .int ns[j]) (atI_nat (by rw [List.getElem?_map, List.getElem?_eq_getElem hj']; rfl)) (q _)
  · walk_at "z"
    exact q 0
theorem ok__law_stream {P : Program} {w : World} {K : PySem.W.Frag} {mg : Str → Option Value} {base : Heap} {A : Nat → Addr} {D : Nat → FuncData} (T : Txt K mg A D) : FnOk P w K mg base (L2.CX P w) 1 (A 5) (D 5) ["cell"] sp__law_stream := by
  refine T.F__law_stream.okX sc__law_stream (fun vs H Q E h => ?_) (fun cdv A' outer s H vs Q E hr h => ?_)
  · obtain ⟨c, rfl, _⟩ := h
    rfl
  obtain ⟨c, rfl, q⟩ := h
  refine ⟨_, (pss_cons (ps_if (pt_cmpR op_ge (pv 0) (Z.pe_powc (v := 1000000000000000000) ⟨by decide, by decide, by decide⟩ (by decide)) (nomark _))
  (pss_one (ps_ret (pe_lst (pa_cons (pv 0) (pa_cons pe_int (pa_cons (pe_op op_mod (pe_callTy Z.c_int (by rfl) T.z_int (by decide +kernel) (pa_cons (pv 0) pa_nil)) pe_int) pa_nil))))))
  pss_nil)
  (pss_one (ps_ret (pe_lst (pa_cons pe_int (pa_cons pe_int (pa_cons (pe_op op_mod (pe_callTy Z.c_int (by rfl) T.z_int (by decide +kernel) (pa_cons (pv 0) pa_nil)) pe_int) pa_nil))))))), ?_⟩
  walk_at "z"
  refine z_if (fun hj => ?_) (fun _ => ?_)
  · walk_at "z"
    exact fun p hp => q p _ _ _ hp
  · walk_at "z"
    exact fun p hp => q p _ _ _ hp
theorem ok__law_next {P : Program} {w : World} {K : PySem.W.Frag} {mg : Str → Option Value} {base : Heap} {A : Nat → Addr} {D : Nat → FuncData} (T : Txt K mg A D) : FnOk P w K mg base (L2.CX P w) 1 (A 6) (D 6) ["stream", "size"] sp__law_next := by
  refine T.F__law_next.okX sc__law_next (fun vs H Q E h => ?_) (fun cdv A' outer s H vs Q E hr h => ?_)
  · obtain ⟨p, z, rfl, _⟩ := h
    rfl
  obtain ⟨p, z, rfl, ⟨a, b, m, hp⟩, hz, hz2, q⟩ := h
  refine ⟨_, (pss_cons (ps_if (pt_cmpR op_gt (pe_ix ix_list (pv 0) pe_int (fun _ _ => rfl)) pe_int (nomark _))
  (pss_cons (ps_set (i := 2) sc__law_next.nd rfl (.inl rfl) (pe_op op_mod (pe_callTy Z.c_int (by rfl) T.z_int (by decide +kernel) (pa_cons (pe_ix ix_list (pv 0) pe_int (fun _ _ => rfl)) pa_nil)) (pv 1)))
  (pss_cons (ps_asg (pe_op op_fdivW (pe_ix ix_list (pv 0) pe_int (fun _ _ => rfl)) (pv 1)) (pg_sub (pv 0) pe_int set_list))
  (pss_one (ps_ret (pv 2)))))
  pss_nil)
  (pss_cons (ps_asg (pe_op op_add (pe_ix ix_list (pv 0) pe_int (fun _ _ => rfl)) pe_int) (pg_sub (pv 0) pe_int set_list))
  (pss_cons (ps_set (i := 3) sc__law_next.nd rfl (.inl rfl) (pe_op op_mod (pe_callTy Z.c_int (by rfl) T.z_int (by decide +kernel) (pa_cons (pe_op op_add (pe_op op_mul (pe_ix ix_list (pv 0) pe_int (fun _ _ => rfl)) pe_int) (pe_op op_mul (pe_ix ix_list (pv 0) pe_int (fun _ _ => rfl)) pe_int)) pa_nil)) pe_int))
  (pss_cons (ps_set (i := 3) sc__law_next.nd rfl (.inl rfl) (pe_op op_mod (pe_callTy Z.c_int (by rfl) T.z_int (by decide +kernel) (pa_cons (pe_op op_add (pe_op op_mulW (pv 3) (pv 3)) (pe_op op_mul (pe_ix ix_list (pv 0) pe_int (fun _ _ => rfl)) pe_int)) pa_nil)) pe_int))
  (pss_cons (ps_set (i := 3) sc__law_next.nd rfl (.inl rfl) (pe_op op_mod (pe_callTy Z.c_int (by rfl) T.z_int (by decide +kernel) (pa_cons (pe_op op_add (pe_op op_mul (pv 3) pe_int) (pe_ix ix_list (pv 0) pe_int (fun _ _ => rfl))) pa_nil)) pe_int))
  (pss_one (ps_ret (pe_op op_mod (pe_callTy Z.c_int (by rfl) T.z_int (by decide +kernel) (pa_cons (pv 3) pa_nil)) (pv 1))))))))), ?_⟩
  walk_at "z"
  refine z_if (fun hj => ?_) (fun _ => ?_)
  · walk_at "z"
    refine z_I (wide_div hz hz2 (by decide) (by decide)) ?_
    walk_at "z"
    refine z_setL hp rfl ?_
    walk_at "z"
    exact q _ _ _ _ (Int.emod_nonneg _ (by omega)) (Int.emod_lt_of_pos _ hz)
  · walk_at "z"
    refine z_setL hp rfl ?_
    have hp1 : (upd H p (HO.lst ([V.int a, V.int b, V.int m].set (Int.toNat 1) (V.int (b + 1))))) p = some (.lst [V.int a, V.int (b + 1), V.int m]) := upd_same
    walk_at "z"
    refine z_I ?_ ?_
    · exact wide_mul (a := 32) (b := 32) (by omega) (by omega) (by decide) (by decide) (by decide)
    walk_at "z"
    exact q _ _ _ _ (Int.emod_nonneg _ (by omega)) (Int.emod_lt_of_pos _ hz)
end
def sp__law_is_integer : Sp := fun vs H Q _ => ∃ i, vs = [.int i] ∧ Q (.bl true) H
section
theorem ok__law_is_integer {P : Program} {w : World} {K : PySem.W.Frag} {mg : Str → Option Value} {base : Heap} {A : Nat → Addr} {D : Nat → FuncData} (T : Txt K mg A D) : FnOk P w K mg base (L2.CX P w) 1 (A 7) (D 7) ["actual"] sp__law_is_integer := by
  refine T.F__law_is_integer.okX sc__law_is_integer (fun vs H Q E h => ?_) (fun cdv A' outer s H vs Q E hr h => ?_)
  · obtain ⟨i, rfl, _⟩ := h
    rfl
  obtain ⟨i, rfl, q⟩ := h
  refine ⟨_, (pss_one (ps_ret (pe_and (pe_callB call_isi (by rfl) T.z_isinstance (by decide +kernel) (pa_cons (pv 0) (pa_cons (pe_bltn (v := .ty "int") (by rfl) T.z_int (by decide +kernel) rfl) pa_nil))) (pe_one (pe_not (pe_callB call_isi (by rfl) T.z_isinstance (by decide +kernel) (pa_cons (pv 0) (pa_cons (pe_bltn (v := .ty "bool") (by rfl) T.z_bool (by decide +kernel) rfl) pa_nil)))))))), ?_⟩
  walk_at "z"
  exact q
end
theorem isI {i : Int} {H : Hp} {Q : VK} {E : XK} (q : Q (.bl true) H) : sp__law_is_integer [.int i] H Q E := ⟨i, rfl, q⟩
local macro_rules | `(tactic| walk_at "z1") => `(tactic| with_reducible refine isI ?_)

/-! ### numbers in lowest terms -/
def gd (n d : Int) : Int := ((Nat.gcd n.natAbs d.natAbs : Nat) : Int)
def rn (n d : Int) : Int := (if d < 0 then -n else n) / gd n d
def rd (n d : Int) : Int := (if d < 0 then -d else d) / gd n d
def lim : Int := 1000000000000000000
def fits (n d : Int) : Prop := -lim ≤ rn n d ∧ rn n d ≤ lim ∧ rd n d ≤ lim
instance (n d : Int) : Decidable (fits n d) := inferInstanceAs (Decidable (_ ∧ _ ∧ _))
theorem gd_pos {n d : Int} (h : d ≠ 0) : 0 < gd n d := by
  unfold gd
  have : 0 < Nat.gcd n.natAbs d.natAbs := Nat.gcd_pos_of_pos_right _ (by omega)
  omega
theorem gd_dvd_l (n d : Int) : gd n d ∣ n := by
  unfold gd
  exact Int.dvd_trans (Int.natCast_dvd_natCast.mpr (Nat.gcd_dvd_left _ _)) (Int.natAbs_dvd_self)
theorem gd_dvd_r (n d : Int) : gd n d ∣ d := by
  unfold gd
  exact Int.dvd_trans (Int.natCast_dvd_natCast.mpr (Nat.gcd_dvd_right _ _)) (Int.natAbs_dvd_self)
theorem rd_pos {n d : Int} (h : d ≠ 0) : 0 < rd n d := by
  have g := gd_pos (n := n) h
  obtain ⟨k, hk⟩ := gd_dvd_r n d
  unfold rd
  split
  · rename_i hd
    have e : -d = gd n d * (-k) := by rw [Int.mul_neg, ← hk]
    rw [e, Int.mul_ediv_cancel_left _ (by omega)]
    have : ¬ 0 ≤ k := fun z => by have := Int.mul_nonneg (Int.le_of_lt g) z; omega
    omega
  · rename_i hd
    have e : d / gd n d = k := Int.ediv_eq_of_eq_mul_right (by omega) hk
    rw [e]
    have : ¬ k ≤ 0 := fun z => by have := Int.mul_nonpos_of_nonneg_of_nonpos (Int.le_of_lt g) z; omega
    omega
/-- what the program divides: by the negative of the common divisor where d is negative -/
theorem fdiv_neg {n g : Int} (hg : 0 < g) (h : g ∣ n) : Int.fdiv n (-g) = -n / g := by
  obtain ⟨k, rfl⟩ := h
  rw [show g * k = (-g) * (-k) by rw [Int.neg_mul_neg], Int.mul_fdiv_cancel_left _ (by omega), Int.neg_mul_neg, show -(g * k) = g * (-k) by rw [Int.mul_neg], Int.mul_ediv_cancel_left _ (by omega)]
theorem fdiv_pos {n g : Int} (hg : 0 < g) : Int.fdiv n g = n / g := Int.fdiv_eq_ediv_of_nonneg _ (by omega)
theorem gd_log {n d : Int} {k : Nat} (h : d ≠ 0) (hd : d.natAbs < 2 ^ k) : (gd n d).natAbs < 2 ^ k := by
  have : Nat.gcd n.natAbs d.natAbs ≤ d.natAbs := Nat.gcd_le_right _ (by omega)
  unfold gd
  omega
theorem cfd {j : Int} (h : j ≠ 0) (hj : j.natAbs < 2 ^ 1000) : CFd 0 j := ⟨h, Nat.lt_of_lt_of_le (PySem.Flt.log2_lt_of (by decide) hj) (by decide)⟩
theorem lt4 {a : Nat} (h : a < 2 ^ 400) : a < 2 ^ 1000 := Nat.lt_of_lt_of_le h (Nat.pow_le_pow_right (by decide) (by decide))
theorem lt1000 {a : Nat} (h : a < 2 ^ 100) : a < 2 ^ 1000 := Nat.lt_of_lt_of_le h (Nat.pow_le_pow_right (by decide) (by decide))

/-! ### the law's own Euclid -/
structure Eu (M : Nat) (G i a b : Nat) : Prop where
  g : Nat.gcd a b = G
  o : (i = 0 ∧ a * b = M) ∨ (b < a ∧ a * b * 2 ^ i ≤ 2 * M)
theorem Eu.start {a b : Nat} : Eu (a * b) (Nat.gcd a b) 0 a b := ⟨rfl, .inl ⟨rfl, rfl⟩⟩
theorem Eu.next {M G i a b : Nat} (h : Eu M G i a b) (hb : b ≠ 0) : Eu M G (i + 1) b (a % b) := by
  have hlt : a % b < b := Nat.mod_lt _ (by omega)
  refine ⟨?_, .inr ⟨hlt, ?_⟩⟩
  · rw [← h.g, Nat.gcd_comm a b, Nat.gcd_comm b (a % b)]
    exact (Nat.gcd_rec b a).symm
  · have hm : a * b * 2 ^ i ≤ 2 * M := by
      rcases h.o with ⟨z, w⟩ | ⟨_, w⟩
      · subst z
        rw [w]
        omega
      · exact w
    by_cases hab : a < b
    · have e : a % b = a := Nat.mod_eq_of_lt hab
      have hi : i = 0 ∧ a * b = M := by
        rcases h.o with z | z
        · exact z
        · omega
      obtain ⟨rfl, w⟩ := hi
      rw [e, Nat.mul_comm b a, w]
      omega
    · have h2 : 2 * (a % b) ≤ a := by
        have h3 : a % b ≤ a - b := by
          rw [Nat.mod_eq_sub_mod (by omega)]
          exact Nat.mod_le _ _
        omega
      have h4 : b * (a % b) * 2 ≤ a * b := by
        rw [Nat.mul_assoc, Nat.mul_comm (a % b) 2, Nat.mul_comm a b]
        exact Nat.mul_le_mul_left b h2
      calc b * (a % b) * 2 ^ (i + 1) = (b * (a % b) * 2) * 2 ^ i := by rw [Nat.pow_succ, Nat.mul_comm (2 ^ i) 2, ← Nat.mul_assoc]
        _ ≤ (a * b) * 2 ^ i := Nat.mul_le_mul_right _ h4
        _ ≤ 2 * M := hm
set_option exponentiation.threshold 2000 in
theorem Eu.zero {G a b x y : Nat} (h : Eu (x * y) G 1000 a b) (hx : x < 2 ^ 400) (hy : y < 2 ^ 400) : b = 0 := by
  have h1 : x * y < 2 ^ 400 * 2 ^ 400 := Nat.mul_lt_mul'' hx hy
  rcases h.o with ⟨z, _⟩ | ⟨w, h2⟩
  · omega
  have h3 : a * b = 0 := by
    rcases Nat.eq_zero_or_pos (a * b) with z | z
    · exact z
    · have : 2 ^ 1000 ≤ a * b * 2 ^ 1000 := Nat.le_mul_of_pos_left _ z
      have e : 2 * (2 ^ 400 * 2 ^ 400) < 2 ^ 1000 := by decide
      omega
  rcases Nat.mul_eq_zero.mp h3 with z | z
  · omega
  · exact z
def sp__law_ratio : Sp := fun vs H Q _ => ∃ n d : Int, vs = [.int n, .int d] ∧ d ≠ 0 ∧ n.natAbs < 2 ^ 400 ∧ d.natAbs < 2 ^ 400 ∧ ∀ p, H p = none → Q (.ref p) (upd H p (.tup [.int (rn n d), .int (rd n d)]))
theorem abs_eq (n : Int) : (if n < 0 then -n else n) = (n.natAbs : Int) := by
  split <;> omega
section
theorem ok__law_ratio {P : Program} {w : World} {K : PySem.W.Frag} {mg : Str → Option Value} {base : Heap} {A : Nat → Addr} {D : Nat → FuncData} (T : Txt K mg A D) : FnOk P w K mg base (L2.CX P w) 1 (A 8) (D 8) ["n", "d"] sp__law_ratio := by
  refine T.F__law_ratio.okX sc__law_ratio (fun vs H Q E h => ?_) (fun cdv A' outer s H vs Q E hr h => ?_)
  · obtain ⟨n, d, rfl, _⟩ := h
    rfl
  obtain ⟨n, d, rfl, h0, hn, hd, q⟩ := h
  refine ⟨_, (pss_cons (ps_set (i := 2) sc__law_ratio.nd rfl (.inl rfl) (pe_callB Z.c_abs (by rfl) T.z_abs (by decide +kernel) (pa_cons (pv 0) pa_nil)))
  (pss_cons (ps_set (i := 3) sc__law_ratio.nd rfl (.inl rfl) (pe_callB Z.c_abs (by rfl) T.z_abs (by decide +kernel) (pa_cons (pv 1) pa_nil)))
  (pss_cons (ps_for (passes_of rfl) rfl (pi_range1 (by rfl) T.z_range (pa_cons pe_int pa_nil)) (pg_name (i := 4) sc__law_ratio.nd rfl (.inl rfl))
  (pss_cons (ps_if (pt_cmpR op_eq (pv 3) pe_int (nomark _))
  (pss_one ps_break)
  pss_nil)
  (pss_one (ps_par (i := 2) (j := 3) (by rfl) sc__law_ratio.nd rfl rfl (by decide) rfl rfl (pa_cons (pv 3) (pa_cons (pe_op op_mod (pe_callTy Z.c_int (by rfl) T.z_int (by decide +kernel) (pa_cons (pv 2) pa_nil)) (pv 3)) pa_nil)) (by rfl)))))
  (pss_cons (ps_if (pt_cmpR op_lt (pv 1) pe_int (nomark _))
  (pss_one (ps_set (i := 0) sc__law_ratio.nd rfl (.inl rfl) (pe_op op_sub pe_int (pv 0))))
  pss_nil)
  (pss_one (ps_ret (pe_tup (pa_cons (pe_op op_fdivW (pv 0) (pv 2)) (pa_cons (pe_op op_fdivW (pe_callB Z.c_abs (by rfl) T.z_abs (by decide +kernel) (pa_cons (pv 1) pa_nil)) (pv 2)) pa_nil))))))))), ?_⟩
  walk_at "z"
  rw [abs_eq, abs_eq]
  have fin : ∀ (σ' : L2.St) (kv : Option V), σ' = [some (.int n), some (.int d), some (.int (gd n d)), some (.int 0), kv] →
      (tSeq (tIfS (tTest (tOp (rI0 fun i j => V.bl (decide (i < j))) (tVar 1) (tC (V.int 0)))) (tAsg (tOp (rI0 fun i j => V.int (i - j)) (tC (V.int 0)) (tVar 0)) (gName 0)) tNext)
          (tRet (tTup (tCons (tOp (rI CDivW fun i j => V.int (i / j)) (tVar 0) (tVar 2)) (tCons (tOp (rI CDivW fun i j => V.int (i / j)) (tCB rAbs (tCons (tVar 1) tNil)) (tVar 2)) tNil))))
          { nx := fun x H' => Q V.non H', rt := Q }) σ' H := by
    rintro σ' kv rfl
    have hg := gd_pos (n := n) h0
    have hgl := gd_log (n := n) h0 hd
    walk_at "z"
    refine z_if (fun c => ?_) (fun c => ?_)
    · walk_at "z"
      refine z_I (wide_div hg hgl (by decide) (by decide)) ?_
      walk_at "z"
      refine z_I (wide_div hg hgl (by decide) (by decide)) ?_
      walk_at "z"
      have e1 : (0 - n) / gd n d = rn n d := by
        unfold rn
        rw [if_pos c, Int.zero_sub]
      have e2 : (if d < 0 then -d else d) / gd n d = rd n d := rfl
      rw [e1, e2]
      exact q
    · walk_at "z"
      refine z_I (wide_div hg hgl (by decide) (by decide)) ?_
      walk_at "z"
      refine z_I (wide_div hg hgl (by decide) (by decide)) ?_
      walk_at "z"
      have e1 : n / gd n d = rn n d := by
        unfold rn
        rw [if_neg c]
      have e2 : (if d < 0 then -d else d) / gd n d = rd n d := rfl
      rw [e1, e2]
      exact q
  refine z_forR1 1000 (by decide) (fun R q => by walk_at "z"; exact q) (fun i σ' H' => H' = H ∧ ∃ (a b : Nat) (kv : Option V), σ' = [some (.int n), some (.int d), some (.int (a : Int)), some (.int (b : Int)), kv] ∧ Eu (n.natAbs * d.natAbs) (Nat.gcd n.natAbs d.natAbs) i a b)
    ⟨rfl, _, _, _, rfl, Eu.start⟩ ?_ ?_
  · rintro i σ' H' hi ⟨rfl, a, b, kv, rfl, eu⟩
    walk_at "z"
    refine z_if (fun c => ?_) (fun c => ?_)
    · walk_at "z1"
      have hb : b = 0 := by omega
      subst hb
      have ha : a = Nat.gcd n.natAbs d.natAbs := by rw [← eu.g, Nat.gcd_zero_right]
      subst ha
      exact fin _ _ rfl
    · walk_at "z"
      refine ⟨rfl, b, a % b, some (.int (i : Int)), ?_, eu.next (by omega)⟩
      rw [Int.natCast_emod]
      rfl
  · rintro σ' H' ⟨rfl, a, b, kv, rfl, eu⟩
    have hb := eu.zero hn hd
    subst hb
    have ha : a = Nat.gcd n.natAbs d.natAbs := by rw [← eu.g, Nat.gcd_zero_right]
    subst ha
    exact fin _ _ rfl
end

def sp__law_is_number : Sp := fun vs H Q _ => ∃ (p : Addr) (n d : Int), vs = [.ref p] ∧ H p = some (.tup [.int n, .int d]) ∧ Q (.bl true) H
section
theorem ok__law_is_number {P : Program} {w : World} {K : PySem.W.Frag} {mg : Str → Option Value} {base : Heap} {A : Nat → Addr} {D : Nat → FuncData} (T : Txt K mg A D) : FnOk P w K mg base (L2.CX P w) 2 (A 9) (D 9) ["actual"] sp__law_is_number := by
  refine T.F__law_is_number.okX sc__law_is_number (fun vs H Q E h => ?_) (fun cdv A' outer s H vs Q E hr h => ?_)
  · obtain ⟨p, n, d, rfl, _⟩ := h
    rfl
  obtain ⟨p, n, d, rfl, hp, q⟩ := h
  refine ⟨_, (pss_cons (ps_if (PW.pt (pw_or (pt_not (pt_val (pe_callB call_isi (by rfl) T.z_isinstance (by decide +kernel) (pa_cons (pv 0) (pa_cons (pe_bltn (v := .ty "tuple") (by rfl) T.z_tuple (by decide +kernel) rfl) pa_nil))))) (pw_or1 (pt_cmpR op_ne (pe_callB Z.c_len (by rfl) T.z_len (by decide +kernel) (pa_cons (pv 0) pa_nil)) pe_int (nomark _)))))
  (pss_one (ps_ret pe_bl))
  pss_nil)
  (pss_one (ps_ret (pe_and (pe_call (ok__law_is_integer T) (hr.mono (by decide)) (by rfl) T.m__law_is_integer T.F__law_is_integer.kp T.b__law_is_integer .nil (passes_call (takes_of rfl rfl rfl rfl) (fun _ _ _ _ h => h)) (pa_cons (pe_ix ix_tup (pv 0) pe_int (fun _ _ => rfl)) pa_nil)) (pe_one (pe_call (ok__law_is_integer T) (hr.mono (by decide)) (by rfl) T.m__law_is_integer T.F__law_is_integer.kp T.b__law_is_integer .nil (passes_call (takes_of rfl rfl rfl rfl) (fun _ _ _ _ h => h)) (pa_cons (pe_ix ix_tup (pv 0) pe_int (fun _ _ => rfl)) pa_nil))))))), ?_⟩
  walk_at "z"
  exact q
end

/-! ### the draws of a law: the heap H0 stands, a stream stands at p -/
structure Sd (H0 H : Hp) (p : Addr) : Prop where
  same : Same H0 H
  fresh : H0 p = none
  stm : IsStm H p
theorem Sd.mk0 {H0 : Hp} {p : Addr} {a b m : Int} (h : H0 p = none) : Sd H0 (upd H0 p (.lst [.int a, .int b, .int m])) p := ⟨same_upd h, h, a, b, m, upd_same⟩
theorem nx {H0 H : Hp} {p : Addr} {z : Int} {Q : VK} {E : XK} (S : Sd H0 H p) (hz : 0 < z) (hz2 : z.natAbs < 2 ^ 1000) (q : ∀ v H', 0 ≤ v → v < z → Sd H0 H' p → (∀ b, b ≠ p → H' b = H b) → Q (.int v) H') : sp__law_next [.ref p, .int z] H Q E := by
  refine ⟨p, z, rfl, S.stm, hz, hz2, fun v a b m h0 h1 => q v _ h0 h1 ⟨fun c o e => ?_, S.fresh, a, b, m, upd_same⟩ fun b hb => upd_ne hb⟩
  rw [upd_ne (ne_of_none e S.fresh)]
  exact S.same c o e
theorem Sd.ext {H0 H : Hp} {p q : Addr} {o : HO} (S : Sd H0 H p) (h : H q = none) : Sd H0 (upd H q o) p := by
  obtain ⟨a, b, m, hp⟩ := S.stm
  exact ⟨S.same.trans (same_upd h), S.fresh, a, b, m, by rw [upd_ne (ne_of_none hp h)]; exact hp⟩
def Kp (p : Addr) (H H' : Hp) : Prop := ∀ b o, b ≠ p → H b = some o → H' b = some o
theorem Kp.refl {p : Addr} {H : Hp} : Kp p H H := fun _ _ _ e => e
theorem Kp.trans {p : Addr} {H H1 H2 : Hp} (a : Kp p H H1) (b : Kp p H1 H2) : Kp p H H2 := fun c o h e => b c o h (a c o h e)
theorem Kp.eq {p : Addr} {H H' : Hp} (k : ∀ b, b ≠ p → H' b = H b) : Kp p H H' := fun b o h e => by
  rw [k b h]
  exact e
theorem Kp.new {p q : Addr} {H : Hp} {o : HO} (h : H q = none) : Kp p H (upd H q o) := fun b x _ e => same_upd h b x e
theorem Sd.ne {H0 H : Hp} {p q : Addr} {xs : List V} (S : Sd H0 H p) (h : H q = some (.tup xs)) : q ≠ p := by
  obtain ⟨_, _, _, e⟩ := S.stm
  exact ne_of h e (by intro z; cases z)
theorem Sd.ne0 {H0 H : Hp} {p q : Addr} (S : Sd H0 H p) (h : H q = none) : q ≠ p := by
  obtain ⟨_, _, _, e⟩ := S.stm
  exact Ne.symm (ne_of_none e h)
theorem rn_abs (n d : Int) : (rn n d).natAbs ≤ n.natAbs := by
  unfold rn
  refine Nat.le_trans (Int.natAbs_ediv_le_natAbs _ _) ?_
  split <;> omega
theorem rd_abs (n d : Int) : (rd n d).natAbs ≤ d.natAbs := by
  unfold rd
  refine Nat.le_trans (Int.natAbs_ediv_le_natAbs _ _) ?_
  split <;> omega
theorem lt400 {a : Nat} (h : a < 2 ^ 100) : a < 2 ^ 400 := Nat.lt_of_lt_of_le h (Nat.pow_le_pow_right (by decide) (by decide))
/-! ### a drawn number -/
def sp__law_drawn : Sp := fun vs H Q _ => ∃ (p : Addr) (H0 : Hp), vs = [.ref p] ∧ Sd H0 H p ∧ ∀ (n d : Int) (p' : Addr) (H' : Hp), 0 < d → n.natAbs < 2 ^ 100 → d.natAbs < 2 ^ 100 → Sd H0 H' p → H' p' = some (.tup [.int n, .int d]) → Kp p H H' → Q (.ref p') H'
section
theorem ok__law_drawn {P : Program} {w : World} {K : PySem.W.Frag} {mg : Str → Option Value} {base : Heap} {A : Nat → Addr} {D : Nat → FuncData} (T : Txt K mg A D) : FnOk P w K mg base (L2.CX P w) 2 (A 10) (D 10) ["stream"] sp__law_drawn := by
  refine T.F__law_drawn.okX sc__law_drawn (fun vs H Q E h => ?_) (fun cdv A' outer s H vs Q E hr h => ?_)
  · obtain ⟨p, H0, rfl, _⟩ := h
    rfl
  obtain ⟨p, H0, rfl, S, q⟩ := h
  refine ⟨_, (pss_cons (ps_set (i := 1) sc__law_drawn.nd rfl (.inl rfl) (pe_call (ok__law_next T) (hr.mono (by decide)) (by rfl) T.m__law_next T.F__law_next.kp T.b__law_next .nil (passes_call (takes_of rfl rfl rfl rfl) (fun _ _ _ _ h => h)) (pa_cons (pv 0) (pa_cons pe_int pa_nil))))
  (pss_cons (ps_set (i := 2) sc__law_drawn.nd rfl (.inl rfl) (pe_op op_sub (pe_call (ok__law_next T) (hr.mono (by decide)) (by rfl) T.m__law_next T.F__law_next.kp T.b__law_next .nil (passes_call (takes_of rfl rfl rfl rfl) (fun _ _ _ _ h => h)) (pa_cons (pv 0) (pa_cons pe_int pa_nil))) pe_int))
  (pss_cons (ps_set (i := 3) sc__law_drawn.nd rfl (.inl rfl) (pe_op op_add (pe_call (ok__law_next T) (hr.mono (by decide)) (by rfl) T.m__law_next T.F__law_next.kp T.b__law_next .nil (passes_call (takes_of rfl rfl rfl rfl) (fun _ _ _ _ h => h)) (pa_cons (pv 0) (pa_cons pe_int pa_nil))) pe_int))
  (Evl.pss_cut (ps_if (pt_cmpR op_eq (pv 1) pe_int (nomark _))
  (pss_cons (ps_set (i := 2) sc__law_drawn.nd rfl (.inl rfl) (pe_op op_sub (pe_call (ok__law_next T) (hr.mono (by decide)) (by rfl) T.m__law_next T.F__law_next.kp T.b__law_next .nil (passes_call (takes_of rfl rfl rfl rfl) (fun _ _ _ _ h => h)) (pa_cons (pv 0) (pa_cons (pe_op op_mul pe_int (Z.pe_powc (v := 1000000) ⟨by decide, by decide, by decide⟩ (by decide))) pa_nil))) (Z.pe_powc (v := 1000000) ⟨by decide, by decide, by decide⟩ (by decide))))
  (pss_one (ps_set (i := 3) sc__law_drawn.nd rfl (.inl rfl) (pe_ix ix_list (pe_lst (pa_cons pe_int (pa_cons pe_int (pa_cons pe_int (pa_cons pe_int (pa_cons pe_int pa_nil)))))) (pe_call (ok__law_next T) (hr.mono (by decide)) (by rfl) T.m__law_next T.F__law_next.kp T.b__law_next .nil (passes_call (takes_of rfl rfl rfl rfl) (fun _ _ _ _ h => h)) (pa_cons (pv 0) (pa_cons pe_int pa_nil))) (fun _ _ => rfl)))))
  pss_nil)
  (Evl.pss_cut (ps_if (pt_cmpR op_eq (pv 1) pe_int (nomark _))
  (pss_cons (ps_set (i := 2) sc__law_drawn.nd rfl (.inl rfl) (pe_op op_sub (pe_call (ok__law_next T) (hr.mono (by decide)) (by rfl) T.m__law_next T.F__law_next.kp T.b__law_next .nil (passes_call (takes_of rfl rfl rfl rfl) (fun _ _ _ _ h => h)) (pa_cons (pv 0) (pa_cons (pe_op op_add (pe_op op_mul pe_int (Z.pe_powc (v := 1000000000000000000) ⟨by decide, by decide, by decide⟩ (by decide))) pe_int) pa_nil))) (Z.pe_powc (v := 1000000000000000000) ⟨by decide, by decide, by decide⟩ (by decide))))
  (pss_one (ps_set (i := 3) sc__law_drawn.nd rfl (.inl rfl) (pe_op op_add (pe_call (ok__law_next T) (hr.mono (by decide)) (by rfl) T.m__law_next T.F__law_next.kp T.b__law_next .nil (passes_call (takes_of rfl rfl rfl rfl) (fun _ _ _ _ h => h)) (pa_cons (pv 0) (pa_cons (Z.pe_powc (v := 1000000000000000000) ⟨by decide, by decide, by decide⟩ (by decide)) pa_nil))) pe_int))))
  pss_nil)
  (Evl.pss_cut (ps_if (pt_cmpR op_eq (pv 1) pe_int (nomark _))
  (pss_cons (ps_set (i := 2) sc__law_drawn.nd rfl (.inl rfl) (pe_op op_sub (Z.pe_powc (v := 1000000000000000000) ⟨by decide, by decide, by decide⟩ (by decide)) (pe_call (ok__law_next T) (hr.mono (by decide)) (by rfl) T.m__law_next T.F__law_next.kp T.b__law_next .nil (passes_call (takes_of rfl rfl rfl rfl) (fun _ _ _ _ h => h)) (pa_cons (pv 0) (pa_cons pe_int pa_nil)))))
  (pss_one (ps_set (i := 3) sc__law_drawn.nd rfl (.inl rfl) (pe_ix ix_list (pe_lst (pa_cons pe_int (pa_cons pe_int (pa_cons pe_int (pa_cons pe_int (pa_cons (Z.pe_powc (v := 1000000000000000000) ⟨by decide, by decide, by decide⟩ (by decide)) (pa_cons (pe_op op_sub (Z.pe_powc (v := 1000000000000000000) ⟨by decide, by decide, by decide⟩ (by decide)) pe_int) pa_nil))))))) (pe_call (ok__law_next T) (hr.mono (by decide)) (by rfl) T.m__law_next T.F__law_next.kp T.b__law_next .nil (passes_call (takes_of rfl rfl rfl rfl) (fun _ _ _ _ h => h)) (pa_cons (pv 0) (pa_cons pe_int pa_nil))) (fun _ _ => rfl)))))
  pss_nil)
  (Evl.pss_cut (ps_if (PW.pt (pw_and (pt_cmpR op_eq (pv 1) pe_int (nomark _)) (pw_and1 (pt_cmpR op_eq (pe_call (ok__law_next T) (hr.mono (by decide)) (by rfl) T.m__law_next T.F__law_next.kp T.b__law_next .nil (passes_call (takes_of rfl rfl rfl rfl) (fun _ _ _ _ h => h)) (pa_cons (pv 0) (pa_cons pe_int pa_nil))) pe_int (nomark _)))))
  (pss_one (ps_set (i := 2) sc__law_drawn.nd rfl (.inl rfl) (pe_op op_sub pe_int (pv 2))))
  pss_nil)
  (pss_one (ps_ret (pe_call (ok__law_ratio T) (hr.mono (by decide)) (by rfl) T.m__law_ratio T.F__law_ratio.kp T.b__law_ratio .nil (passes_call (takes_of rfl rfl rfl rfl) (fun _ _ _ _ h => h)) (pa_cons (pv 2) (pa_cons (pv 3) pa_nil)))))))))))), ?_⟩
  walk_at "z"
  refine nx S (by decide) (lt1000 (by decide)) fun kind H1 k0 k1 S1 e1 => ?_
  walk_at "z"
  refine nx S1 (by decide) (lt1000 (by decide)) fun n1 H2 n10 n11 S2 e2 => ?_
  walk_at "z"
  refine nx S2 (by decide) (lt1000 (by decide)) fun d1 H3 d10 d11 S3 e3 => ?_
  walk_at "z"
  have K3 : Kp p H H3 := ((Kp.eq e1).trans (Kp.eq e2)).trans (Kp.eq e3)
  let W : L2.St → Hp → Prop := fun σ H' => ∃ n d : Int, σ = [some (.ref p), some (.int kind), some (.int n), some (.int d)] ∧ 0 < d ∧ n.natAbs < 2 ^ 100 ∧ d.natAbs < 2 ^ 100 ∧ Sd H0 H' p ∧ Kp p H H'
  have pick : ∀ (xs : List V) (i : Int), 0 ≤ i → i < xs.length → (∀ x ∈ xs, ∃ y : Int, x = .int y ∧ 0 < y ∧ y.natAbs < 2 ^ 100) → ∃ y : Int, atI xs i = some (.int y) ∧ 0 < y ∧ y.natAbs < 2 ^ 100 := by
    intro xs i h0 h1 hx
    obtain ⟨j, rfl⟩ : ∃ j : Nat, i = j := ⟨i.toNat, by omega⟩
    have hj : j < xs.length := by omega
    obtain ⟨y, hy, z⟩ := hx xs[j] (List.getElem_mem hj)
    exact ⟨y, by rw [← hy]; exact atI_nat (List.getElem?_eq_getElem hj), z⟩
  refine z_cut W ?_ ?_
  · walk_at "z"
    refine z_if (fun c => ?_) (fun c => ?_)
    · walk_at "z"
      refine nx S3 (by decide) (lt1000 (by decide)) fun n2 H4 n20 n21 S4 e4 => ?_
      walk_at "z"
      intro p' hp'
      walk_at "z"
      refine nx (S4.ext hp') (by decide) (lt1000 (by decide)) fun i1 H5 i10 i11 S5 e5 => ?_
      obtain ⟨x, hx, hx0, hxb⟩ := pick [V.int 64, V.int 90, V.int 128, V.int 1000, V.int 999983] i1 i10 (by simpa using i11) (by
        intro x hx
        simp only [List.mem_cons, List.not_mem_nil, or_false] at hx
        rcases hx with rfl | rfl | rfl | rfl | rfl <;> exact ⟨_, rfl, by decide, by decide⟩)
      have hl : H5 p' = some (.lst [V.int 64, V.int 90, V.int 128, V.int 1000, V.int 999983]) := by
        rw [e5 p' (S4.ne0 hp')]
        exact upd_same
      refine z_ixL (.inl (.inl hl)) hx ?_
      walk_at "z"
      exact ⟨_, _, rfl, hx0, by omega, hxb, S5, ((K3.trans (Kp.eq e4)).trans (Kp.new hp')).trans (Kp.eq e5)⟩
    · walk_at "z"
      exact ⟨_, _, rfl, by omega, by omega, by omega, S3, K3⟩
  clear S S1 S2 S3 e1 e2 e3 n10 n11 d10 d11 K3
  rintro σ' H5 ⟨n, d, rfl, d0, hn, hd, S5, K5⟩
  refine z_cut W ?_ ?_
  · walk_at "z"
    refine z_if (fun c => ?_) (fun c => ?_)
    · walk_at "z"
      refine nx S5 (by decide) (lt1000 (by decide)) fun n2 H4 n20 n21 S4 e4 => ?_
      walk_at "z"
      refine nx S4 (by decide) (lt1000 (by decide)) fun d2 H6 d20 d21 S6 e6 => ?_
      walk_at "z"
      exact ⟨_, _, rfl, by omega, by omega, by omega, S6, (K5.trans (Kp.eq e4)).trans (Kp.eq e6)⟩
    · walk_at "z"
      exact ⟨_, _, rfl, d0, hn, hd, S5, K5⟩
  clear d0 hn hd S5 K5 n d H5
  rintro σ' H5 ⟨n, d, rfl, d0, hn, hd, S5, K5⟩
  refine z_cut W ?_ ?_
  · walk_at "z"
    refine z_if (fun c => ?_) (fun c => ?_)
    · walk_at "z"
      refine nx S5 (by decide) (lt1000 (by decide)) fun n2 H4 n20 n21 S4 e4 => ?_
      walk_at "z"
      intro p' hp'
      walk_at "z"
      refine nx (S4.ext hp') (by decide) (lt1000 (by decide)) fun i1 H7 i10 i11 S7 e7 => ?_
      obtain ⟨x, hx, hx0, hxb⟩ := pick [V.int 1, V.int 1, V.int 2, V.int 3, V.int 1000000000000000000, V.int (1000000000000000000 - 1)] i1 i10 (by simpa using i11) (by
        intro x hx
        simp only [List.mem_cons, List.not_mem_nil, or_false] at hx
        rcases hx with rfl | rfl | rfl | rfl | rfl | rfl <;> exact ⟨_, rfl, by decide, by decide⟩)
      have hl : H7 p' = some (.lst [V.int 1, V.int 1, V.int 2, V.int 3, V.int 1000000000000000000, V.int (1000000000000000000 - 1)]) := by
        rw [e7 p' (S4.ne0 hp')]
        exact upd_same
      refine z_ixL (.inl (.inl hl)) hx ?_
      walk_at "z"
      exact ⟨_, _, rfl, hx0, by omega, hxb, S7, ((K5.trans (Kp.eq e4)).trans (Kp.new hp')).trans (Kp.eq e7)⟩
    · walk_at "z"
      exact ⟨_, _, rfl, d0, hn, hd, S5, K5⟩
  clear d0 hn hd S5 K5 n d H5
  rintro σ' H5 ⟨n, d, rfl, d0, hn, hd, S5, K5⟩
  refine z_cut W ?_ ?_
  · walk_at "z"
    refine z_if (fun c => ?_) (fun c => ?_)
    · walk_at "z"
      refine nx S5 (by decide) (lt1000 (by decide)) fun n2 H4 n20 n21 S4 e4 => ?_
      walk_at "z"
      refine z_if (fun c => ?_) (fun c => ?_)
      · walk_at "z"
        exact ⟨_, _, rfl, d0, by omega, hd, S4, K5.trans (Kp.eq e4)⟩
      · walk_at "z"
        exact ⟨_, _, rfl, d0, hn, hd, S4, K5.trans (Kp.eq e4)⟩
    · walk_at "z"
      exact ⟨_, _, rfl, d0, hn, hd, S5, K5⟩
  clear d0 hn hd S5 K5 n d H5
  rintro σ' H5 ⟨n, d, rfl, d0, hn, hd, S5, K5⟩
  walk_at "z"
  refine ⟨n, d, rfl, by omega, lt400 hn, lt400 hd, fun p1 hp1 => ?_⟩
  exact q (rn n d) (rd n d) p1 _ (rd_pos (by omega)) (Nat.lt_of_le_of_lt (rn_abs n d) hn) (Nat.lt_of_le_of_lt (rd_abs n d) hd) (S5.ext hp1) upd_same (K5.trans (Kp.new hp1))
end
/-! ### the program's functions -/
def IsN (K : PySem.W.Frag) (H : Hp) (v : V) (n d : Int) : Prop := ∃ p, v = .ref p ∧ SqT K H p [.int n, .int d] ∧ 0 < d ∧ n.natAbs < 2 ^ 200 ∧ d.natAbs < 2 ^ 200
def sgn (x : Int) : Int := if x < 0 then -1 else if 0 < x then 1 else 0
def sp_compare (K : PySem.W.Frag) : Sp := fun vs H Q _ => ∃ (v w : V) (n d m e : Int), vs = [v, w] ∧ IsN K H v n d ∧ IsN K H w m e ∧ Q (.int (sgn (n * e - m * d))) H
def sp_floor_of (K : PySem.W.Frag) : Sp := fun vs H Q _ => ∃ (v : V) (n d : Int), vs = [v] ∧ IsN K H v n d ∧ Q (.int (n / d)) H
def near (n d : Int) : Int := (2 * n + d) / (2 * d)
def sp_nearest (K : PySem.W.Frag) : Sp := fun vs H Q _ => ∃ (v : V) (n d : Int), vs = [v] ∧ IsN K H v n d ∧ Q (.int (near n d)) H
def sp_sixty_fourths (K : PySem.W.Frag) : Sp := fun vs H Q _ => ∃ (v : V) (n d : Int), vs = [v] ∧ IsN K H v n d ∧ n.natAbs < 2 ^ 100 ∧ ∀ H', Same H H' → Q (.int (near (64 * n) d)) H'
section
theorem ok_compare {P : Program} {w : World} {K : PySem.W.Frag} {mg : Str → Option Value} {base : Heap} {A : Nat → Addr} {D : Nat → FuncData} (T : Txt K mg A D) : FnOk P w K mg base (L2.CX P w) 1 (A 0) (D 0) ["a", "b"] (sp_compare K) := by
  refine T.F_compare.okX sc_compare (fun vs H Q E h => ?_) (fun cdv A' outer s H vs Q E hr h => ?_)
  · obtain ⟨v, w', n, d, m, e, rfl, _⟩ := h
    rfl
  obtain ⟨_, _, n, d, m, e, rfl, ⟨p, rfl, hp, d0, hn, hd⟩, ⟨p2, rfl, hp2, e0, hm, he⟩, q⟩ := h
  refine ⟨_, (pss_cons (ps_set (i := 2) sc_compare.nd rfl (.inl rfl) (pe_op op_mulW (pe_ix ix_tup (pv 0) pe_int (fun _ _ => rfl)) (pe_ix ix_tup (pv 1) pe_int (fun _ _ => rfl))))
  (pss_cons (ps_set (i := 3) sc_compare.nd rfl (.inl rfl) (pe_op op_mulW (pe_ix ix_tup (pv 1) pe_int (fun _ _ => rfl)) (pe_ix ix_tup (pv 0) pe_int (fun _ _ => rfl))))
  (pss_cons (ps_if (pt_cmpR op_lt (pv 2) (pv 3) (nomark _))
  (pss_one (ps_ret (pe_un un_neg pe_int)))
  pss_nil)
  (pss_cons (ps_if (pt_cmpR op_gt (pv 2) (pv 3) (nomark _))
  (pss_one (ps_ret pe_int))
  pss_nil)
  (pss_one (ps_ret pe_int)))))), ?_⟩
  walk_at "z"
  refine z_I (wide_mul hn he (by decide) (by decide) (by decide)) ?_
  walk_at "z"
  refine z_I (wide_mul hm hd (by decide) (by decide) (by decide)) ?_
  walk_at "z"
  unfold sgn at q
  refine z_if (fun c => ?_) (fun c => ?_)
  · walk_at "z"
    rw [if_pos (by omega)] at q
    exact q
  walk_at "z"
  rw [if_neg (by omega)] at q
  refine z_if (fun c2 => ?_) (fun c2 => ?_)
  · walk_at "z"
    rw [if_pos (by omega)] at q
    exact q
  · walk_at "z"
    rw [if_neg (by omega)] at q
    exact q
theorem ok_floor_of {P : Program} {w : World} {K : PySem.W.Frag} {mg : Str → Option Value} {base : Heap} {A : Nat → Addr} {D : Nat → FuncData} (T : Txt K mg A D) : FnOk P w K mg base (L2.CX P w) 1 (A 1) (D 1) ["a"] (sp_floor_of K) := by
  refine T.F_floor_of.okX sc_floor_of (fun vs H Q E h => ?_) (fun cdv A' outer s H vs Q E hr h => ?_)
  · obtain ⟨v, n, d, rfl, _⟩ := h
    rfl
  obtain ⟨_, n, d, rfl, ⟨p, rfl, hp, d0, hn, hd⟩, q⟩ := h
  refine ⟨_, (pss_one (ps_ret (pe_op op_fdivW (pe_ix ix_tup (pv 0) pe_int (fun _ _ => rfl)) (pe_ix ix_tup (pv 0) pe_int (fun _ _ => rfl))))), ?_⟩
  walk_at "z"
  refine z_I (wide_div d0 hd (by decide) (by decide)) ?_
  walk_at "z"
  exact q
theorem ok_nearest {P : Program} {w : World} {K : PySem.W.Frag} {mg : Str → Option Value} {base : Heap} {A : Nat → Addr} {D : Nat → FuncData} (T : Txt K mg A D) : FnOk P w K mg base (L2.CX P w) 1 (A 2) (D 2) ["a"] (sp_nearest K) := by
  refine T.F_nearest.okX sc_nearest (fun vs H Q E h => ?_) (fun cdv A' outer s H vs Q E hr h => ?_)
  · obtain ⟨v, n, d, rfl, _⟩ := h
    rfl
  obtain ⟨_, n, d, rfl, ⟨p, rfl, hp, d0, hn, hd⟩, q⟩ := h
  refine ⟨_, (pss_one (ps_ret (pe_op op_fdivW (pe_op op_add (pe_op op_mul pe_int (pe_ix ix_tup (pv 0) pe_int (fun _ _ => rfl))) (pe_ix ix_tup (pv 0) pe_int (fun _ _ => rfl))) (pe_op op_mul pe_int (pe_ix ix_tup (pv 0) pe_int (fun _ _ => rfl)))))), ?_⟩
  walk_at "z"
  refine z_I (wide_div (b := 201) (by omega) (by omega) (by decide) (by decide)) ?_
  walk_at "z"
  exact q
theorem ok_sixty_fourths {P : Program} {w : World} {K : PySem.W.Frag} {mg : Str → Option Value} {base : Heap} {A : Nat → Addr} {D : Nat → FuncData} (T : Txt K mg A D) : FnOk P w K mg base (L2.CX P w) 2 (A 3) (D 3) ["a"] (sp_sixty_fourths K) := by
  refine T.F_sixty_fourths.okX sc_sixty_fourths (fun vs H Q E h => ?_) (fun cdv A' outer s H vs Q E hr h => ?_)
  · obtain ⟨v, n, d, rfl, _⟩ := h
    rfl
  obtain ⟨_, n, d, rfl, ⟨p, rfl, hp, d0, hn, hd⟩, hn2, q⟩ := h
  refine ⟨_, (pss_one (ps_ret (pe_call (ok_nearest T) (hr.mono (by decide)) (by rfl) T.m_nearest T.F_nearest.kp T.b_nearest .nil (passes_call (takes_of rfl rfl rfl rfl) (fun _ _ _ _ h => h)) (pa_cons (pe_tup (pa_cons (pe_op op_mul pe_int (pe_ix ix_tup (pv 0) pe_int (fun _ _ => rfl))) (pa_cons (pe_ix ix_tup (pv 0) pe_int (fun _ _ => rfl)) pa_nil))) pa_nil)))), ?_⟩
  walk_at "z"
  intro p1 hp1
  walk_at "z"
  exact ⟨_, _, _, rfl, ⟨p1, rfl, .inl (.inl upd_same), d0, by omega, hd⟩, q _ (same_upd hp1)⟩
end
/-! ### what the law asks of one number -/
theorem near_lo {n d : Int} (h : 0 < d) : (2 * near n d - 1) * d ≤ 2 * n := by
  unfold near
  have h1 := Int.mul_ediv_self_le (x := 2 * n + d) (k := 2 * d) (by omega)
  have e : (2 * ((2 * n + d) / (2 * d)) - 1) * d = 2 * d * ((2 * n + d) / (2 * d)) - d := by
    rw [Int.sub_mul, Int.one_mul, Int.mul_assoc, Int.mul_comm ((2 * n + d) / (2 * d)) d, ← Int.mul_assoc]
  omega
theorem near_hi {n d : Int} (h : 0 < d) : 2 * n < (2 * near n d + 1) * d := by
  unfold near
  have h1 := Int.lt_mul_ediv_self_add (x := 2 * n + d) (k := 2 * d) (by omega)
  have e : (2 * ((2 * n + d) / (2 * d)) + 1) * d = 2 * d * ((2 * n + d) / (2 * d)) + d := by
    rw [Int.add_mul, Int.one_mul, Int.mul_assoc, Int.mul_comm ((2 * n + d) / (2 * d)) d, ← Int.mul_assoc]
  omega
theorem div_lo {n d : Int} (h : 0 < d) : n / d * d ≤ n := by
  have := Int.mul_ediv_self_le (x := n) (k := d) (by omega)
  rw [Int.mul_comm]
  exact this
theorem div_hi {n d : Int} (h : 0 < d) : n < (n / d + 1) * d := by
  have := Int.lt_mul_ediv_self_add (x := n) (k := d) h
  rw [Int.add_mul, Int.one_mul, Int.mul_comm]
  exact this
theorem near_abs {n d : Int} (h : 0 < d) : (near n d).natAbs ≤ 2 * n.natAbs + 1 := by
  have h1 := near_lo (n := n) h
  have h2 := near_hi (n := n) h
  have a1 : 2 * near n d - 1 ≤ 2 * n.natAbs := by
    rcases Int.le_total (2 * near n d - 1) 0 with z | z
    · omega
    · have := Int.mul_le_mul_of_nonneg_left (show (1 : Int) ≤ d by omega) z
      omega
  have a2 : -(2 * n.natAbs : Int) ≤ 2 * near n d + 1 := by
    rcases Int.le_total (2 * near n d + 1) 0 with z | z
    · have : (2 * near n d + 1) * d ≤ (2 * near n d + 1) * 1 := Int.mul_le_mul_of_nonpos_left z (by omega)
      omega
    · omega
  omega
theorem div_abs {n d : Int} (h : 0 < d) : (n / d).natAbs ≤ n.natAbs := Int.natAbs_ediv_le_natAbs _ _
def sp__law_holds (K : PySem.W.Frag) : Sp := fun vs H Q _ => ∃ (v : V) (n d : Int), vs = [v] ∧ IsN K H v n d ∧ n.natAbs < 2 ^ 100 ∧ d.natAbs < 2 ^ 100 ∧ ∀ H', Same H H' → Q (.bl true) H'
section
theorem ok__law_holds {P : Program} {w : World} {K : PySem.W.Frag} {mg : Str → Option Value} {base : Heap} {A : Nat → Addr} {D : Nat → FuncData} (T : Txt K mg A D) : FnOk P w K mg base (L2.CX P w) 3 (A 11) (D 11) ["a"] (sp__law_holds K) := by
  refine T.F__law_holds.okX sc__law_holds (fun vs H Q E h => ?_) (fun cdv A' outer s H vs Q E hr h => ?_)
  · obtain ⟨v, n, d, rfl, _⟩ := h
    rfl
  obtain ⟨_, n, d, rfl, ⟨p, rfl, hp, d0, hn, hd⟩, hn2, hd2, q⟩ := h
  refine ⟨_, (pss_cons (ps_asg (pv 0) (pg_tup (by rfl) (pgs_cons (pg_name (i := 1) sc__law_holds.nd rfl (.inl rfl)) (pgs_cons (pg_name (i := 2) sc__law_holds.nd rfl (.inl rfl)) pgs_nil))))
  (pss_cons (ps_set (i := 3) sc__law_holds.nd rfl (.inl rfl) (pe_call (ok_floor_of T) (hr.mono (by decide)) (by rfl) T.m_floor_of T.F_floor_of.kp T.b_floor_of .nil (passes_call (takes_of rfl rfl rfl rfl) (fun _ _ _ _ h => h)) (pa_cons (pv 0) pa_nil)))
  (pss_cons (ps_set (i := 4) sc__law_holds.nd rfl (.inl rfl) (pe_call (ok_nearest T) (hr.mono (by decide)) (by rfl) T.m_nearest T.F_nearest.kp T.b_nearest .nil (passes_call (takes_of rfl rfl rfl rfl) (fun _ _ _ _ h => h)) (pa_cons (pv 0) pa_nil)))
  (pss_cons (ps_set (i := 5) sc__law_holds.nd rfl (.inl rfl) (pe_call (ok_sixty_fourths T) (hr.mono (by decide)) (by rfl) T.m_sixty_fourths T.F_sixty_fourths.kp T.b_sixty_fourths .nil (passes_call (takes_of rfl rfl rfl rfl) (fun _ _ _ _ h => h)) (pa_cons (pv 0) pa_nil)))
  (pss_cons (ps_if (PW.pt (pw_or (pt_not (pt_val (pe_call (ok__law_is_integer T) (hr.mono (by decide)) (by rfl) T.m__law_is_integer T.F__law_is_integer.kp T.b__law_is_integer .nil (passes_call (takes_of rfl rfl rfl rfl) (fun _ _ _ _ h => h)) (pa_cons (pv 3) pa_nil)))) (pw_or (pt_not (pt_val (pe_call (ok__law_is_integer T) (hr.mono (by decide)) (by rfl) T.m__law_is_integer T.F__law_is_integer.kp T.b__law_is_integer .nil (passes_call (takes_of rfl rfl rfl rfl) (fun _ _ _ _ h => h)) (pa_cons (pv 4) pa_nil)))) (pw_or1 (pt_not (pt_val (pe_call (ok__law_is_integer T) (hr.mono (by decide)) (by rfl) T.m__law_is_integer T.F__law_is_integer.kp T.b__law_is_integer .nil (passes_call (takes_of rfl rfl rfl rfl) (fun _ _ _ _ h => h)) (pa_cons (pv 5) pa_nil))))))))
  (pss_one (ps_ret pe_bl))
  pss_nil)
  (pss_cons (ps_if (PW.pt (pw_or (pt_cmpR op_gt (pe_op op_mulW (pv 3) (pv 2)) (pv 1) (nomark _)) (pw_or1 (pt_cmpR op_le (pe_op op_mulW (pe_op op_add (pv 3) pe_int) (pv 2)) (pv 1) (nomark _)))))
  (pss_one (ps_ret pe_bl))
  pss_nil)
  (pss_cons (ps_if (PW.pt (pw_or (pt_cmpR op_gt (pe_op op_mulW (pe_op op_sub (pe_op op_mul pe_int (pv 4)) pe_int) (pv 2)) (pe_op op_mul pe_int (pv 1)) (nomark _)) (pw_or1 (pt_cmpR op_le (pe_op op_mulW (pe_op op_add (pe_op op_mul pe_int (pv 4)) pe_int) (pv 2)) (pe_op op_mul pe_int (pv 1)) (nomark _)))))
  (pss_one (ps_ret pe_bl))
  pss_nil)
  (pss_one (ps_ret (pe_and (pe_cmpR op_le (pe_op op_mulW (pe_op op_sub (pe_op op_mul pe_int (pv 5)) pe_int) (pv 2)) (pe_op op_mul pe_int (pv 1)) (nomark _)) (pe_one (pe_cmpR op_lt (pe_op op_mul pe_int (pv 1)) (pe_op op_mulW (pe_op op_add (pe_op op_mul pe_int (pv 5)) pe_int) (pv 2)) (nomark _))))))))))))), ?_⟩
  walk_at "z"
  refine ⟨_, n, d, rfl, ⟨p, rfl, hp, d0, hn, hd⟩, ?_⟩
  walk_at "z"
  refine ⟨_, n, d, rfl, ⟨p, rfl, hp, d0, hn, hd⟩, ?_⟩
  walk_at "z"
  refine ⟨_, n, d, rfl, ⟨p, rfl, hp, d0, hn, hd⟩, hn2, fun H' sm => ?_⟩
  walk_at "z"
  have f1 := div_lo (n := n) d0
  have f2 := div_hi (n := n) d0
  have f3 := div_abs (n := n) d0
  have r1 := near_lo (n := n) d0
  have r2 := near_hi (n := n) d0
  have r3 := near_abs (n := n) d0
  have s1 := near_lo (n := 64 * n) d0
  have s2 := near_hi (n := 64 * n) d0
  have s3 := near_abs (n := 64 * n) d0
  generalize n / d = f at *
  generalize near n d = r at *
  generalize near (64 * n) d = t at *
  refine z_I (wide_mul (a := 200) (by omega) hd2 (by decide) (by decide) (by decide)) ?_
  walk_at "z"
  refine z_if (fun c => ?_) (fun c => ?_)
  · omega
  walk_at "z"
  refine z_I (wide_mul (a := 200) (by omega) hd2 (by decide) (by decide) (by decide)) ?_
  walk_at "z"
  refine z_if (fun c => ?_) (fun c => ?_)
  · omega
  walk_at "z"
  refine z_I (wide_mul (a := 200) (by omega) hd2 (by decide) (by decide) (by decide)) ?_
  walk_at "z"
  refine z_if (fun c => ?_) (fun c => ?_)
  · omega
  walk_at "z"
  refine z_I (wide_mul (a := 200) (by omega) hd2 (by decide) (by decide) (by decide)) ?_
  walk_at "z"
  refine z_if (fun c => ?_) (fun c => ?_)
  · omega
  walk_at "z"
  refine z_I (wide_mul (a := 200) (by omega) hd2 (by decide) (by decide) (by decide)) ?_
  walk_at "z"
  refine z_if (fun c => ?_) (fun c => ?_)
  · walk_at "z"
    refine z_I (wide_mul (a := 200) (by omega) hd2 (by decide) (by decide) (by decide)) ?_
    walk_at "z"
    rw [decide_eq_true (by omega)]
    exact q _ sm
  · omega
end
/-! ### the law -/
theorem lt200 {a : Nat} (h : a < 2 ^ 100) : a < 2 ^ 200 := Nat.lt_of_lt_of_le h (Nat.pow_le_pow_right (by decide) (by decide))
def sp_law (K : PySem.W.Frag) : Sp := fun vs H Q _ => ∃ (a : Addr) (ns : List Int), vs = [.ref a] ∧ SqL K H a (ns.map V.int) ∧ ns.length ≤ 63 ∧ ∀ H', Q (.bl true) H'
/-- a number at p, small enough -/
def Nb (H : Hp) (p : Addr) (n d : Int) : Prop := H p = some (.tup [.int n, .int d]) ∧ 0 < d ∧ n.natAbs < 2 ^ 100 ∧ d.natAbs < 2 ^ 100
theorem Nb.is {K : PySem.W.Frag} {H : Hp} {p : Addr} {n d : Int} (h : Nb H p n d) : IsN K H (.ref p) n d := ⟨p, rfl, .inl (.inl h.1), h.2.1, lt200 h.2.2.1, lt200 h.2.2.2⟩
theorem Nb.mono {H H' : Hp} {p : Addr} {n d : Int} (h : Nb H p n d) (s : Same H H') : Nb H' p n d := ⟨s _ _ h.1, h.2⟩
theorem Nb.kp {H0 H H' : Hp} {p q : Addr} {n d : Int} (h : Nb H p n d) (S : Sd H0 H q) (k : Kp q H H') : Nb H' p n d := ⟨k _ _ (S.ne h.1) h.1, h.2⟩
section
theorem ok_law {P : Program} {w : World} {K : PySem.W.Frag} {mg : Str → Option Value} {base : Heap} {A : Nat → Addr} {D : Nat → FuncData} (T : Txt K mg A D) : FnOk P w K mg base CX0 4 (A 12) (D 12) ["script"] (sp_law K) := by
  refine T.F_law.ok sc_law (fun vs H Q E h => ?_) (fun cdv A' outer s H vs Q E hr h => ?_)
  · obtain ⟨l, ns, rfl, _⟩ := h
    rfl
  obtain ⟨l, ns, rfl, hS, _, q⟩ := h
  refine ⟨_, (pss_cons (ps_set (i := 1) sc_law.nd rfl (.inl rfl) (pe_call (ok__law_stream T) (hr.mono (by decide)) (by rfl) T.m__law_stream T.F__law_stream.kp T.b__law_stream .nil passL (pa_cons (pe_call (ok__law_cell T) (hr.mono (by decide)) (by rfl) T.m__law_cell T.F__law_cell.kp T.b__law_cell .nil passL (pa_cons (pv 0) (pa_cons pe_int pa_nil))) pa_nil)))
  (pss_cons (ps_set (i := 2) sc_law.nd rfl (.inl rfl) (pe_call (ok__law_drawn T) (hr.mono (by decide)) (by rfl) T.m__law_drawn T.F__law_drawn.kp T.b__law_drawn .nil passL (pa_cons (pv 1) pa_nil)))
  (pss_cons (ps_set (i := 3) sc_law.nd rfl (.inl rfl) (pe_call (ok__law_drawn T) (hr.mono (by decide)) (by rfl) T.m__law_drawn T.F__law_drawn.kp T.b__law_drawn .nil passL (pa_cons (pe_call (ok__law_stream T) (hr.mono (by decide)) (by rfl) T.m__law_stream T.F__law_stream.kp T.b__law_stream .nil passL (pa_cons (pe_call (ok__law_cell T) (hr.mono (by decide)) (by rfl) T.m__law_cell T.F__law_cell.kp T.b__law_cell .nil passL (pa_cons (pv 0) (pa_cons pe_int pa_nil))) pa_nil)) pa_nil)))
  (pss_cons (ps_set (i := 4) sc_law.nd rfl (.inl rfl) (pe_call (ok__law_next T) (hr.mono (by decide)) (by rfl) T.m__law_next T.F__law_next.kp T.b__law_next .nil passL (pa_cons (pv 1) (pa_cons pe_int pa_nil))))
  (Evl.pss_cut (ps_if (pt_cmpR op_eq (pv 4) pe_int (nomark _))
  (pss_one (ps_set (i := 3) sc_law.nd rfl (.inl rfl) (pe_call (ok__law_ratio T) (hr.mono (by decide)) (by rfl) T.m__law_ratio T.F__law_ratio.kp T.b__law_ratio .nil passL (pa_cons (pe_ix ix_tup (pv 2) pe_int (fun _ _ => rfl)) (pa_cons (pe_ix ix_tup (pv 2) pe_int (fun _ _ => rfl)) pa_nil)))))
  pss_nil)
  (Evl.pss_cut (ps_if (pt_cmpR op_eq (pv 4) pe_int (nomark _))
  (pss_one (ps_set (i := 2) sc_law.nd rfl (.inl rfl) (pe_call (ok__law_ratio T) (hr.mono (by decide)) (by rfl) T.m__law_ratio T.F__law_ratio.kp T.b__law_ratio .nil passL (pa_cons (pe_op op_sub (pe_op op_mul pe_int (pe_call (ok__law_next T) (hr.mono (by decide)) (by rfl) T.m__law_next T.F__law_next.kp T.b__law_next .nil passL (pa_cons (pv 1) (pa_cons pe_int pa_nil)))) pe_int) (pa_cons pe_int pa_nil)))))
  pss_nil)
  (Evl.pss_cut (ps_if (pt_cmpR op_eq (pv 4) pe_int (nomark _))
  (pss_one (ps_set (i := 2) sc_law.nd rfl (.inl rfl) (pe_call (ok__law_ratio T) (hr.mono (by decide)) (by rfl) T.m__law_ratio T.F__law_ratio.kp T.b__law_ratio .nil passL (pa_cons (pe_op op_sub (pe_op op_mul pe_int (pe_call (ok__law_next T) (hr.mono (by decide)) (by rfl) T.m__law_next T.F__law_next.kp T.b__law_next .nil passL (pa_cons (pv 1) (pa_cons (Z.pe_powc (v := 100000) ⟨by decide, by decide, by decide⟩ (by decide)) pa_nil)))) pe_int) (pa_cons pe_int pa_nil)))))
  pss_nil)
  (pss_cons (ps_set (i := 5) sc_law.nd rfl (.inl rfl) (pe_op op_sub (pe_op op_mulW (pe_ix ix_tup (pv 2) pe_int (fun _ _ => rfl)) (pe_ix ix_tup (pv 3) pe_int (fun _ _ => rfl))) (pe_op op_mulW (pe_ix ix_tup (pv 3) pe_int (fun _ _ => rfl)) (pe_ix ix_tup (pv 2) pe_int (fun _ _ => rfl)))))
  (pss_cons (ps_set (i := 6) sc_law.nd rfl (.inl rfl) (pe_op op_sub (pe_callTy Z.c_int (by rfl) T.z_int (by decide +kernel) (pa_cons (pe_cmpR op_gt (pv 5) pe_int (nomark _)) pa_nil)) (pe_callTy Z.c_int (by rfl) T.z_int (by decide +kernel) (pa_cons (pe_cmpR op_lt (pv 5) pe_int (nomark _)) pa_nil))))
  (pss_cons (ps_set (i := 7) sc_law.nd rfl (.inl rfl) (pe_call (ok_compare T) (hr.mono (by decide)) (by rfl) T.m_compare T.F_compare.kp T.b_compare .nil passL (pa_cons (pv 2) (pa_cons (pv 3) pa_nil))))
  (pss_cons (ps_if (PW.pt (pw_or (pt_not (pt_val (pe_call (ok__law_is_integer T) (hr.mono (by decide)) (by rfl) T.m__law_is_integer T.F__law_is_integer.kp T.b__law_is_integer .nil passL (pa_cons (pv 7) pa_nil)))) (pw_or1 (pt_cmpR op_ne (pv 7) (pv 6) (nomark _)))))
  (pss_one (ps_ret pe_bl))
  pss_nil)
  (pss_one (ps_ret (pe_and (pe_cmpR op_eq (pe_call (ok_compare T) (hr.mono (by decide)) (by rfl) T.m_compare T.F_compare.kp T.b_compare .nil passL (pa_cons (pv 3) (pa_cons (pv 2) pa_nil))) (pe_op op_sub pe_int (pv 6)) (nomark _)) (pe_and (pe_call (ok__law_holds T) (hr.mono (by decide)) (by rfl) T.m__law_holds T.F__law_holds.kp T.b__law_holds .nil passL (pa_cons (pv 2) pa_nil)) (pe_one (pe_call (ok__law_holds T) (hr.mono (by decide)) (by rfl) T.m__law_holds T.F__law_holds.kp T.b__law_holds .nil passL (pa_cons (pv 3) pa_nil)))))))))))))))))), ?_⟩
  walk_at "z"
  refine ⟨l, ns, 0, rfl, hS, fun v => ?_⟩
  walk_at "z"
  refine ⟨v, rfl, fun p a b m hp => ?_⟩
  have S0 := Sd.mk0 (a := a) (b := b) (m := m) hp
  generalize upd H p (.lst [.int a, .int b, .int m]) = H1 at S0 ⊢
  walk_at "z"
  refine ⟨p, H, rfl, S0, fun na da pa H2 da0 na1 da1 S2 hpa K2 => ?_⟩
  have A2 : Nb H2 pa na da := ⟨hpa, da0, na1, da1⟩
  walk_at "z"
  refine ⟨l, ns, 1, rfl, S2.same.seq hS, fun v2 => ?_⟩
  walk_at "z"
  refine ⟨v2, rfl, fun p2 a2 b2 m2 hp2 => ?_⟩
  have S3 := Sd.mk0 (a := a2) (b := b2) (m := m2) hp2
  have s3 : Same H2 (upd H2 p2 (.lst [.int a2, .int b2, .int m2])) := same_upd hp2
  have S3p := S2.ext (o := .lst [.int a2, .int b2, .int m2]) hp2
  generalize upd H2 p2 (.lst [.int a2, .int b2, .int m2]) = H3 at S3 S3p s3 ⊢
  walk_at "z"
  refine ⟨p2, H2, rfl, S3, fun nb db pb H4 db0 nb1 db1 S4 hpb K4 => ?_⟩
  have A4 : Nb H4 pa na da := A2.mono S4.same
  have B4 : Nb H4 pb nb db := ⟨hpb, db0, nb1, db1⟩
  have S5 : Sd H H4 p := by
    obtain ⟨x, y, z, e⟩ := S2.stm
    exact ⟨S2.same.trans S4.same, S2.fresh, x, y, z, S4.same _ _ e⟩
  walk_at "z"
  refine nx S5 (by decide) (lt1000 (by decide)) fun kind H6 k0 k1 S6 e6 => ?_
  have A6 := A4.kp S5 (Kp.eq e6)
  have B6 := B4.kp S5 (Kp.eq e6)
  clear A4 B4 S5 e6 K4 S4 hpb S3 S3p s3 K2 hpa A2 S2 S0
  walk_at "z"
  let W : L2.St → Hp → Prop := fun σ H' => ∃ (na da nb db : Int) (pa pb : Addr), σ = [some (.ref l), some (.ref p), some (.ref pa), some (.ref pb), some (.int kind), none, none, none] ∧ Nb H' pa na da ∧ Nb H' pb nb db ∧ Sd H H' p
  have made : ∀ {n d : Int} {H' : Hp} {p1 : Addr}, H' p1 = none → d ≠ 0 → n.natAbs < 2 ^ 100 → d.natAbs < 2 ^ 100 → Nb (upd H' p1 (.tup [.int (rn n d), .int (rd n d)])) p1 (rn n d) (rd n d) := fun {n d H' p1} _ h0 hn hd =>
    ⟨upd_same, rd_pos h0, Nat.lt_of_le_of_lt (rn_abs _ _) hn, Nat.lt_of_le_of_lt (rd_abs _ _) hd⟩
  refine z_cut W ?_ ?_
  · walk_at "z"
    refine z_if (fun c => ?_) (fun c => ?_)
    · walk_at "z"
      refine z_ixT (.inl (.inl A6.1)) rfl ?_
      walk_at "z"
      refine z_ixT (.inl (.inl A6.1)) rfl ?_
      walk_at "z"
      refine ⟨na, da, rfl, by have := A6.2.1; omega, lt400 A6.2.2.1, lt400 A6.2.2.2, fun p1 hp1 => ?_⟩
      exact ⟨_, _, _, _, _, _, rfl, A6.mono (same_upd hp1), made hp1 (by have := A6.2.1; omega) A6.2.2.1 A6.2.2.2, S6.ext hp1⟩
    · walk_at "z"
      exact ⟨_, _, _, _, _, _, rfl, A6, B6, S6⟩
  rintro σ' H6 ⟨na, da, nb, db, pa, pb, rfl, A6, B6, S6⟩
  refine z_cut W ?_ ?_
  · walk_at "z"
    refine z_if (fun c => ?_) (fun c => ?_)
    · walk_at "z"
      refine nx S6 (by decide) (lt1000 (by decide)) fun x H7 x0 x1 S7 e7 => ?_
      walk_at "z"
      refine ⟨_, _, rfl, by decide, lt400 (by omega), lt400 (by decide), fun p1 hp1 => ?_⟩
      exact ⟨_, _, _, _, _, _, rfl, made hp1 (by decide) (by omega) (by decide), (B6.kp S6 (Kp.eq e7)).mono (same_upd hp1), S7.ext hp1⟩
    · walk_at "z"
      exact ⟨_, _, _, _, _, _, rfl, A6, B6, S6⟩
  rintro σ' H6 ⟨na, da, nb, db, pa, pb, rfl, A6, B6, S6⟩
  refine z_cut W ?_ ?_
  · walk_at "z"
    refine z_if (fun c => ?_) (fun c => ?_)
    · walk_at "z"
      refine nx S6 (by decide) (lt1000 (by decide)) fun x H7 x0 x1 S7 e7 => ?_
      walk_at "z"
      refine ⟨_, _, rfl, by decide, lt400 (by omega), lt400 (by decide), fun p1 hp1 => ?_⟩
      exact ⟨_, _, _, _, _, _, rfl, made hp1 (by decide) (by omega) (by decide), (B6.kp S6 (Kp.eq e7)).mono (same_upd hp1), S7.ext hp1⟩
    · walk_at "z"
      exact ⟨_, _, _, _, _, _, rfl, A6, B6, S6⟩
  rintro σ' H6 ⟨na, da, nb, db, pa, pb, rfl, A6, B6, S6⟩
  have hA := A6.1
  have hB := B6.1
  walk_at "z"
  refine z_I (wide_mul A6.2.2.1 B6.2.2.2 (by decide) (by decide) (by decide)) ?_
  walk_at "z"
  refine z_I (wide_mul B6.2.2.1 A6.2.2.2 (by decide) (by decide) (by decide)) ?_
  walk_at "z"
  refine ⟨_, _, na, da, nb, db, rfl, A6.is, B6.is, ?_⟩
  walk_at "z"
  generalize hx : na * db - nb * da = x
  have e1 : ((if decide (0 < x) = true then (1 : Int) else 0) - (if decide (x < 0) = true then (1 : Int) else 0)) = sgn x := by
    unfold sgn
    by_cases h1 : 0 < x
    · simp [h1, show ¬ x < 0 by omega]
    · by_cases h2 : x < 0 <;> simp [h1, h2]
  have e2 : sgn (nb * da - na * db) = 0 - sgn x := by
    rw [show nb * da - na * db = -x by omega]
    unfold sgn
    by_cases h1 : 0 < x
    · simp [h1, show ¬ x < 0 by omega, show ¬ -x > 0 by omega]
    · by_cases h2 : x < 0
      · simp [h2, h1]
      · simp [h1, h2]
  rw [e1]
  refine z_if (fun c => absurd rfl c) (fun _ => ?_)
  walk_at "z"
  refine ⟨_, _, nb, db, na, da, rfl, B6.is, A6.is, ?_⟩
  walk_at "z"
  rw [e2]
  refine z_if (fun _ => ?_) (fun c => absurd rfl c)
  walk_at "z"
  refine ⟨_, na, da, rfl, A6.is, A6.2.2.1, A6.2.2.2, fun H7 s7 => ?_⟩
  walk_at "z"
  refine ⟨_, nb, db, rfl, (B6.mono s7).is, B6.2.2.1, B6.2.2.2, fun H8 s8 => ?_⟩
  walk_at "z"
  exact q _
end

theorem all_mk {l : PySem.W.OpenLaw} {w : World} {K : PySem.W.Frag} {h : Heap} {mg : Str → Option Value} {fa : Addr} (X : K.In h) (G : h.Ns mainGlobals mg) (hfa : mg "law" = some (.ref fa))
    {a0 : Addr} {od0 an0 : Option Addr} {sl0 : Array (Option Value)} {oc0 kV0 dc0 pm0 cd0 ct0 : Value} {a1 : Addr} {od1 an1 : Option Addr} {sl1 : Array (Option Value)} {oc1 kV1 dc1 pm1 cd1 ct1 : Value} {a2 : Addr} {od2 an2 : Option Addr} {sl2 : Array (Option Value)} {oc2 kV2 dc2 pm2 cd2 ct2 : Value} {a3 : Addr} {od3 an3 : Option Addr} {sl3 : Array (Option Value)} {oc3 kV3 dc3 pm3 cd3 ct3 : Value} {a4 : Addr} {od4 an4 : Option Addr} {sl4 : Array (Option Value)} {oc4 kV4 dc4 pm4 cd4 ct4 : Value} {a5 : Addr} {od5 an5 : Option Addr} {sl5 : Array (Option Value)} {oc5 kV5 dc5 pm5 cd5 ct5 : Value} {a6 : Addr} {od6 an6 : Option Addr} {sl6 : Array (Option Value)} {oc6 kV6 dc6 pm6 cd6 ct6 : Value} {a7 : Addr} {od7 an7 : Option Addr} {sl7 : Array (Option Value)} {oc7 kV7 dc7 pm7 cd7 ct7 : Value} {a8 : Addr} {od8 an8 : Option Addr} {sl8 : Array (Option Value)} {oc8 kV8 dc8 pm8 cd8 ct8 : Value} {a9 : Addr} {od9 an9 : Option Addr} {sl9 : Array (Option Value)} {oc9 kV9 dc9 pm9 cd9 ct9 : Value} {a10 : Addr} {od10 an10 : Option Addr} {sl10 : Array (Option Value)} {oc10 kV10 dc10 pm10 cd10 ct10 : Value} {a11 : Addr} {od11 an11 : Option Addr} {sl11 : Array (Option Value)} {oc11 kV11 dc11 pm11 cd11 ct11 : Value} {a12 : Addr} {od12 an12 : Option Addr} {sl12 : Array (Option Value)} {oc12 kV12 dc12 pm12 cd12 ct12 : Value}
    (n0 : PySem.W.nsIn K mainGlobals "compare" = some (some (.ref a0)))
    (l0 : K.lookup a0 = some ⟨oc0, od0, .func (PySem.W.fnOf "compare" "compare" (defArgs s_compare) (defBody s_compare) (defScope s_compare) .none kV0 dc0 pm0 an0 cd0 ct0), sl0⟩)
    (c0 : PySem.W.codeIn K cd0 "compare" = true) (k0 : PySem.W.keepIn K (.ref a0) = true)
    (n1 : PySem.W.nsIn K mainGlobals "floor_of" = some (some (.ref a1)))
    (l1 : K.lookup a1 = some ⟨oc1, od1, .func (PySem.W.fnOf "floor_of" "floor_of" (defArgs s_floor_of) (defBody s_floor_of) (defScope s_floor_of) .none kV1 dc1 pm1 an1 cd1 ct1), sl1⟩)
    (c1 : PySem.W.codeIn K cd1 "floor_of" = true) (k1 : PySem.W.keepIn K (.ref a1) = true)
    (n2 : PySem.W.nsIn K mainGlobals "nearest" = some (some (.ref a2)))
    (l2 : K.lookup a2 = some ⟨oc2, od2, .func (PySem.W.fnOf "nearest" "nearest" (defArgs s_nearest) (defBody s_nearest) (defScope s_nearest) .none kV2 dc2 pm2 an2 cd2 ct2), sl2⟩)
    (c2 : PySem.W.codeIn K cd2 "nearest" = true) (k2 : PySem.W.keepIn K (.ref a2) = true)
    (n3 : PySem.W.nsIn K mainGlobals "sixty_fourths" = some (some (.ref a3)))
    (l3 : K.lookup a3 = some ⟨oc3, od3, .func (PySem.W.fnOf "sixty_fourths" "sixty_fourths" (defArgs s_sixty_fourths) (defBody s_sixty_fourths) (defScope s_sixty_fourths) .none kV3 dc3 pm3 an3 cd3 ct3), sl3⟩)
    (c3 : PySem.W.codeIn K cd3 "sixty_fourths" = true) (k3 : PySem.W.keepIn K (.ref a3) = true)
    (n4 : PySem.W.nsIn K mainGlobals "_law_cell" = some (some (.ref a4)))
    (l4 : K.lookup a4 = some ⟨oc4, od4, .func (PySem.W.fnOf "_law_cell" "_law_cell" (defArgs s__law_cell) (defBody s__law_cell) (defScope s__law_cell) .none kV4 dc4 pm4 an4 cd4 ct4), sl4⟩)
    (c4 : PySem.W.codeIn K cd4 "_law_cell" = true) (k4 : PySem.W.keepIn K (.ref a4) = true)
    (n5 : PySem.W.nsIn K mainGlobals "_law_stream" = some (some (.ref a5)))
    (l5 : K.lookup a5 = some ⟨oc5, od5, .func (PySem.W.fnOf "_law_stream" "_law_stream" (defArgs s__law_stream) (defBody s__law_stream) (defScope s__law_stream) .none kV5 dc5 pm5 an5 cd5 ct5), sl5⟩)
    (c5 : PySem.W.codeIn K cd5 "_law_stream" = true) (k5 : PySem.W.keepIn K (.ref a5) = true)
    (n6 : PySem.W.nsIn K mainGlobals "_law_next" = some (some (.ref a6)))
    (l6 : K.lookup a6 = some ⟨oc6, od6, .func (PySem.W.fnOf "_law_next" "_law_next" (defArgs s__law_next) (defBody s__law_next) (defScope s__law_next) .none kV6 dc6 pm6 an6 cd6 ct6), sl6⟩)
    (c6 : PySem.W.codeIn K cd6 "_law_next" = true) (k6 : PySem.W.keepIn K (.ref a6) = true)
    (n7 : PySem.W.nsIn K mainGlobals "_law_is_integer" = some (some (.ref a7)))
    (l7 : K.lookup a7 = some ⟨oc7, od7, .func (PySem.W.fnOf "_law_is_integer" "_law_is_integer" (defArgs s__law_is_integer) (defBody s__law_is_integer) (defScope s__law_is_integer) .none kV7 dc7 pm7 an7 cd7 ct7), sl7⟩)
    (c7 : PySem.W.codeIn K cd7 "_law_is_integer" = true) (k7 : PySem.W.keepIn K (.ref a7) = true)
    (n8 : PySem.W.nsIn K mainGlobals "_law_ratio" = some (some (.ref a8)))
    (l8 : K.lookup a8 = some ⟨oc8, od8, .func (PySem.W.fnOf "_law_ratio" "_law_ratio" (defArgs s__law_ratio) (defBody s__law_ratio) (defScope s__law_ratio) .none kV8 dc8 pm8 an8 cd8 ct8), sl8⟩)
    (c8 : PySem.W.codeIn K cd8 "_law_ratio" = true) (k8 : PySem.W.keepIn K (.ref a8) = true)
    (n9 : PySem.W.nsIn K mainGlobals "_law_is_number" = some (some (.ref a9)))
    (l9 : K.lookup a9 = some ⟨oc9, od9, .func (PySem.W.fnOf "_law_is_number" "_law_is_number" (defArgs s__law_is_number) (defBody s__law_is_number) (defScope s__law_is_number) .none kV9 dc9 pm9 an9 cd9 ct9), sl9⟩)
    (c9 : PySem.W.codeIn K cd9 "_law_is_number" = true) (k9 : PySem.W.keepIn K (.ref a9) = true)
    (n10 : PySem.W.nsIn K mainGlobals "_law_drawn" = some (some (.ref a10)))
    (l10 : K.lookup a10 = some ⟨oc10, od10, .func (PySem.W.fnOf "_law_drawn" "_law_drawn" (defArgs s__law_drawn) (defBody s__law_drawn) (defScope s__law_drawn) .none kV10 dc10 pm10 an10 cd10 ct10), sl10⟩)
    (c10 : PySem.W.codeIn K cd10 "_law_drawn" = true) (k10 : PySem.W.keepIn K (.ref a10) = true)
    (n11 : PySem.W.nsIn K mainGlobals "_law_holds" = some (some (.ref a11)))
    (l11 : K.lookup a11 = some ⟨oc11, od11, .func (PySem.W.fnOf "_law_holds" "_law_holds" (defArgs s__law_holds) (defBody s__law_holds) (defScope s__law_holds) .none kV11 dc11 pm11 an11 cd11 ct11), sl11⟩)
    (c11 : PySem.W.codeIn K cd11 "_law_holds" = true) (k11 : PySem.W.keepIn K (.ref a11) = true)
    (n12 : PySem.W.nsIn K mainGlobals "law" = some (some (.ref a12)))
    (l12 : K.lookup a12 = some ⟨oc12, od12, .func (PySem.W.fnOf "law" "law" (defArgs s_law) (defBody s_law) (defScope s_law) .none kV12 dc12 pm12 an12 cd12 ct12), sl12⟩)
    (c12 : PySem.W.codeIn K cd12 "law" = true) (k12 : PySem.W.keepIn K (.ref a12) = true)
    (z_abs : PySem.W.nsIn K mainGlobals "abs" = some none)
    (z_bool : PySem.W.nsIn K mainGlobals "bool" = some none)
    (z_int : PySem.W.nsIn K mainGlobals "int" = some none)
    (z_isinstance : PySem.W.nsIn K mainGlobals "isinstance" = some none)
    (z_len : PySem.W.nsIn K mainGlobals "len" = some none)
    (z_range : PySem.W.nsIn K mainGlobals "range" = some none)
    (z_tuple : PySem.W.nsIn K mainGlobals "tuple" = some none)
    : ∃ fd : FuncData, (∀ (s : Shared) (v : Value), BindsTo s fd ⟨[v], []⟩ [("script", v)]) ∧ ∀ base : Heap, K.In base → base.Ns mainGlobals mg → FnOk l.prog w K mg base CX0 4 fa fd ["script"] (sp_law K) := by
  have e := hfa.symm.trans (PySem.W.mg_of X G n12)
  cases e
  have F0 := fun_mk (st := s_compare) l0 c0 k0
  have b0 := F0.binds (ps := ["a", "b"]) fun _ _ _ _ _ _ us hl => match us, hl with | [_, _], _ => rfl
  have F1 := fun_mk (st := s_floor_of) l1 c1 k1
  have b1 := F1.binds (ps := ["a"]) fun _ _ _ _ _ _ us hl => match us, hl with | [_], _ => rfl
  have F2 := fun_mk (st := s_nearest) l2 c2 k2
  have b2 := F2.binds (ps := ["a"]) fun _ _ _ _ _ _ us hl => match us, hl with | [_], _ => rfl
  have F3 := fun_mk (st := s_sixty_fourths) l3 c3 k3
  have b3 := F3.binds (ps := ["a"]) fun _ _ _ _ _ _ us hl => match us, hl with | [_], _ => rfl
  have F4 := fun_mk (st := s__law_cell) l4 c4 k4
  have b4 := F4.binds (ps := ["script", "k"]) fun _ _ _ _ _ _ us hl => match us, hl with | [_, _], _ => rfl
  have F5 := fun_mk (st := s__law_stream) l5 c5 k5
  have b5 := F5.binds (ps := ["cell"]) fun _ _ _ _ _ _ us hl => match us, hl with | [_], _ => rfl
  have F6 := fun_mk (st := s__law_next) l6 c6 k6
  have b6 := F6.binds (ps := ["stream", "size"]) fun _ _ _ _ _ _ us hl => match us, hl with | [_, _], _ => rfl
  have F7 := fun_mk (st := s__law_is_integer) l7 c7 k7
  have b7 := F7.binds (ps := ["actual"]) fun _ _ _ _ _ _ us hl => match us, hl with | [_], _ => rfl
  have F8 := fun_mk (st := s__law_ratio) l8 c8 k8
  have b8 := F8.binds (ps := ["n", "d"]) fun _ _ _ _ _ _ us hl => match us, hl with | [_, _], _ => rfl
  have F9 := fun_mk (st := s__law_is_number) l9 c9 k9
  have b9 := F9.binds (ps := ["actual"]) fun _ _ _ _ _ _ us hl => match us, hl with | [_], _ => rfl
  have F10 := fun_mk (st := s__law_drawn) l10 c10 k10
  have b10 := F10.binds (ps := ["stream"]) fun _ _ _ _ _ _ us hl => match us, hl with | [_], _ => rfl
  have F11 := fun_mk (st := s__law_holds) l11 c11 k11
  have b11 := F11.binds (ps := ["a"]) fun _ _ _ _ _ _ us hl => match us, hl with | [_], _ => rfl
  have F12 := fun_mk (st := s_law) l12 c12 k12
  have b12 := F12.binds (ps := ["script"]) fun _ _ _ _ _ _ us hl => match us, hl with | [_], _ => rfl
  let A : Nat → Addr := fun | 0 => a0 | 1 => a1 | 2 => a2 | 3 => a3 | 4 => a4 | 5 => a5 | 6 => a6 | 7 => a7 | 8 => a8 | 9 => a9 | 10 => a10 | 11 => a11 | 12 => fa | _ => 0
  let D : Nat → FuncData := fun | 0 => PySem.W.fnOf "compare" "compare" (defArgs s_compare) (defBody s_compare) (defScope s_compare) .none kV0 dc0 pm0 an0 cd0 ct0 | 1 => PySem.W.fnOf "floor_of" "floor_of" (defArgs s_floor_of) (defBody s_floor_of) (defScope s_floor_of) .none kV1 dc1 pm1 an1 cd1 ct1 | 2 => PySem.W.fnOf "nearest" "nearest" (defArgs s_nearest) (defBody s_nearest) (defScope s_nearest) .none kV2 dc2 pm2 an2 cd2 ct2 | 3 => PySem.W.fnOf "sixty_fourths" "sixty_fourths" (defArgs s_sixty_fourths) (defBody s_sixty_fourths) (defScope s_sixty_fourths) .none kV3 dc3 pm3 an3 cd3 ct3 | 4 => PySem.W.fnOf "_law_cell" "_law_cell" (defArgs s__law_cell) (defBody s__law_cell) (defScope s__law_cell) .none kV4 dc4 pm4 an4 cd4 ct4 | 5 => PySem.W.fnOf "_law_stream" "_law_stream" (defArgs s__law_stream) (defBody s__law_stream) (defScope s__law_stream) .none kV5 dc5 pm5 an5 cd5 ct5 | 6 => PySem.W.fnOf "_law_next" "_law_next" (defArgs s__law_next) (defBody s__law_next) (defScope s__law_next) .none kV6 dc6 pm6 an6 cd6 ct6 | 7 => PySem.W.fnOf "_law_is_integer" "_law_is_integer" (defArgs s__law_is_integer) (defBody s__law_is_integer) (defScope s__law_is_integer) .none kV7 dc7 pm7 an7 cd7 ct7 | 8 => PySem.W.fnOf "_law_ratio" "_law_ratio" (defArgs s__law_ratio) (defBody s__law_ratio) (defScope s__law_ratio) .none kV8 dc8 pm8 an8 cd8 ct8 | 9 => PySem.W.fnOf "_law_is_number" "_law_is_number" (defArgs s__law_is_number) (defBody s__law_is_number) (defScope s__law_is_number) .none kV9 dc9 pm9 an9 cd9 ct9 | 10 => PySem.W.fnOf "_law_drawn" "_law_drawn" (defArgs s__law_drawn) (defBody s__law_drawn) (defScope s__law_drawn) .none kV10 dc10 pm10 an10 cd10 ct10 | 11 => PySem.W.fnOf "_law_holds" "_law_holds" (defArgs s__law_holds) (defBody s__law_holds) (defScope s__law_holds) .none kV11 dc11 pm11 an11 cd11 ct11 | _ => PySem.W.fnOf "law" "law" (defArgs s_law) (defBody s_law) (defScope s_law) .none kV12 dc12 pm12 an12 cd12 ct12
  have T : Txt K mg A D :=
    {F_compare := F0,
     m_compare := PySem.W.mg_of X G n0,
     b_compare := b0,
     F_floor_of := F1,
     m_floor_of := PySem.W.mg_of X G n1,
     b_floor_of := b1,
     F_nearest := F2,
     m_nearest := PySem.W.mg_of X G n2,
     b_nearest := b2,
     F_sixty_fourths := F3,
     m_sixty_fourths := PySem.W.mg_of X G n3,
     b_sixty_fourths := b3,
     F__law_cell := F4,
     m__law_cell := PySem.W.mg_of X G n4,
     b__law_cell := b4,
     F__law_stream := F5,
     m__law_stream := PySem.W.mg_of X G n5,
     b__law_stream := b5,
     F__law_next := F6,
     m__law_next := PySem.W.mg_of X G n6,
     b__law_next := b6,
     F__law_is_integer := F7,
     m__law_is_integer := PySem.W.mg_of X G n7,
     b__law_is_integer := b7,
     F__law_ratio := F8,
     m__law_ratio := PySem.W.mg_of X G n8,
     b__law_ratio := b8,
     F__law_is_number := F9,
     m__law_is_number := PySem.W.mg_of X G n9,
     b__law_is_number := b9,
     F__law_drawn := F10,
     m__law_drawn := PySem.W.mg_of X G n10,
     b__law_drawn := b10,
     F__law_holds := F11,
     m__law_holds := PySem.W.mg_of X G n11,
     b__law_holds := b11,
     F_law := F12,
     m_law := PySem.W.mg_of X G n12,
     b_law := b12,
     z_abs := PySem.W.mg_none_of X G z_abs,
     z_bool := PySem.W.mg_none_of X G z_bool,
     z_int := PySem.W.mg_none_of X G z_int,
     z_isinstance := PySem.W.mg_none_of X G z_isinstance,
     z_len := PySem.W.mg_none_of X G z_len,
     z_range := PySem.W.mg_none_of X G z_range,
     z_tuple := PySem.W.mg_none_of X G z_tuple}
  exact ⟨_, fun s v => .of_eq rfl, fun base _ _ => ok_law T⟩
end G
open PySem PySem.W PyProof.Rows
set_option maxRecDepth 100000 in
set_option maxHeartbeats 0 in
theorem PySem.Challenge.cw_fontwinding_k03_order_and_rounding_holds : PySem.Challenge.rw_fontwinding_k03_order_and_rounding.Holds := by
  w_on; o_law; k_head; (case hw => w_witness2)
  k_fill
  refine L2.walk_of (l := PySem.Challenge.rw_fontwinding_k03_order_and_rounding) (n := 63) (k := 4) (x := "script") (CX := fun _ => L2.CX0) (sp := fun w => G.sp_law _) rfl (by decide) rfl ⟨rfl, by decide, by decide⟩ (fun w h Y => PySem.W.kIn_of Y) ?F (fun _ _ a ns hl _ hS => ⟨a, ns, rfl, hS, hl, fun _ => rfl⟩) (fun _ _ _ _ _ h => h)
  case F =>
    intro w mg fa h KX G0 hmg
    refine' G.all_mk KX G0 hmg ?n0 ?l0 ?c0 ?k0 ?n1 ?l1 ?c1 ?k1 ?n2 ?l2 ?c2 ?k2 ?n3 ?l3 ?c3 ?k3 ?n4 ?l4 ?c4 ?k4 ?n5 ?l5 ?c5 ?k5 ?n6 ?l6 ?c6 ?k6 ?n7 ?l7 ?c7 ?k7 ?n8 ?l8 ?c8 ?k8 ?n9 ?l9 ?c9 ?k9 ?n10 ?l10 ?c10 ?k10 ?n11 ?l11 ?c11 ?k11 ?n12 ?l12 ?c12 ?k12 ?z_abs ?z_bool ?z_int ?z_isinstance ?z_len ?z_range ?z_tuple
    (case n0 => k_is)
    (case l0 => k_is)
    (case c0 => k_is)
    (case k0 => k_is)
    (case n1 => k_is)
    (case l1 => k_is)
    (case c1 => k_is)
    (case k1 => k_is)
    (case n2 => k_is)
    (case l2 => k_is)
    (case c2 => k_is)
    (case k2 => k_is)
    (case n3 => k_is)
    (case l3 => k_is)
    (case c3 => k_is)
    (case k3 => k_is)
    (case n4 => k_is)
    (case l4 => k_is)
    (case c4 => k_is)
    (case k4 => k_is)
    (case n5 => k_is)
    (case l5 => k_is)
    (case c5 => k_is)
    (case k5 => k_is)
    (case n6 => k_is)
    (case l6 => k_is)
    (case c6 => k_is)
    (case k6 => k_is)
    (case n7 => k_is)
    (case l7 => k_is)
    (case c7 => k_is)
    (case k7 => k_is)
    (case n8 => k_is)
    (case l8 => k_is)
    (case c8 => k_is)
    (case k8 => k_is)
    (case n9 => k_is)
    (case l9 => k_is)
    (case c9 => k_is)
    (case k9 => k_is)
    (case n10 => k_is)
    (case l10 => k_is)
    (case c10 => k_is)
    (case k10 => k_is)
    (case n11 => k_is)
    (case l11 => k_is)
    (case c11 => k_is)
    (case k11 => k_is)
    (case n12 => k_is)
    (case l12 => k_is)
    (case c12 => k_is)
    (case k12 => k_is)
    (case z_abs => k_is)
    (case z_bool => k_is)
    (case z_int => k_is)
    (case z_isinstance => k_is)
    (case z_len => k_is)
    (case z_range => k_is)
    (case z_tuple => k_is)
