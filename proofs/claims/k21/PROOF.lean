import PyProof.Rows.All
import Wide.All
import OpenK.AllK
import Wide.FinOn
import HandS.ForMost
import HandS.ForExc
import HandS.Wide
import HandS.Gcd
import HandS.IsInst
import HandS.ExcIs
import HandS.TryMany
import HandS.Evl
import HandS.Style
import PySem.Challenge.RW_fontwinding_k21_outline_of_a_path
set_option Elab.async false
set_option linter.all false
set_option maxRecDepth 100000
set_option maxHeartbeats 4000000
namespace Z
open PySem PySem.Spec PyProof.Rows L2

/-! ### operators -/
section
variable {X : Cx}
def CFd (_ j : Int) : Prop := j ≠ 0 ∧ j.natAbs.log2 < 9000
theorem op_fdivZ : OpR X (binaryOp .FloorDiv) (rI CFd fun i j => .int (i.fdiv j)) := opI fun i j _ _ _ _ _ hc q => floordiv_int hc.1 q (.inl (PyProof.noPylong_of_log2 hc.2))
theorem pe_globE {x : Str} {pos : Pos} {v : V} (h : ∃ u, X.mg x = some u ∧ RelV v u) (hg : Gl X x := by rfl) (hdb : (x == ("__debug__" : Str)) = false := by decide) : PE X (.Name x pos) (tC v) := by
  obtain ⟨u, h1, h2⟩ := h
  exact pe_glob hg h1 h2 hdb
theorem pe_globR {x : Str} {pos : Pos} {a : Addr} (h : X.mg x = some (.ref a)) (hg : Gl X x := by rfl) (hdb : (x == ("__debug__" : Str)) = false := by decide) : PE X (.Name x pos) (tC (.ref a)) := pe_glob hg h rfl hdb
end
/-- an own error class over ValueError -/
structure ExcX (K : PySem.W.Frag) (mg : Str → Option Value) (x : Str) (C : Addr) : Prop where
  g : mg x = some (.ref C)
  q : PySem.W.excIn K C [.type "ValueError", .type "Exception", .type "BaseException", .type "object"] "ValueError.__new__" = true
  k : PySem.W.keepIn K (.ref C) = true
  t : PySem.W.typeIn K (.ref C) = some (.type "type")
  c : ExcC K C
  v : PySem.W.subIn K (.ref C) (.type "ValueError") = some true
section
variable {X : Cx} {C D : Addr} {K : PySem.W.Frag} {mg : Str → Option Value} {x y : Str} {b : Bool}
theorem pmk {m : Str} {j : Nat} {p p2 pos : Pos} (E : ExcX X.K X.mg x C) (hg : Gl X x) (hdb : (x == ("__debug__" : Str)) = false := by decide) :
    PMk X (.Call (.Name x p) [.Constant (.str m) j p2] [] pos) (fun _ H Q => Q (.ref C) none H) := pmk_own PySem.F.excBase_ValueError E.q E.g E.k (raises_own E.c.hs E.t) hg hdb
theorem exm (E : ExcX K mg x C) (h : PySem.W.subIn K (.ref D) (.ref C) = some b) : PySem.W.exmOne K (.ref D) (.ref C) = some b := PySem.W.exm_ref E.c.hs E.c.hd E.t h
theorem kit_own (E : ExcX K mg x C) (h : PySem.W.subIn K (.ref D) (.ref C) = some b) (hs : PySem.W.subIn K (.ref C) (.ref C) = some true) : PySem.W.kitOne K (.ref D) (.ref C) = some b := by
  unfold PySem.W.kitOne
  by_cases e : D = C
  · subst e
    rw [hs] at h
    cases h
    rw [if_pos (by simp)]
  · rw [if_neg (by simpa using e)]
    unfold PySem.W.kitCls
    obtain ⟨cd, hc, _⟩ := PySem.W.any_some E.c.hd
    have e2 : ((PySem.W.clsIn K C).isSome && PySem.W.typeIn K (.ref C) == some (.type "type")) = true := by rw [hc, E.t] <;> rfl
    show (if _ then _ else _) = _
    rw [if_pos e2, h]
theorem kit_ve (E : ExcX K mg x D) : PySem.W.kitOne K (.ref D) (.type "ValueError") = some true := by
  unfold PySem.W.kitOne
  rw [if_neg (by simp)]
  unfold PySem.W.kitCls
  show (if _ then _ else _) = _
  rw [if_pos (by decide +kernel), E.v]
/-- isinstance of the error that a suite holds -/
def rIsEx (K : PySem.W.Frag) (cls : Value) (d : Option Addr) (a : Addr) : List V → Hp → VK → Prop := fun xs H Q => ∃ D, cls = .ref D ∧ d = none ∧ ExcC K D ∧ rIsE K D a xs H Q
theorem call_isE {a : Addr} {oe : Obj} {cls : Value} {d : Option Addr} {pn : List (Addr × Obj)} (hz : Zc cls d oe) (hf : ∃ vs, oe.data = .fields vs) : CallR (X.suite a ((a, oe) :: pn)) (.builtin "isinstance") (rIsEx X.K cls d a) := by
  intro pins s σ H xs us Q I r h
  obtain ⟨D, e1, e2, c, h⟩ := h
  subst e1
  subst e2
  exact L2.call_isE c hz hf pins s σ H xs us Q I r h
end

/-! ### heaps -/
theorem same_upd {H : Hp} {p : Addr} {o : HO} (h : H p = none) : Same H (upd H p o) := fun b x e => by
  rw [upd_ne (ne_of_none e h)]
  exact e
theorem Same.seqT {K : PySem.W.Frag} {H H' : Hp} {a : Addr} {xs : List V} (e : Same H H') (h : SqT K H a xs) : SqT K H' a xs := by
  rcases h with (h | ⟨o, h⟩) | h
  · exact .inl (.inl (e _ _ h))
  · exact .inl (.inr ⟨o, e _ _ h⟩)
  · exact .inr h
theorem seqT {K : PySem.W.Frag} {H H' : Hp} {a : Addr} {xs : List V} (e : Same H H') (h : SqT K H a xs) : SqT K H' a xs := Same.seqT e h
theorem sz {n : Nat} (h : n ≤ 1000) : n ≤ sizeLine := Nat.le_trans h (by decide)

/-! ### readings, step by step -/
def NewT (Q : VK) : List V → Hp → Prop := fun xs H1 => xs.length ≤ sizeLine ∧ ∀ p, H1 p = none → Q (.ref p) (upd H1 p (.tup xs))
def NewL (Q : VK) : List V → Hp → Prop := fun xs H1 => xs.length ≤ sizeLine ∧ ∀ p, H1 p = none → Q (.ref p) (upd H1 p (.lst xs))
section
variable {σ : L2.St} {H : Hp} {n : L2.St → Hp → Prop} {r : VK} {b c : L2.St → Hp → Prop} {t u : TS} {te ta tb : TE} {tt tu : TT} {Q : VK} {QB : Bool → Hp → Prop} {v w x y : V} {i j : Int} {K : PySem.W.Frag}
theorem z_seq (h : t ⟨u ⟨n, r, b, c⟩, r, b, c⟩ σ H) : tSeq t u ⟨n, r, b, c⟩ σ H := h
theorem z_asg {k : Nat} (h : te σ H fun x H1 => n (σ.set k (some x)) H1) : tAsg te (gName k) ⟨n, r, b, c⟩ σ H := h
theorem z_asgS {to ti : TE} {st : TSet} (h : te σ H fun v H0 => to σ H0 fun o H1 => ti σ H1 fun k H2 => st o k v H2 fun H3 => n σ H3) : tAsg te (gSub to ti st) ⟨n, r, b, c⟩ σ H := h
theorem z_drop (h : te σ H fun _ H1 => n σ H1) : tDrop te ⟨n, r, b, c⟩ σ H := h
theorem z_ret (h : te σ H r) : tRet te ⟨n, r, b, c⟩ σ H := h
theorem z_retN (h : r .non H) : tRetN ⟨n, r, b, c⟩ σ H := h
theorem z_next (h : n σ H) : tNext ⟨n, r, b, c⟩ σ H := h
theorem z_brk (h : b σ H) : tBreak ⟨n, r, b, c⟩ σ H := h
theorem z_cont (h : c σ H) : tCont ⟨n, r, b, c⟩ σ H := h
theorem z_ifs (h : tt σ H fun k H1 => if k = true then t ⟨n, r, b, c⟩ σ H1 else u ⟨n, r, b, c⟩ σ H1) : tIfS tt t u ⟨n, r, b, c⟩ σ H := h
theorem z_par {p q : Nat} {tl : TA} (h : tl σ H fun vs H1 => ∃ v w, vs = [v, w] ∧ n ((σ.set p (some v)).set q (some w)) H1) : tPar p q tl ⟨n, r, b, c⟩ σ H := h
theorem z_two {R : V → V → Prop} (h : R v w) : ∃ v' w', [v, w] = [v', w'] ∧ R v' w' := ⟨v, w, rfl, h⟩
theorem z_aug {k : Nat} {ti : TIp} (h : σ[k]? = some (some x)) (q : te σ H fun y H1 => ti x y H1 fun z H2 => n (σ.set k (some z)) H2) : tAug k te ti ⟨n, r, b, c⟩ σ H := ⟨x, h, q⟩
theorem z_ipI {f : Int → Int → Int} (q : Q (.int (f i j)) H) : ipI f (.int i) (.int j) H Q := ⟨i, j, rfl, rfl, q⟩
theorem z_var {k : Nat} (h : σ[k]? = some (some v)) (q : Q v H) : tVar k σ H Q := ⟨v, h, q⟩
theorem z_c (q : Q v H) : tC v σ H Q := q
theorem z_op {g : R2} (h : ta σ H fun x H1 => tb σ H1 fun y H2 => g x y H2 Q) : tOp g ta tb σ H Q := h
theorem z_un {g : V → Hp → VK → Prop} (h : ta σ H fun x H1 => g x H1 Q) : tUn g ta σ H Q := h
theorem z_I0 {g : Int → Int → V} (q : Q (g i j) H) : rI0 g (.int i) (.int j) H Q := ⟨i, j, rfl, rfl, q⟩
theorem z_I {C : Int → Int → Prop} {g : Int → Int → V} (hc : C i j) (q : Q (g i j) H) : rI C g (.int i) (.int j) H Q := ⟨i, j, rfl, rfl, hc, q⟩
theorem z_U {g : Int → V} (q : Q (g i) H) : rU g (.int i) H Q := ⟨i, rfl, q⟩
theorem z_eqI (q : Q (.bl (decide (i = j))) H) : rEq (.int i) (.int j) H Q := ⟨rfl, by rw [show decide (V.int i = V.int j) = decide (i = j) by simp]; exact q⟩
theorem z_neI (q : Q (.bl (decide (¬ i = j))) H) : rNe (.int i) (.int j) H Q := ⟨rfl, by rw [show (!decide (V.int i = V.int j)) = decide (¬ i = j) by simp]; exact q⟩
theorem z_eq (h : scal x y = true) (q : Q (.bl (decide (x = y))) H) : rEq x y H Q := ⟨h, q⟩
theorem z_test (h : te σ H fun x H1 => ∃ k, x = .bl k ∧ QB k H1) : tTest te σ H QB := h
theorem z_tB (h : te σ H fun x H1 => ∃ k, x = .bl k ∧ QB k H1) : tB te σ H QB := h
theorem z_bl {k : Bool} {R : Bool → Prop} (q : R k) : ∃ k', V.bl k = V.bl k' ∧ R k' := ⟨k, rfl, q⟩
theorem z_notT (h : tt σ H fun k H1 => QB (!k) H1) : tNot tt σ H QB := h
theorem z_andT (h : tt σ H fun k H1 => if k = true then tu σ H1 QB else QB false H1) : tAnd tt tu σ H QB := h
theorem z_orT (h : tt σ H fun k H1 => if k = true then QB true H1 else tu σ H1 QB) : tOr tt tu σ H QB := h
theorem z_andV (h : ta σ H fun x H1 => ∃ k, x = .bl k ∧ if k = true then tb σ H1 Q else Q (.bl false) H1) : tAndV ta tb σ H Q := h
theorem z_orV (h : ta σ H fun x H1 => ∃ k, x = .bl k ∧ if k = true then Q (.bl true) H1 else tb σ H1 Q) : tOrV ta tb σ H Q := h
theorem z_notV (h : ta σ H fun x H1 => ∃ k, x = .bl k ∧ Q (.bl (!k)) H1) : tNotV ta σ H Q := h
theorem z_ifE (h : tt σ H fun k H1 => if k = true then ta σ H1 Q else tb σ H1 Q) : tIf tt ta tb σ H Q := h
theorem z_chain {g g' : R2} {tc : TE} (h : ta σ H fun x H1 => tb σ H1 fun y H2 => g x y H2 fun z H3 => ∃ k, z = .bl k ∧ (if k = true then tc σ H3 fun w' H4 => g' y w' H4 Q else Q (.bl false) H3)) : tChain g g' ta tb tc σ H Q := h
theorem z_nil {R : List V → Hp → Prop} (q : R [] H) : tNil σ H R := q
theorem z_cons {tr : TA} {R : List V → Hp → Prop} (h : ta σ H fun x H1 => tr σ H1 fun xs H2 => R (x :: xs) H2) : tCons ta tr σ H R := h
theorem z_tup {tl : TA} (h : tl σ H (NewT Q)) : tTup tl σ H Q := h
theorem z_lst {tl : TA} (h : tl σ H (NewL Q)) : tLst tl σ H Q := h
theorem z_newT {xs : List V} (hl : xs.length ≤ 1000) (q : ∀ p H', H p = none → Same H H' → H' p = some (.tup xs) → Q (.ref p) H') : NewT Q xs H := ⟨sz hl, fun p hp => q p _ hp (same_upd hp) upd_same⟩
theorem z_newL {xs : List V} (hl : xs.length ≤ 1000) (q : ∀ p H', H p = none → Same H H' → H' p = some (.lst xs) → Q (.ref p) H') : NewL Q xs H := ⟨sz hl, fun p hp => q p _ hp (same_upd hp) upd_same⟩
theorem z_cb {g : List V → Hp → VK → Prop} {tl : TA} (h : tl σ H fun vs H1 => g vs H1 Q) : tCB g tl σ H Q := h
theorem z_call {sp : Sp} {E : XK} {tl : TA} (h : tl σ H fun vs H1 => sp vs H1 Q E) : tCall sp [] E tl σ H Q := by
  unfold tCall
  simpa only [List.append_nil] using h
theorem z_callS {sp : Sp} {E : L2.St → XK} {tl : TA} (h : tl σ H fun vs H1 => sp vs H1 Q (E σ)) : tCallS sp E tl σ H Q := h
theorem z_ixL {p : Addr} {xs : List V} (h : SqL K H p xs) (ha : atI xs i = some v) (q : Q v H) : rIxL K (.ref p) (.int i) H Q := ⟨p, xs, i, v, rfl, rfl, h, ha, q⟩
theorem z_ixT {p : Addr} {xs : List V} (h : SqT K H p xs) (ha : atI xs i = some v) (q : Q v H) : rIxT K (.ref p) (.int i) H Q := ⟨p, xs, i, v, rfl, rfl, h, ha, q⟩
theorem z_setL {p : Addr} {xs : List V} {k : Nat} {R : Hp → Prop} (h : H p = some (.lst xs)) (hk : ixN xs.length i = some k) (q : R (upd H p (.lst (xs.set k v)))) : rSetL (.ref p) (.int i) v H R := ⟨p, xs, i, k, rfl, rfl, h, hk, q⟩
theorem z_if {p : Prop} [Decidable p] {A B : Prop} (h1 : p → A) (h2 : ¬ p → B) : if decide p = true then A else B := by
  by_cases h : p
  · rw [if_pos (decide_eq_true h)]
    exact h1 h
  · rw [if_neg (by simpa using h)]
    exact h2 h
theorem z_ifB {k : Bool} {A B : Prop} (h1 : k = true → A) (h2 : k = false → B) : if k = true then A else B := by
  cases k with
  | true => exact h1 rfl
  | false => exact h2 rfl
/-- and, or, not of a test whose answer is known, the heap as it was -/
theorem z_andK {k k' : Bool} (h : k = true → ∀ R : Bool → Hp → Prop, R k' H → tu σ H R) (q : QB (k && k') H) : if k = true then tu σ H QB else QB false H := by
  cases k with
  | true => exact h rfl QB q
  | false => exact q
theorem z_orK {k k' : Bool} (h : k = false → ∀ R : Bool → Hp → Prop, R k' H → tu σ H R) (q : QB (k || k') H) : if k = true then QB true H else tu σ H QB := by
  cases k with
  | true => exact q
  | false => exact h rfl QB q
theorem z_andKV {k k' : Bool} (h : k = true → ∀ R : VK, R (.bl k') H → tb σ H R) (q : Q (.bl (k && k')) H) : if k = true then tb σ H Q else Q (.bl false) H := by
  cases k with
  | true => exact h rfl Q q
  | false => exact q
theorem z_orKV {k k' : Bool} (h : k = false → ∀ R : VK, R (.bl k') H → tb σ H R) (q : Q (.bl (k || k')) H) : if k = true then Q (.bl true) H else tb σ H Q := by
  cases k with
  | true => exact q
  | false => exact h rfl Q q
/-- the second comparison of a chain -/
theorem z_chK {k k' : Bool} {tc : TE} {g' : R2} (h : k = true → ∀ R : VK, R (.bl k') H → tc σ H fun w' H4 => g' y w' H4 R) (q : Q (.bl (k && k')) H) :
    if k = true then tc σ H fun w' H4 => g' y w' H4 Q else Q (.bl false) H := by
  cases k with
  | true => exact h rfl Q q
  | false => exact q
theorem z_ty {x : V} {t : String} {T : String} {k : Bool} {H : Hp} {Q : VK} (h : TyX K H x (.type t)) (e : kitB t T = some k) (q : Q (.bl k) H) : rIsi K [x, .ty T] H Q := ⟨x, .ty T, .type t, .type T, k, rfl, .ty T, h, kit_ty e, q⟩
end
end Z
namespace Z
open PySem PySem.Spec PyProof.Rows L2
theorem pe_powc {X : Cx} {a b v : Int} {j1 j2 : Nat} {p1 p2 pos : Pos} (h0 : CPow a b) (hv : a ^ b.toNat = v) : PE X (.BinOp (.Constant (.int a) j1 p1) .Pow (.Constant (.int b) j2 p2) pos) (tC (.int v)) := by
  subst hv
  exact ⟨fun pins s σ H Q I h => (pe_op op_pow pe_int pe_int).run pins s σ H Q I ⟨a, b, rfl, rfl, h0, h⟩⟩
def rInt1 : List V → Hp → VK → Prop := fun xs H Q => (∃ i, xs = [.int i] ∧ Q (.int i) H) ∨ ∃ k, xs = [.bl k] ∧ Q (.int (if k then 1 else 0)) H
def rAbs : List V → Hp → VK → Prop := fun xs H Q => ∃ i, xs = [.int i] ∧ Q (.int (if i < 0 then -i else i)) H
def rLen (K : PySem.W.Frag) : List V → Hp → VK → Prop := fun xs H Q => ∃ p ys, xs = [.ref p] ∧ (SqL K H p ys ∨ SqT K H p ys) ∧ Q (.int ys.length) H
theorem c_int {X : Cx} : CallR X (.type "int") rInt1 := call_int1
theorem c_abs {X : Cx} : CallR X (.builtin "abs") rAbs := call_abs
theorem c_len {X : Cx} : CallR X (.builtin "len") (rLen X.K) := call_len_seq
section
variable {H : Hp} {Q : VK} {i j : Int} {v : V} {R : Prop}
theorem z_int1 (q : Q (.int i) H) : rInt1 [.int i] H Q := .inl ⟨i, rfl, q⟩
theorem z_int1b {k : Bool} (q : Q (.int (if k then 1 else 0)) H) : rInt1 [.bl k] H Q := .inr ⟨k, rfl, q⟩
theorem z_abs (q : Q (.int (if i < 0 then -i else i)) H) : rAbs [.int i] H Q := ⟨i, rfl, q⟩
theorem z_gcd (q : Q (.int ((Nat.gcd i.natAbs j.natAbs : Nat) : Int)) H) : rGcd [.int i, .int j] H Q := ⟨i, j, rfl, q⟩
theorem z_lenL {K : PySem.W.Frag} {p : Addr} {xs : List V} (h : SqL K H p xs) (q : Q (.int (xs.length : Int)) H) : rLen K [.ref p] H Q := ⟨p, xs, rfl, .inl h, q⟩
theorem z_lenT {K : PySem.W.Frag} {p : Addr} {xs : List V} (h : SqT K H p xs) (q : Q (.int (xs.length : Int)) H) : rLen K [.ref p] H Q := ⟨p, xs, rfl, .inr h, q⟩
theorem z_isII {K : PySem.W.Frag} (q : Q (.bl true) H) : rIsi K [.int i, .ty "int"] H Q := z_ty (.base (.int i)) (by decide +kernel) q
theorem z_isIB {K : PySem.W.Frag} (q : Q (.bl false) H) : rIsi K [.int i, .ty "bool"] H Q := z_ty (.base (.int i)) (by decide +kernel) q
theorem z_isBB {K : PySem.W.Frag} {k : Bool} (q : Q (.bl true) H) : rIsi K [.bl k, .ty "bool"] H Q := z_ty (.base (.bl k)) (by decide +kernel) q
theorem z_isTT {K : PySem.W.Frag} {p : Addr} {xs : List V} (h : H p = some (.tup xs)) (q : Q (.bl true) H) : rIsi K [.ref p, .ty "tuple"] H Q := z_ty (.base (.tup h)) (by decide +kernel) q
theorem z_isLL {K : PySem.W.Frag} {p : Addr} {xs : List V} (h : H p = some (.lst xs)) (q : Q (.bl true) H) : rIsi K [.ref p, .ty "list"] H Q := z_ty (.base (.lst h)) (by decide +kernel) q
theorem z_new {xs : List V} {F : Addr → Prop} (h : xs.length ≤ 1000) (q : ∀ p, H p = none → F p) : xs.length ≤ sizeLine ∧ ∀ p, H p = none → F p := ⟨sz h, q⟩
end
end Z
namespace Z
open PySem PySem.Spec PyProof.Rows L2
section
variable {σ : L2.St} {H : Hp} {n : L2.St → Hp → Prop} {r : VK} {b c : L2.St → Hp → Prop} {tb : TS} {K : PySem.W.Frag}
/-- for k in range(m) -/
theorem z_forR1 {ta : TA} {k : Nat} (m : Nat) (hm : m < 2 ^ 62) (ha : ∀ R : List V → Hp → Prop, R [.int (m : Int)] H → ta σ H R) (Pv : Nat → L2.St → Hp → Prop) (h0 : Pv 0 σ H)
    (hs : ∀ i σ H, i < m → Pv i σ H → tb ⟨Pv (i + 1), r, n, Pv (i + 1)⟩ (σ.set k (some (.int (i : Int)))) H) (hd : ∀ σ H, Pv m σ H → n σ H) : tFor (iRng1 ta) (gName k) tb ⟨n, r, b, c⟩ σ H := by
  refine ha _ ⟨(m : Int), rfl, by omega, by omega, ?_⟩
  refine for_range (lo := 0) (n := (m : Int).toNat) Pv h0 (fun i σ' H' hi p => ?_) (fun σ' H' p => hd σ' H' (by simpa using p))
  have e : (0 : Int) + (i : Int) = (i : Int) := Int.zero_add _
  show tb _ (σ'.set k (some (.int ((0 : Int) + (i : Int))))) H'
  rw [e]
  exact hs i σ' H' (by simpa using hi) p
/-- for k in range(lo, hi) -/
theorem z_forR2 {ta : TA} {k : Nat} (lo : Int) (m : Nat) (hl : -(2 ^ 61) ≤ lo ∧ lo < 2 ^ 61) (hm : m < 2 ^ 61) (ha : ∀ R : List V → Hp → Prop, R [.int lo, .int (lo + (m : Int))] H → ta σ H R) (Pv : Nat → L2.St → Hp → Prop) (h0 : Pv 0 σ H)
    (hs : ∀ i σ H, i < m → Pv i σ H → tb ⟨Pv (i + 1), r, n, Pv (i + 1)⟩ (σ.set k (some (.int (lo + (i : Int))))) H) (hd : ∀ σ H, Pv m σ H → n σ H) : tFor (iRng2 ta) (gName k) tb ⟨n, r, b, c⟩ σ H := by
  refine ha _ ⟨lo, lo + (m : Int), rfl, by omega, ?_⟩
  have en : (lo + (m : Int) - lo).toNat = m := by omega
  rw [en]
  exact for_range (lo := lo) (n := m) Pv h0 hs hd
/-- for x in a list, in a tuple -/
theorem z_forL {tl : TE} {g : TG} {a : Addr} {xs : List V} (ha : ∀ R : VK, R (.ref a) H → tl σ H R) (hx : SqL K H a xs) (Pv : Nat → L2.St → Hp → Prop) (h0 : Pv 0 σ H) (hl : ∀ i σ H, i ≤ xs.length → Pv i σ H → SqL K H a xs)
    (hs : ∀ i x σ H, xs[i]? = some x → Pv i σ H → g x σ H fun σ2 H2 => tb ⟨Pv (i + 1), r, n, Pv (i + 1)⟩ σ2 H2) (hd : ∀ σ H, Pv xs.length σ H → n σ H) : tFor (iList K tl) g tb ⟨n, r, b, c⟩ σ H :=
  ha _ ⟨a, rfl, ⟨xs, hx⟩, for_list Pv h0 hl hs hd⟩
theorem z_forT {tl : TE} {g : TG} {a : Addr} {xs : List V} (ha : ∀ R : VK, R (.ref a) H → tl σ H R) (hx : SqT K H a xs) (Pv : Nat → L2.St → Hp → Prop) (h0 : Pv 0 σ H) (hl : ∀ i σ H, i ≤ xs.length → Pv i σ H → SqT K H a xs)
    (hs : ∀ i x σ H, xs[i]? = some x → Pv i σ H → g x σ H fun σ2 H2 => tb ⟨Pv (i + 1), r, n, Pv (i + 1)⟩ σ2 H2) (hd : ∀ σ H, Pv xs.length σ H → n σ H) : tFor (iTup K tl) g tb ⟨n, r, b, c⟩ σ H :=
  ha _ ⟨a, rfl, ⟨xs, hx⟩, for_tup Pv h0 hl hs hd⟩
theorem z_gName {k : Nat} {v : V} {R : L2.St → Hp → Prop} (q : R (σ.set k (some v)) H) : gName k v σ H R := q
end
end Z
namespace Z
section
variable {A B : Prop}
theorem z_ifT (q : A) : if true = true then A else B := by
  rw [if_pos rfl]
  exact q
theorem z_ifF (q : B) : if false = true then A else B := by
  rw [if_neg Bool.false_ne_true]
  exact q
theorem z_ifNF (q : A) : if (!false) = true then A else B := z_ifT q
theorem z_ifNT (q : B) : if (!true) = true then A else B := z_ifF q
theorem z_ifN {p : Prop} [Decidable p] (h1 : ¬ p → A) (h2 : p → B) : if (!decide p) = true then A else B := by
  by_cases h : p
  · rw [if_neg (by simpa using h)]
    exact h2 h
  · rw [if_pos (by simpa using h)]
    exact h1 h
end
end Z
namespace Z
theorem z_ifYes {A B : Prop} {k : Bool} (h : k = true) (q : A) : if k = true then A else B := by
  rw [if_pos h]
  exact q
theorem z_ifNo {A B : Prop} {k : Bool} (h : k = false) (q : B) : if k = true then A else B := by
  rw [if_neg (by rw [h]; exact Bool.false_ne_true)]
  exact q
end Z
namespace Z
open PySem PySem.Spec PyProof.Rows L2
theorem z_exc {K : PySem.W.Frag} {cv cls : Value} {i : Nat} {ts : Addr → Value → Option Addr → TS} {Wout : WX} {n : L2.St → Hp → Prop} {r : VK} {b c : L2.St → Hp → Prop} {d : Option Addr} {σ : L2.St} {H : Hp} (e : PySem.W.exmOne K cls cv = some true)
    (h : ∀ a, H a = none → ts a cls d ⟨fun σ' H' => n (σ'.set i none) H', r, fun σ' H' => b (σ'.set i none) H', fun σ' H' => c (σ'.set i none) H'⟩ (σ.set i (some (.ref a))) H) : WE (wAs K cv i ts Wout ⟨n, r, b, c⟩) σ cls d H :=
  ⟨true, e, fun _ a ha => h a ha, fun z => Bool.noConfusion z⟩
theorem z_excO {K : PySem.W.Frag} {cv cls : Value} {ts : Addr → Value → Option Addr → TS} {Wout : WX} {D : Ends} {d : Option Addr} {σ : L2.St} {H : Hp} (e : PySem.W.exmOne K cls cv = some true)
    (h : ∀ a, H a = none → ts a cls d D σ H) : WE (wOnly K cv ts Wout D) σ cls d H :=
  ⟨true, e, fun _ a ha => h a ha, fun z => Bool.noConfusion z⟩
theorem z_isEr {K : PySem.W.Frag} {a C D : Addr} {k : Bool} {H : Hp} {Q : VK} (x : ExcC K D) (e : PySem.W.kitOne K (.ref D) (.ref C) = some k) (q : Q (.bl k) H) : rIsEx K (.ref D) none a [.ref a, .ref C] H Q :=
  ⟨D, rfl, rfl, x, .ref C, .ref C, k, rfl, fun u h => h, e, q⟩
theorem z_isEt {K : PySem.W.Frag} {a D : Addr} {t : String} {k : Bool} {H : Hp} {Q : VK} (x : ExcC K D) (e : PySem.W.kitOne K (.ref D) (.type t) = some k) (q : Q (.bl k) H) : rIsEx K (.ref D) none a [.ref a, .ty t] H Q :=
  ⟨D, rfl, rfl, x, .ty t, .type t, k, rfl, fun u h => h, e, q⟩
/-- two lists, tuples of flat things compared -/
theorem z_eqD {K : PySem.W.Frag} {x y : V} {d e : PyData} {H : Hp} {Q : VK} (h1 : Dp K H x d) (h2 : Dp K H y e) (s1 : SeqAt.shaped d = true) (s2 : SeqAt.shaped e = true) (q : Q (.bl (PyData.eqv d e)) H) : rEqD K x y H Q := ⟨d, e, h1, h2, s1, s2, q⟩
end Z
namespace Z
open PySem PySem.Spec PyProof.Rows L2
theorem z_eqSame {K : PySem.W.Frag} {x y : V} {d : PyData} {H : Hp} {Q : VK} (h1 : Dp K H x d) (h2 : Dp K H y d) (s : SeqAt.shaped d = true) (q : Q (.bl true) H) : rEqD K x y H Q :=
  ⟨d, d, h1, h2, s, s, by rw [SeqAt.eqv_refl d (SeqAt.canLay_of_shaped s)]; exact q⟩
theorem dpT2 {K : PySem.W.Frag} {H : Hp} {p : Addr} {n d : Int} (h : H p = some (.tup [.int n, .int d])) : Dp K H (.ref p) (.tuple [.int n, .int d]) := .tup (.inl (.inl h)) (.cons (.int n) (.cons (.int d) .nil))
theorem dpB3 {K : PySem.W.Frag} {H : Hp} {p : Addr} {a b c : Bool} (h : H p = some (.lst [.bl a, .bl b, .bl c])) : Dp K H (.ref p) (.list [.bool a, .bool b, .bool c]) := .lst (.inl (.inl h)) (.cons (.bl a) (.cons (.bl b) (.cons (.bl c) .nil)))
end Z
namespace Z
open PySem PySem.Spec PyProof.Rows L2
theorem z_cut {t u : TS} {n : L2.St → Hp → Prop} {r : VK} {b c : L2.St → Hp → Prop} {σ : L2.St} {H : Hp} (Mid : L2.St → Hp → Prop) (h : t ⟨Mid, r, b, c⟩ σ H) (k : ∀ σ' H', Mid σ' H' → u ⟨n, r, b, c⟩ σ' H') : Evl.tCut t u ⟨n, r, b, c⟩ σ H := ⟨Mid, h, k⟩
end Z
namespace Z
open PySem PySem.Spec PyProof.Rows L2
section
variable {σ : L2.St} {H : Hp} {n : L2.St → Hp → Prop} {r : VK} {b c : L2.St → Hp → Prop} {te : TE} {K : PySem.W.Frag} {a : Addr} {xs : List V} {gs : TGs} {m : Nat} {v : V}
theorem z_asgT (h : te σ H fun x H1 => ∃ a xs, x = .ref a ∧ SqT K H1 a xs ∧ xs.length = m ∧ gs xs σ H1 n) : tAsg te (gTup K m gs) ⟨n, r, b, c⟩ σ H := h
theorem z_asgL (h : te σ H fun x H1 => ∃ a xs, x = .ref a ∧ SqL K H1 a xs ∧ xs.length = m ∧ gs xs σ H1 n) : tAsg te (gLst K m gs) ⟨n, r, b, c⟩ σ H := h
theorem z_up (h : SqT K H a xs) (hm : xs.length = m) (q : gs xs σ H n) : ∃ a' xs', V.ref a = .ref a' ∧ SqT K H a' xs' ∧ xs'.length = m ∧ gs xs' σ H n := ⟨a, xs, rfl, h, hm, q⟩
theorem z_upL (h : SqL K H a xs) (hm : xs.length = m) (q : gs xs σ H n) : ∃ a' xs', V.ref a = .ref a' ∧ SqL K H a' xs' ∧ xs'.length = m ∧ gs xs' σ H n := ⟨a, xs, rfl, h, hm, q⟩
theorem z_gT (h : SqT K H a xs) (hm : xs.length = m) (q : gs xs σ H n) : gTup K m gs (.ref a) σ H n := ⟨a, xs, rfl, h, hm, q⟩
theorem z_gcons {t : TG} {u : TGs} {R : L2.St → Hp → Prop} (h : t v σ H fun σ' H' => u xs σ' H' R) : gCons t u (v :: xs) σ H R := ⟨v, xs, rfl, h⟩
theorem z_gnil {R : L2.St → Hp → Prop} (h : R σ H) : gNil [] σ H R := ⟨rfl, h⟩
end
end Z
namespace Z
open PySem PySem.Spec PyProof.Rows L2
section
variable {K : PySem.W.Frag} {Wout : WX} {D : Ends} {c cls : Value} {ts : Addr → Value → Option Addr → TS} {l : List (Value × (Addr → Value → Option Addr → TS))} {σ : L2.St} {H : Hp} {d : Option Addr}
theorem z_many1 (e : PySem.W.exmOne K cls c = some true) (h : ∀ a, H a = none → ts a cls d D σ H) : WE (wMany K Wout D ((c, ts) :: l)) σ cls d H := ⟨true, e, fun _ a ha => h a ha, fun z => Bool.noConfusion z⟩
theorem z_many0 (e : PySem.W.exmOne K cls c = some false) (h : WE (wMany K Wout D l) σ cls d H) : WE (wMany K Wout D ((c, ts) :: l)) σ cls d H := ⟨false, e, fun z => Bool.noConfusion z, fun _ => h⟩
theorem z_eqS {x : Str} {Q : VK} (q : Q (.bl true) H) : rEq (.str x) (.str x) H Q := ⟨rfl, by rw [decide_eq_true rfl]; exact q⟩
end
end Z
/-! ### data: what a value stands for -/
namespace Z
open PySem PySem.Spec PyProof.Rows L2
section
variable {K : PySem.W.Frag} {H H' : Hp} {v : V} {d d1 d2 d3 d4 d5 d6 : PyData}
mutual
theorem dp_mono (s : Same H H') : ∀ {d : PyData} {v : V}, Dp K H v d → Dp K H' v d
  | _, _, .non => .non
  | _, _, .bl b => .bl b
  | _, _, .int i => .int i
  | _, _, .str x => .str x
  | _, _, .lst h a => .lst (s.seq h) (dp_monoA s a)
  | _, _, .tup h a => .tup (seqT s h) (dp_monoA s a)
theorem dp_monoA (s : Same H H') : ∀ {ds : List PyData} {vs : List V}, DpAll K H vs ds → DpAll K H' vs ds
  | _, _, .nil => .nil
  | _, _, .cons h a => .cons (dp_mono s h) (dp_monoA s a)
end
mutual
def tupOnly : PyData → Bool
  | .list _ => false
  | .dict _ => false
  | .tuple ds => tupOnlyA ds
  | .none => true
  | .bool _ => true
  | .int _ => true
  | .str _ => true
def tupOnlyA : List PyData → Bool
  | [] => true
  | d :: ds => tupOnly d && tupOnlyA ds
end
def Kp (p : Addr) (H H' : Hp) : Prop := ∀ b o, b ≠ p → H b = some o → H' b = some o
theorem seqT_kp {p a : Addr} {xs ys : List V} (k : Kp p H H') (hp : H p = some (.lst xs)) (h : SqT K H a ys) : SqT K H' a ys := by
  rcases h with (h | ⟨o, h⟩) | h
  · exact .inl (.inl (k _ _ (ne_of h hp (by intro z; cases z)) h))
  · exact .inl (.inr ⟨o, k _ _ (ne_of h hp (by intro z; cases z)) h⟩)
  · exact .inr h
mutual
theorem dp_kp {p : Addr} {xs : List V} (k : Kp p H H') (hp : H p = some (.lst xs)) : ∀ {d : PyData} {v : V}, tupOnly d = true → Dp K H v d → Dp K H' v d
  | _, _, _, .non => .non
  | _, _, _, .bl b => .bl b
  | _, _, _, .int i => .int i
  | _, _, _, .str x => .str x
  | _, _, t, .lst h a => by simp [tupOnly] at t
  | _, _, t, .tup h a => .tup (seqT_kp k hp h) (dp_kpA k hp (by simpa [tupOnly] using t) a)
theorem dp_kpA {p : Addr} {xs : List V} (k : Kp p H H') (hp : H p = some (.lst xs)) : ∀ {ds : List PyData} {vs : List V}, tupOnlyA ds = true → DpAll K H vs ds → DpAll K H' vs ds
  | _, _, _, .nil => .nil
  | _, _, t, .cons h a => by
    have t' : (tupOnly _ && tupOnlyA _) = true := t
    rw [Bool.and_eq_true] at t'
    exact .cons (dp_kp k hp t'.1 h) (dp_kpA k hp t'.2 a)
end
theorem dp_int {i : Int} (h : Dp K H v (.int i)) : v = .int i := by
  cases h
  rfl
theorem dp_non (h : Dp K H v .none) : v = .non := by
  cases h
  rfl
theorem dp_bool {b : Bool} (h : Dp K H v (.bool b)) : v = .bl b := by
  cases h
  rfl
theorem dp_str {b : Str} (h : Dp K H v (.str b)) : v = .str b := by
  cases h
  rfl
theorem dp_tup {ds : List PyData} (h : Dp K H v (.tuple ds)) : ∃ p vs, v = .ref p ∧ SqT K H p vs ∧ DpAll K H vs ds := by
  cases h with
  | tup h a => exact ⟨_, _, rfl, h, a⟩
theorem dpa_nil {vs : List V} (h : DpAll K H vs []) : vs = [] := by
  cases h
  rfl
theorem dpa_cons {vs : List V} {ds : List PyData} (h : DpAll K H vs (d :: ds)) : ∃ v r, vs = v :: r ∧ Dp K H v d ∧ DpAll K H r ds := by
  cases h with
  | cons a b => exact ⟨_, _, rfl, a, b⟩
theorem dp_t1 (h : Dp K H v (.tuple [d1])) : ∃ p v1, v = .ref p ∧ SqT K H p [v1] ∧ Dp K H v1 d1 := by
  obtain ⟨p, vs, e, hS, a⟩ := dp_tup h
  obtain ⟨v1, _, rfl, h1, a⟩ := dpa_cons a
  obtain rfl := dpa_nil a
  exact ⟨p, v1, e, hS, h1⟩
theorem dp_t2 (h : Dp K H v (.tuple [d1, d2])) : ∃ p v1 v2, v = .ref p ∧ SqT K H p [v1, v2] ∧ Dp K H v1 d1 ∧ Dp K H v2 d2 := by
  obtain ⟨p, vs, e, hS, a⟩ := dp_tup h
  obtain ⟨v1, _, rfl, h1, a⟩ := dpa_cons a
  obtain ⟨v2, _, rfl, h2, a⟩ := dpa_cons a
  obtain rfl := dpa_nil a
  exact ⟨p, v1, v2, e, hS, h1, h2⟩
theorem dp_t3 (h : Dp K H v (.tuple [d1, d2, d3])) : ∃ p v1 v2 v3, v = .ref p ∧ SqT K H p [v1, v2, v3] ∧ Dp K H v1 d1 ∧ Dp K H v2 d2 ∧ Dp K H v3 d3 := by
  obtain ⟨p, vs, e, hS, a⟩ := dp_tup h
  obtain ⟨v1, _, rfl, h1, a⟩ := dpa_cons a
  obtain ⟨v2, _, rfl, h2, a⟩ := dpa_cons a
  obtain ⟨v3, _, rfl, h3, a⟩ := dpa_cons a
  obtain rfl := dpa_nil a
  exact ⟨p, v1, v2, v3, e, hS, h1, h2, h3⟩
theorem dp_t6 (h : Dp K H v (.tuple [d1, d2, d3, d4, d5, d6])) : ∃ p v1 v2 v3 v4 v5 v6, v = .ref p ∧ SqT K H p [v1, v2, v3, v4, v5, v6] ∧ Dp K H v1 d1 ∧ Dp K H v2 d2 ∧ Dp K H v3 d3 ∧ Dp K H v4 d4 ∧ Dp K H v5 d5 ∧ Dp K H v6 d6 := by
  obtain ⟨p, vs, e, hS, a⟩ := dp_tup h
  obtain ⟨v1, _, rfl, h1, a⟩ := dpa_cons a
  obtain ⟨v2, _, rfl, h2, a⟩ := dpa_cons a
  obtain ⟨v3, _, rfl, h3, a⟩ := dpa_cons a
  obtain ⟨v4, _, rfl, h4, a⟩ := dpa_cons a
  obtain ⟨v5, _, rfl, h5, a⟩ := dpa_cons a
  obtain ⟨v6, _, rfl, h6, a⟩ := dpa_cons a
  obtain rfl := dpa_nil a
  exact ⟨p, v1, v2, v3, v4, v5, v6, e, hS, h1, h2, h3, h4, h5, h6⟩
theorem dp_mk {p : Addr} {vs : List V} {ds : List PyData} (h : H p = some (.tup vs)) (a : DpAll K H vs ds) : Dp K H (.ref p) (.tuple ds) := .tup (.inl (.inl h)) a
end
/-! ### numbers -/
def qD (r : Rat) : PyData := .tuple [.int r.num, .int (r.den : Int)]
theorem dp_q {K : PySem.W.Frag} {H : Hp} {v : V} {r : Rat} (h : Dp K H v (qD r)) : ∃ p, v = .ref p ∧ SqT K H p [.int r.num, .int (r.den : Int)] := by
  obtain ⟨p, v1, v2, e, hS, h1, h2⟩ := dp_t2 h
  rw [dp_int h1, dp_int h2] at hS
  exact ⟨p, e, hS⟩
theorem dp_mkq {K : PySem.W.Frag} {H : Hp} {p : Addr} {r : Rat} (h : H p = some (.tup [.int r.num, .int (r.den : Int)])) : Dp K H (.ref p) (qD r) := dp_mk h (.cons (.int _) (.cons (.int _) .nil))
theorem dp_seqq {K : PySem.W.Frag} {H : Hp} {p : Addr} {r : Rat} (h : SqT K H p [.int r.num, .int (r.den : Int)]) : Dp K H (.ref p) (qD r) := .tup h (.cons (.int _) (.cons (.int _) .nil))
/-- numerator and denominator at most so great -/
def Bd (r : Rat) (p q : Nat) : Prop := r.num.natAbs ≤ p ∧ r.den ≤ q
theorem bd_divInt {n d : Int} (h : d ≠ 0) : Bd (Rat.divInt n d) n.natAbs d.natAbs := by
  unfold Bd
  rw [Rat.num_divInt, Rat.den_divInt, if_neg h]
  refine ⟨Nat.le_trans (Int.natAbs_ediv_le_natAbs _ _) ?_, Nat.div_le_self _ _⟩
  rw [Int.natAbs_mul]
  have : d.sign.natAbs ≤ 1 := by
    rcases Int.lt_trichotomy d 0 with z | z | z
    · rw [Int.sign_eq_neg_one_of_neg z]; decide
    · exact absurd z h
    · rw [Int.sign_eq_one_of_pos z]; decide
  calc d.sign.natAbs * n.natAbs ≤ 1 * n.natAbs := Nat.mul_le_mul_right _ this
    _ = n.natAbs := Nat.one_mul _
theorem q_self (r : Rat) : Rat.divInt r.num (r.den : Int) = r := Rat.num_divInt_den r
end Z
namespace Z
open PySem PySem.Spec PyProof.Rows L2
def gd (n d : Int) : Int := ((Nat.gcd n.natAbs d.natAbs : Nat) : Int)
def rn (n d : Int) : Int := (if d < 0 then -n else n) / gd n d
def rd (n d : Int) : Int := (if d < 0 then -d else d) / gd n d
theorem rn_q {n d : Int} (h : d ≠ 0) : rn n d = (Rat.divInt n d).num := by
  rw [Rat.num_divInt]
  unfold rn gd
  have e : d.gcd n = Nat.gcd n.natAbs d.natAbs := Nat.gcd_comm _ _
  rw [e]
  congr 1
  split
  · rename_i z
    rw [Int.sign_eq_neg_one_of_neg z]
    omega
  · rename_i z
    rw [Int.sign_eq_one_of_pos (by omega)]
    omega
theorem rd_q {n d : Int} (h : d ≠ 0) : rd n d = ((Rat.divInt n d).den : Int) := by
  rw [Rat.den_divInt, if_neg h]
  unfold rd gd
  have e : d.gcd n = Nat.gcd n.natAbs d.natAbs := Nat.gcd_comm _ _
  rw [e]
  rw [Int.natCast_ediv]
  congr 1
  split <;> omega
def lim : Int := 1000000000000000000
def fitsQ (r : Rat) : Prop := -lim ≤ r.num ∧ r.num ≤ lim ∧ (r.den : Int) ≤ lim
theorem bd_add {a b : Rat} {p q p' q' : Nat} (h : Bd a p q) (h' : Bd b p' q') : Bd (a + b) (p * q' + p' * q) (q * q') := by
  have ha := a.den_nz
  have hb := b.den_nz
  have e : a + b = Rat.divInt (a.num * b.den + b.num * a.den) ((a.den : Int) * b.den) := by
    rw [← Rat.divInt_add_divInt _ _ (by omega) (by omega), Rat.num_divInt_den, Rat.num_divInt_den]
  rw [e]
  have hd : ((a.den : Int) * b.den) ≠ 0 := Int.mul_ne_zero (by omega) (by omega)
  have k := bd_divInt (n := a.num * b.den + b.num * a.den) hd
  refine ⟨Nat.le_trans k.1 (Nat.le_trans (Int.natAbs_add_le _ _) ?_), Nat.le_trans k.2 ?_⟩
  · rw [Int.natAbs_mul, Int.natAbs_mul]
    exact Nat.add_le_add (Nat.mul_le_mul h.1 h'.2) (Nat.mul_le_mul h'.1 h.2)
  · rw [Int.natAbs_mul]
    exact Nat.mul_le_mul h.2 h'.2
theorem bd_mul {a b : Rat} {p q p' q' : Nat} (h : Bd a p q) (h' : Bd b p' q') : Bd (a * b) (p * p') (q * q') := by
  have ha := a.den_nz
  have hb := b.den_nz
  have e : a * b = Rat.divInt (a.num * b.num) ((a.den : Int) * b.den) := by
    rw [← Rat.divInt_mul_divInt, Rat.num_divInt_den, Rat.num_divInt_den]
  rw [e]
  have hd : ((a.den : Int) * b.den) ≠ 0 := Int.mul_ne_zero (by omega) (by omega)
  have k := bd_divInt (n := a.num * b.num) hd
  refine ⟨Nat.le_trans k.1 ?_, Nat.le_trans k.2 ?_⟩
  · rw [Int.natAbs_mul]
    exact Nat.mul_le_mul h.1 h'.1
  · rw [Int.natAbs_mul]
    exact Nat.mul_le_mul h.2 h'.2
theorem bd_neg {a : Rat} {p q : Nat} (h : Bd a p q) : Bd (-a) p q := by
  unfold Bd
  rw [Rat.neg_num, Rat.neg_den, Int.natAbs_neg]
  exact h
theorem bd_sub {a b : Rat} {p q p' q' : Nat} (h : Bd a p q) (h' : Bd b p' q') : Bd (a - b) (p * q' + p' * q) (q * q') := by
  rw [Rat.sub_eq_add_neg]
  exact bd_add h (bd_neg h')
theorem q_div (a b : Rat) (h : b ≠ 0) : a / b = Rat.divInt (a.num * b.den) ((a.den : Int) * b.num) := by
  rw [Rat.div_def, ← Rat.num_divInt_den b, Rat.inv_divInt]
  conv => lhs; lhs; rw [← Rat.num_divInt_den a]
  rw [Rat.divInt_mul_divInt, Rat.num_divInt_den]
theorem bd_div {a b : Rat} {p q p' q' : Nat} (hb : b ≠ 0) (h : Bd a p q) (h' : Bd b p' q') : Bd (a / b) (p * q') (q * p') := by
  have ha := a.den_nz
  rw [q_div a b hb]
  have hn : b.num ≠ 0 := fun z => hb (Rat.num_eq_zero.mp z)
  have hd : ((a.den : Int) * b.num) ≠ 0 := Int.mul_ne_zero (by omega) hn
  have k := bd_divInt (n := a.num * b.den) hd
  refine ⟨Nat.le_trans k.1 ?_, Nat.le_trans k.2 ?_⟩
  · rw [Int.natAbs_mul]
    exact Nat.mul_le_mul h.1 h'.2
  · rw [Int.natAbs_mul]
    exact Nat.mul_le_mul h.2 h'.1
theorem Bd.le {a : Rat} {p q p' q' : Nat} (h : Bd a p q) (h1 : p ≤ p') (h2 : q ≤ q') : Bd a p' q' := ⟨Nat.le_trans h.1 h1, Nat.le_trans h.2 h2⟩
theorem Bd.fits {a : Rat} {p q : Nat} (h : Bd a p q) (h1 : p ≤ 1000000000000000000) (h2 : q ≤ 1000000000000000000) : fitsQ a := by
  have a1 := h.1
  have a2 := h.2
  unfold fitsQ lim
  omega
theorem q_add (a b : Rat) : a + b = Rat.divInt (a.num * b.den + b.num * a.den) ((a.den : Int) * b.den) := by
  have ha := a.den_nz
  have hb := b.den_nz
  rw [← Rat.divInt_add_divInt _ _ (by omega) (by omega), Rat.num_divInt_den, Rat.num_divInt_den]
theorem q_sub (a b : Rat) : a - b = Rat.divInt (a.num * b.den - b.num * a.den) ((a.den : Int) * b.den) := by
  have ha := a.den_nz
  have hb := b.den_nz
  rw [← Rat.divInt_sub_divInt _ _ (by omega) (by omega), Rat.num_divInt_den, Rat.num_divInt_den]
theorem q_mul (a b : Rat) : a * b = Rat.divInt (a.num * b.num) ((a.den : Int) * b.den) := by
  rw [← Rat.divInt_mul_divInt, Rat.num_divInt_den, Rat.num_divInt_den]
theorem q_dd (a b : Rat) : ((a.den : Int) * b.den) ≠ 0 := by
  have ha := a.den_nz
  have hb := b.den_nz
  exact Int.mul_ne_zero (by omega) (by omega)
end Z
namespace Z
open PySem PySem.Spec PyProof.Rows L2
theorem tyx_T {K : PySem.W.Frag} {H : Hp} {a : Addr} {xs : List V} (h : SqT K H a xs) : TyX K H (.ref a) (.type "tuple") := by
  rcases h with (h | ⟨o, h⟩) | ⟨o, its, n, h, c, _⟩
  · exact .base (.tup h)
  · exact .fTuple h
  · exact .kTuple h c
theorem z_isT {K : PySem.W.Frag} {H : Hp} {Q : VK} {p : Addr} {xs : List V} (h : SqT K H p xs) (q : Q (.bl true) H) : rIsi K [.ref p, .ty "tuple"] H Q := z_ty (tyx_T h) (by decide +kernel) q
end Z
namespace Z
open PySem PySem.Spec PyProof.Rows L2
/-- a tuple of the module's own -/
theorem dpk {K : PySem.W.Frag} {H : Hp} {a : Addr} {od : Option Addr} {its : List Value} {n : Nat} {sl : Array (Option Value)} {vs : List V} {ds : List PyData} (h : K.lookup a = some ⟨.type "tuple", od, .seq its.toArray n, sl⟩)
    (hs : its.length ≤ 1000) (r : Vals vs its) (d : DpAll K H vs ds) : Dp K H (.ref a) (.tuple ds) :=
  .tup (.inr ⟨_, its.toArray, n, h, rfl, rfl, by rw [List.size_toArray]; exact sz hs, by simpa using r⟩) d
/-- a tuple and a tuple -/
theorem z_catT {K : PySem.W.Frag} {H : Hp} {Q : VK} {p q : Addr} {xs ys : List V} (h1 : SqT K H p xs) (h2 : SqT K H q ys) (hx : xs ≠ []) (hl : xs.length + ys.length ≤ 1000) (hy : ys ≠ [])
    (k : ∀ p H', H p = none → Same H H' → H' p = some (.tup (xs ++ ys)) → Q (.ref p) H') : rCatT K (.ref p) (.ref q) H Q := by
  refine ⟨p, q, xs, ys, rfl, rfl, h1, h2, hx, sz hl, fun z => absurd z hy, fun _ a ha => k a _ ha (same_upd ha) upd_same⟩
end Z
namespace Z
open PySem PySem.Spec PyProof.Rows L2
def rTupOf (K : PySem.W.Frag) : List V → Hp → VK → Prop := fun xs H Q => ∃ p ys, xs = [.ref p] ∧ ((SqL K H p ys ∧ ∀ l, H l = none → Q (.ref l) (upd H l (.tup ys))) ∨ (SqT K H p ys ∧ Q (.ref p) H))
def rListOf (K : PySem.W.Frag) : List V → Hp → VK → Prop := fun xs H Q => ∃ p ys, xs = [.ref p] ∧ (SqL K H p ys ∨ SqT K H p ys) ∧ ∀ l, H l = none → Q (.ref l) (upd H l (.lst ys))
theorem c_tupOf {X : Cx} : CallR X (.type "tuple") (rTupOf X.K) := call_tuple_of
theorem c_listOf {X : Cx} : CallR X (.type "list") (rListOf X.K) := call_list_of
section
variable {K : PySem.W.Frag} {H : Hp} {Q : VK} {p : Addr} {xs : List V} {σ : L2.St}
theorem z_tupOf (h : SqL K H p xs) (q : ∀ a H', H a = none → Same H H' → H' a = some (.tup xs) → Q (.ref a) H') : rTupOf K [.ref p] H Q := ⟨p, xs, rfl, .inl ⟨h, fun l hl => q l _ hl (same_upd hl) upd_same⟩⟩
theorem z_tupOfT (h : SqT K H p xs) (q : Q (.ref p) H) : rTupOf K [.ref p] H Q := ⟨p, xs, rfl, .inr ⟨h, q⟩⟩
theorem z_listOf (h : SqL K H p xs) (q : ∀ a H', H a = none → Same H H' → H' a = some (.lst xs) → Q (.ref a) H') : rListOf K [.ref p] H Q := ⟨p, xs, rfl, .inl h, fun l hl => q l _ hl (same_upd hl) upd_same⟩
theorem z_listOfT (h : SqT K H p xs) (q : ∀ a H', H a = none → Same H H' → H' a = some (.lst xs) → Q (.ref a) H') : rListOf K [.ref p] H Q := ⟨p, xs, rfl, .inr h, fun l hl => q l _ hl (same_upd hl) upd_same⟩
theorem z_yes {QB : Bool → Hp → Prop} (q : QB true H) : tYes σ H QB := q
/-- [e for k in range(m)] -/
theorem z_lcR1 {ta : TA} {k : Nat} {te : TE} {vs : List Nat} (m : Nat) (hm : m ≤ 1000) (ha : ∀ R : List V → Hp → Prop, R [.int (m : Int)] H → ta σ H R) (hw : ∀ x, wipe ((wipe σ vs).set k (some x)) vs = wipe σ vs) (Pv : Nat → Addr → List V → Hp → Prop)
    (h0 : ∀ D H', H D = none → Same H H' → H' D = some (.lst []) → Pv 0 D [] H')
    (hs : ∀ i D acc H', i < m → acc.length = i → H' D = some (.lst acc) → Pv i D acc H' → te ((wipe σ vs).set k (some (.int (i : Int)))) H' fun y H4 => H4 D = some (.lst acc) ∧ Pv (i + 1) D (acc ++ [y]) (upd H4 D (.lst (acc ++ [y]))))
    (mono : ∀ σ' H' Q Q', (∀ y H4, Q y H4 → Q' y H4) → te σ' H' Q → te σ' H' Q')
    (hd : ∀ D acc H', acc.length = m → H' D = some (.lst acc) → Pv m D acc H' → Q (.ref D) H') : tLc (iRng1 ta) (gName k) tYes te vs σ H Q := by
  refine ha _ ⟨(m : Int), rfl, by omega, by omega, fun D hD => ?_⟩
  refine lc_range (lo := 0) (n := (m : Int).toNat) (fun i H' => ∃ acc, acc.length = i ∧ H' D = some (.lst acc) ∧ Pv i D acc H') ⟨[], rfl, upd_same, h0 D _ hD (same_upd hD) upd_same⟩ (fun i H' hi ⟨acc, hl, hH, p⟩ => ?_) (fun H' ⟨acc, hl, hH, p⟩ => hd D acc H' (by simpa using hl) hH (by simpa using p))
  have e : (0 : Int) + (i : Int) = (i : Int) := Int.zero_add _
  show wipe ((wipe σ vs).set k (some (.int ((0 : Int) + (i : Int))))) vs = wipe σ vs ∧ _
  refine ⟨hw _, ?_⟩
  refine z_yes ?_
  refine z_ifT ?_
  rw [e]
  have hi' : i < m := by simpa using hi
  exact mono _ _ _ _ (fun y H4 ⟨e1, e2⟩ => ⟨acc, e1, Nat.lt_of_lt_of_le (show acc.length < 1000 by omega) (by decide), acc ++ [y], by simp [hl], upd_same, e2⟩) (hs i D acc H' (by simpa using hi) hl hH p)
end
end Z
namespace Z
open PySem PySem.Spec PyProof.Rows L2
section
variable {K : PySem.W.Frag} {H : Hp} {Q : VK} {p : Addr} {xs : List V} {σ : L2.St} {i : Int} {RO : Option Int → Hp → Prop} {te : TE} {tl th : TO}
theorem z_sl {g : V → Option Int → Option Int → Hp → VK → Prop} (h : te σ H fun x H1 => tl σ H1 fun l H2 => th σ H2 fun u H3 => g x l u H3 Q) : tSl g te tl th σ H Q := h
theorem z_noPart (q : RO none H) : tNoPart σ H RO := q
theorem z_part (h : te σ H fun x H1 => ∃ i, x = .int i ∧ RO (some i) H1) : tPart te σ H RO := h
theorem z_partI (q : RO (some i) H) : ∃ i', V.int i = .int i' ∧ RO (some i') H := ⟨i, rfl, q⟩
theorem z_slL {lo hi : Option Int} {ys : List V} (h : SqL K H p xs) (e : cutV xs lo hi = ys) (q : ∀ a H', H a = none → Same H H' → H' a = some (.lst ys) → Q (.ref a) H') : rSlL K (.ref p) lo hi H Q := by
  subst e
  exact ⟨p, xs, rfl, h, fun a ha => q a _ ha (same_upd ha) upd_same⟩
end
end Z
namespace Z
open PySem PySem.Spec PyProof.Rows L2
theorem z_slT {K : PySem.W.Frag} {H : Hp} {Q : VK} {p : Addr} {xs ys : List V} {lo hi : Option Int} (h : SqT K H p xs) (hn : ¬ (HT.sIx xs.length 0 lo = 0 ∧ HT.sIx xs.length xs.length hi = xs.length)) (e : cutV xs lo hi = ys)
    (q : ∀ a H', H a = none → Same H H' → H' a = some (.tup ys) → Q (.ref a) H') : rSlT K (.ref p) lo hi H Q := by
  subst e
  exact ⟨p, xs, rfl, h, hn, fun a ha => q a _ ha (same_upd ha) upd_same⟩
theorem eqv_q (a b : Rat) : PyData.eqv (qD a) (qD b) = decide (a = b) := by
  show (a.num == b.num && ((a.den : Int) == (b.den : Int) && true)) = decide (a = b)
  by_cases h : a = b
  · subst h
    simp
  · rw [decide_eq_false h]
    by_cases h1 : a.num = b.num
    · have h2 : ¬ (a.den : Int) = b.den := fun z => h (Rat.ext h1 (by omega))
      simp [h2]
    · simp [h1]
theorem shaped_q (a : Rat) : SeqAt.shaped (qD a) = true := rfl
theorem z_eqQ {K : PySem.W.Frag} {x y : V} {a b : Rat} {H : Hp} {Q : VK} (h1 : Dp K H x (qD a)) (h2 : Dp K H y (qD b)) (q : Q (.bl (decide (a = b))) H) : rEqD K x y H Q := ⟨qD a, qD b, h1, h2, shaped_q a, shaped_q b, by rw [eqv_q]; exact q⟩
theorem z_neQ {K : PySem.W.Frag} {x y : V} {a b : Rat} {H : Hp} {Q : VK} (h1 : Dp K H x (qD a)) (h2 : Dp K H y (qD b)) (q : Q (.bl (decide (¬ a = b))) H) : rNeD K x y H Q := ⟨qD a, qD b, h1, h2, shaped_q a, shaped_q b, by
  rw [eqv_q, show (!decide (a = b)) = decide (¬ a = b) by simp]
  exact q⟩
theorem z_neSame {K : PySem.W.Frag} {x y : V} {d : PyData} {H : Hp} {Q : VK} (h1 : Dp K H x d) (h2 : Dp K H y d) (s : SeqAt.shaped d = true) (q : Q (.bl false) H) : rNeD K x y H Q :=
  ⟨d, d, h1, h2, s, s, by rw [SeqAt.eqv_refl d (SeqAt.canLay_of_shaped s)]; exact q⟩
end Z
namespace Z
open PySem PySem.Spec PyProof.Rows L2
def rIsN : R2 := fun x y H Q => y = .non ∧ Q (.bl (decide (x = .non))) H
def rNotN : R2 := fun x y H Q => y = .non ∧ Q (.bl (!decide (x = .non))) H
theorem op_isN1 {X : Cx} : OpR X (compareOp .Is) rIsN := op_isN
theorem op_notN1 {X : Cx} : OpR X (compareOp .IsNot) rNotN := op_notN
section
variable {σ : L2.St} {H : Hp} {n : L2.St → Hp → Prop} {r : VK} {b c : L2.St → Hp → Prop} {tb : TS} {K : PySem.W.Frag} {Q : VK} {p : Addr} {v y : V} {xs : List V}
theorem z_isNN (q : Q (.bl true) H) : rIsN .non .non H Q := ⟨rfl, by simpa using q⟩
theorem z_isNR (q : Q (.bl false) H) : rIsN (.ref p) .non H Q := ⟨rfl, by simpa using q⟩
theorem z_notNN (q : Q (.bl false) H) : rNotN .non .non H Q := ⟨rfl, by simpa using q⟩
theorem z_notNR (q : Q (.bl true) H) : rNotN (.ref p) .non H Q := ⟨rfl, by simpa using q⟩
theorem z_bmL {r : V → List V → Hp → VK → Prop} {to : TE} {t : TA} (ho : ∀ R : VK, R (.ref p) H → to σ H R) (hp : H p = some (.lst xs)) (h : t σ H fun vs H2 => r (.ref p) vs H2 Q) : tBM K "list" r to t σ H Q :=
  ho _ ⟨.inl ⟨rfl, _, .inl (.inl hp)⟩, h⟩
theorem z_append (hp : H p = some (.lst xs)) (hl : xs.length < 1000) (q : Q .non (upd H p (.lst (xs ++ [y])))) : rAppend (.ref p) [y] H Q := ⟨p, xs, y, rfl, rfl, hp, Nat.lt_of_lt_of_le hl (by decide), q⟩
/-- the list that a for goes over, made on the way -/
def ForL (K : PySem.W.Frag) (g : TG) (tb : TS) (n : L2.St → Hp → Prop) (r : VK) (b c : L2.St → Hp → Prop) (σ : L2.St) : VK := fun x H1 => tFor (iList K (tC x)) g tb ⟨n, r, b, c⟩ σ H1
theorem z_forE {tl : TE} {g : TG} (h : tl σ H (ForL K g tb n r b c σ)) : tFor (iList K tl) g tb ⟨n, r, b, c⟩ σ H := h
/-- [e for x in l], where e answers at once -/
theorem z_lcM {tl : TE} {k : Nat} {te : TE} {vs : List Nat} {a : Addr} {xs ws : List V} (hlen : ws.length = xs.length) (hm : xs.length ≤ 1000) (ha : ∀ R : VK, R (.ref a) H → tl σ H R) (hx : H a = some (.lst xs)) (hw : ∀ x, wipe ((wipe σ vs).set k (some x)) vs = wipe σ vs)
    (body : ∀ (i : Nat) (x w : V) (H' : Hp), xs[i]? = some x → ws[i]? = some w → Same H H' → ∀ R : VK, R w H' → te ((wipe σ vs).set k (some x)) H' R)
    (hd : ∀ D H', H D = none → Same H H' → H' D = some (.lst ws) → Q (.ref D) H') : tLc (iList K tl) (gName k) tYes te vs σ H Q := by
  refine ha _ ⟨a, rfl, ⟨xs, .inl (.inl hx)⟩, fun D hD => ?_⟩
  have hDa : a ≠ D := ne_of_none hx hD
  refine lc_list (xs := xs) (fun i H' => Same H H' ∧ H' D = some (.lst (ws.take i)) ∧ H' a = some (.lst xs)) ⟨same_upd hD, upd_same, by rw [upd_ne hDa]; exact hx⟩ (fun i H' _ h => .inl (.inl h.2.2)) (fun i x H' hi ⟨s, hH, h3⟩ => ?_) (fun H' ⟨s, hH, _⟩ => hd D H' hD s (by rw [hH, ← hlen, List.take_length]))
  show wipe ((wipe σ vs).set k (some x)) vs = wipe σ vs ∧ _
  refine ⟨hw _, ?_⟩
  refine z_yes ?_
  refine z_ifT ?_
  have hi' : i < xs.length := by
    rcases Nat.lt_or_ge i xs.length with h | h
    · exact h
    · rw [List.getElem?_eq_none h] at hi
      cases hi
  have hiw : i < ws.length := by omega
  have hw' : ws[i]? = some ws[i] := List.getElem?_eq_getElem hiw
  refine body i x _ H' hi hw' s _ ?_
  refine ⟨_, hH, Nat.lt_of_lt_of_le (show (ws.take i).length < 1000 by rw [List.length_take]; omega) (by decide), fun q x' e => ?_, ?_, ?_⟩
  · have hq : q ≠ D := ne_of_none e hD
    rw [upd_ne hq]
    exact s _ _ e
  · rw [upd_same, List.take_add_one, hw']
    rfl
  · rw [upd_ne hDa]
    exact h3
end
/-! ### numbers over a common denominator -/
def Zb (r : Rat) (N M : Nat) : Prop := ∃ k : Int, r * (N : Rat) = (k : Rat) ∧ k.natAbs ≤ M
theorem zb_add {a b : Rat} {N M M' : Nat} (h : Zb a N M) (h' : Zb b N M') : Zb (a + b) N (M + M') := by
  obtain ⟨k, e, l⟩ := h
  obtain ⟨k', e', l'⟩ := h'
  exact ⟨k + k', by rw [Rat.add_mul, e, e', Rat.intCast_add], by omega⟩
theorem zb_neg {a : Rat} {N M : Nat} (h : Zb a N M) : Zb (-a) N M := by
  obtain ⟨k, e, l⟩ := h
  exact ⟨-k, by rw [Rat.neg_mul, e, Rat.intCast_neg], by omega⟩
theorem zb_sub {a b : Rat} {N M M' : Nat} (h : Zb a N M) (h' : Zb b N M') : Zb (a - b) N (M + M') := by
  rw [Rat.sub_eq_add_neg]
  exact zb_add h (zb_neg h')
theorem zb_mul {a b : Rat} {N N' M M' : Nat} (h : Zb a N M) (h' : Zb b N' M') : Zb (a * b) (N * N') (M * M') := by
  obtain ⟨k, e, l⟩ := h
  obtain ⟨k', e', l'⟩ := h'
  refine ⟨k * k', ?_, by rw [Int.natAbs_mul]; exact Nat.mul_le_mul l l'⟩
  rw [Rat.natCast_mul, Rat.intCast_mul, ← e, ← e']
  grind
theorem zb_up {a : Rat} {N M : Nat} (c : Nat) (h : Zb a N M) : Zb a (N * c) (M * c) := by
  obtain ⟨k, e, l⟩ := h
  refine ⟨k * (c : Int), ?_, by rw [Int.natAbs_mul]; exact Nat.mul_le_mul l (by omega)⟩
  rw [Rat.natCast_mul, Rat.intCast_mul, ← e, Rat.intCast_natCast]
  grind
theorem Zb.le {a : Rat} {N M M' : Nat} (h : Zb a N M) (l : M ≤ M') : Zb a N M' := by
  obtain ⟨k, e, l'⟩ := h
  exact ⟨k, e, Nat.le_trans l' l⟩
theorem Zb.bd {a : Rat} {N M : Nat} (h : Zb a N M) (h0 : N ≠ 0) : Bd a M N := by
  obtain ⟨k, e, l⟩ := h
  have hN : (N : Rat) ≠ 0 := fun z => h0 (by exact_mod_cast z)
  have e2 : a = Rat.divInt k (N : Int) := by
    rw [Rat.divInt_eq_div, ← e, Rat.intCast_natCast]
    grind
  rw [e2]
  exact (bd_divInt (by omega)).le l (by omega)
theorem zb_divInt {n d : Int} {N M c : Nat} (hd : d ≠ 0) (hN : (N : Int) = d * (c : Int)) (hl : n.natAbs * c ≤ M) : Zb (Rat.divInt n d) N M := by
  refine ⟨n * (c : Int), ?_, by rw [Int.natAbs_mul]; exact hl⟩
  have hd' : (d : Rat) ≠ 0 := fun z => hd (by exact_mod_cast z)
  have e : (N : Rat) = (d : Rat) * (c : Rat) := by
    rw [← Rat.intCast_natCast N, hN, Rat.intCast_mul, Rat.intCast_natCast]
  rw [Rat.divInt_eq_div, e, Rat.intCast_mul, Rat.intCast_natCast]
  grind
theorem zb_of {r : Rat} {p q N M : Nat} (h : Bd r p q) (hN : ∀ d, d ≤ q → d ≠ 0 → d ∣ N) (hl : p * N ≤ M) : Zb r N M := by
  obtain ⟨c, hc⟩ := hN r.den h.2 r.den_nz
  have hd := r.den_nz
  have e := zb_divInt (n := r.num) (d := (r.den : Int)) (N := N) (M := M) (c := c) (by omega) (by exact_mod_cast hc) (Nat.le_trans (Nat.mul_le_mul h.1 (show c ≤ N by rw [hc]; exact Nat.le_mul_of_pos_left _ (by omega))) hl)
  rwa [Rat.num_divInt_den] at e
end Z

namespace Z
open PySem PySem.Spec PyProof.Rows L2
def RevQ (K : PySem.W.Frag) (Q : VK) : VK := fun x H1 => ∃ a xs, x = .ref a ∧ SqL K H1 a xs ∧ ∀ p, H1 p = none → Q (.ref p) (upd H1 p (.lst xs.reverse))
section
variable {K : PySem.W.Frag} {H : Hp} {Q : VK} {p q : Addr} {xs ys : List V} {y : V} {σ : L2.St}
theorem z_revL {te : TE} (h : te σ H (RevQ K Q)) : tRevL K te σ H Q := h
theorem z_revE (h : SqL K H p xs) (k : ∀ a H', H a = none → Same H H' → H' a = some (.lst xs.reverse) → Q (.ref a) H') : RevQ K Q (.ref p) H :=
  ⟨p, xs, rfl, h, fun l hl => k l _ hl (same_upd hl) upd_same⟩
theorem z_pop (hp : H p = some (.lst (xs ++ [y]))) (k : Q y (upd H p (.lst xs))) : rPop (.ref p) [] H Q :=
  ⟨p, xs ++ [y], y, rfl, rfl, hp, by simp, by simpa using k⟩
theorem z_cat (h1 : H p = some (.lst xs)) (h2 : H q = some (.lst ys)) (hl : xs.length + ys.length ≤ 1000) (k : ∀ a H', H a = none → Same H H' → H' a = some (.lst (xs ++ ys)) → Q (.ref a) H') : rCat (.ref p) (.ref q) H Q :=
  ⟨p, q, xs, ys, rfl, rfl, h1, h2, sz hl, fun a ha => k a _ ha (same_upd ha) upd_same⟩
theorem z_extend (h1 : H p = some (.lst xs)) (h2 : H q = some (.lst ys)) (hl : xs.length + ys.length ≤ 1000) (k : Q .non (upd H p (.lst (xs ++ ys)))) : rExtend (.ref p) [.ref q] H Q :=
  ⟨p, q, xs, ys, rfl, rfl, h1, h2, sz hl, k⟩
theorem z_bm0L {r : V → List V → Hp → VK → Prop} {to : TE} (ho : ∀ R : VK, R (.ref p) H → to σ H R) (hp : H p = some (.lst xs)) (h : r (.ref p) [] H Q) : tBM0 K "list" r to σ H Q :=
  ho _ ⟨.inl ⟨rfl, _, .inl (.inl hp)⟩, h⟩
end
end Z

namespace G
open PySem PySem.Spec PyProof.Rows L2 Z
def topS (i : Nat) : Stmt := PySem.Challenge.pw_fontwinding_k21_outline_of_a_path.main.body.getD i (.Pass ⟨0, 0, 0, 0⟩)
abbrev s_nearest : Stmt := topS 1
abbrev s_sixty_fourths : Stmt := topS 2
abbrev s_length : Stmt := topS 4
abbrev s_segment_at : Stmt := topS 6
abbrev s_grid_point : Stmt := topS 10
abbrev s_outline : Stmt := topS 11
abbrev s_laid_out_segment : Stmt := topS 12
abbrev s_lay_out : Stmt := topS 13
abbrev s_is_flat : Stmt := topS 14
abbrev s_is_small : Stmt := topS 15
abbrev s_middle : Stmt := topS 16
abbrev s__law_cell : Stmt := topS 18
abbrev s__law_stream : Stmt := topS 19
abbrev s__law_next : Stmt := topS 20
abbrev s__law_is_integer : Stmt := topS 21
abbrev s__law_ratio : Stmt := topS 22
abbrev s__law_drawn_number : Stmt := topS 23
abbrev s__law_drawn_point : Stmt := topS 24
abbrev s__law_drawn_path : Stmt := topS 25
abbrev s__law_is_grid_list : Stmt := topS 26
abbrev s__law_middle : Stmt := topS 27
abbrev s__law_bends : Stmt := topS 28
abbrev s__law_lay_out : Stmt := topS 29
abbrev s__law_grid : Stmt := topS 30
abbrev s_law : Stmt := topS 31
theorem sc_nearest : FnScope ["a"] ["a"] (defScope s_nearest) := ⟨rfl, rfl, rfl, by decide +kernel, rfl, by decide +kernel, by decide +kernel⟩
theorem sc_sixty_fourths : FnScope ["a"] ["a"] (defScope s_sixty_fourths) := ⟨rfl, rfl, rfl, by decide +kernel, rfl, by decide +kernel, by decide +kernel⟩
theorem sc_length : FnScope ["path"] ["path"] (defScope s_length) := ⟨rfl, rfl, rfl, by decide +kernel, rfl, by decide +kernel, by decide +kernel⟩
theorem sc_segment_at : FnScope ["path", "n", "knots", "segments", "_", "at"] ["path", "n"] (defScope s_segment_at) := ⟨rfl, rfl, rfl, by decide +kernel, rfl, by decide +kernel, by decide +kernel⟩
theorem sc_grid_point : FnScope ["point"] ["point"] (defScope s_grid_point) := ⟨rfl, rfl, rfl, by decide +kernel, rfl, by decide +kernel, by decide +kernel⟩
theorem sc_outline : FnScope ["path", "found", "n", "a", "segment", "b"] ["path"] (defScope s_outline) := ⟨rfl, rfl, rfl, by decide +kernel, rfl, by decide +kernel, by decide +kernel⟩
theorem sc_laid_out_segment : FnScope ["a", "segment", "b"] ["a", "segment", "b"] (defScope s_laid_out_segment) := ⟨rfl, rfl, rfl, by decide +kernel, rfl, by decide +kernel, by decide +kernel⟩
theorem sc_lay_out : FnScope ["a", "b", "c", "d", "depth", "e", "f", "g", "h", "k", "m"] ["a", "b", "c", "d", "depth"] (defScope s_lay_out) := ⟨rfl, rfl, rfl, by decide +kernel, rfl, by decide +kernel, by decide +kernel⟩
theorem sc_is_flat : FnScope ["a", "b", "c"] ["a", "b", "c"] (defScope s_is_flat) := ⟨rfl, rfl, rfl, by decide +kernel, rfl, by decide +kernel, by decide +kernel⟩
theorem sc_is_small : FnScope ["bend"] ["bend"] (defScope s_is_small) := ⟨rfl, rfl, rfl, by decide +kernel, rfl, by decide +kernel, by decide +kernel⟩
theorem sc_middle : FnScope ["p", "q"] ["p", "q"] (defScope s_middle) := ⟨rfl, rfl, rfl, by decide +kernel, rfl, by decide +kernel, by decide +kernel⟩
theorem sc__law_cell : FnScope ["script", "k"] ["script", "k"] (defScope s__law_cell) := ⟨rfl, rfl, rfl, by decide +kernel, rfl, by decide +kernel, by decide +kernel⟩
theorem sc__law_stream : FnScope ["cell"] ["cell"] (defScope s__law_stream) := ⟨rfl, rfl, rfl, by decide +kernel, rfl, by decide +kernel, by decide +kernel⟩
theorem sc__law_next : FnScope ["stream", "size", "drawn", "mixed"] ["stream", "size"] (defScope s__law_next) := ⟨rfl, rfl, rfl, by decide +kernel, rfl, by decide +kernel, by decide +kernel⟩
theorem sc__law_is_integer : FnScope ["actual"] ["actual"] (defScope s__law_is_integer) := ⟨rfl, rfl, rfl, by decide +kernel, rfl, by decide +kernel, by decide +kernel⟩
theorem sc__law_ratio : FnScope ["n", "d", "a", "b", "k"] ["n", "d"] (defScope s__law_ratio) := ⟨rfl, rfl, rfl, by decide +kernel, rfl, by decide +kernel, by decide +kernel⟩
theorem sc__law_drawn_number : FnScope ["stream", "mode"] ["stream", "mode"] (defScope s__law_drawn_number) := ⟨rfl, rfl, rfl, by decide +kernel, rfl, by decide +kernel, by decide +kernel⟩
theorem sc__law_drawn_point : FnScope ["stream", "mode", "x"] ["stream", "mode"] (defScope s__law_drawn_point) := ⟨rfl, rfl, rfl, by decide +kernel, rfl, by decide +kernel, by decide +kernel⟩
theorem sc__law_drawn_path : FnScope ["stream", "mode", "count", "is_cycle", "knots", "k", "segments", "first"] ["stream"] (defScope s__law_drawn_path) := ⟨rfl, rfl, rfl, by decide +kernel, rfl, by decide +kernel, by decide +kernel⟩
theorem sc__law_is_grid_list : FnScope ["actual", "point"] ["actual"] (defScope s__law_is_grid_list) := ⟨rfl, rfl, rfl, by decide +kernel, rfl, by decide +kernel, by decide +kernel⟩
theorem sc__law_middle : FnScope ["p", "q"] ["p", "q"] (defScope s__law_middle) := ⟨rfl, rfl, rfl, by decide +kernel, rfl, by decide +kernel, by decide +kernel⟩
theorem sc__law_bends : FnScope ["p", "q", "r", "x", "y"] ["p", "q", "r"] (defScope s__law_bends) := ⟨rfl, rfl, rfl, by decide +kernel, rfl, by decide +kernel, by decide +kernel⟩
theorem sc__law_lay_out : FnScope ["a", "b", "c", "d", "depth", "waiting", "found", "step", "e", "f", "g", "h", "k", "m"] ["a", "b", "c", "d", "depth"] (defScope s__law_lay_out) := ⟨rfl, rfl, rfl, by decide +kernel, rfl, by decide +kernel, by decide +kernel⟩
theorem sc__law_grid : FnScope ["point", "x", "y"] ["point"] (defScope s__law_grid) := ⟨rfl, rfl, rfl, by decide +kernel, rfl, by decide +kernel, by decide +kernel⟩
theorem sc_law : FnScope ["script", "path", "knots", "segments", "is_cycle", "expected", "k", "start", "end", "first", "second", "handed", "actual"] ["script"] (defScope s_law) := ⟨rfl, rfl, rfl, by decide +kernel, rfl, by decide +kernel, by decide +kernel⟩
structure Txt (K : PySem.W.Frag) (mg : Str → Option Value) (A : Nat → Addr) (D : Nat → FuncData) : Prop where
  F_nearest : Fun K "nearest" "nearest" s_nearest (A 0) (D 0)
  m_nearest : mg "nearest" = some (.ref (A 0))
  b_nearest : Binds K (D 0) ["a"] []
  F_sixty_fourths : Fun K "sixty_fourths" "sixty_fourths" s_sixty_fourths (A 1) (D 1)
  m_sixty_fourths : mg "sixty_fourths" = some (.ref (A 1))
  b_sixty_fourths : Binds K (D 1) ["a"] []
  F_length : Fun K "length" "length" s_length (A 2) (D 2)
  m_length : mg "length" = some (.ref (A 2))
  b_length : Binds K (D 2) ["path"] []
  F_segment_at : Fun K "segment_at" "segment_at" s_segment_at (A 3) (D 3)
  m_segment_at : mg "segment_at" = some (.ref (A 3))
  b_segment_at : Binds K (D 3) ["path", "n"] []
  F_grid_point : Fun K "grid_point" "grid_point" s_grid_point (A 4) (D 4)
  m_grid_point : mg "grid_point" = some (.ref (A 4))
  b_grid_point : Binds K (D 4) ["point"] []
  F_outline : Fun K "outline" "outline" s_outline (A 5) (D 5)
  m_outline : mg "outline" = some (.ref (A 5))
  b_outline : Binds K (D 5) ["path"] []
  F_laid_out_segment : Fun K "laid_out_segment" "laid_out_segment" s_laid_out_segment (A 6) (D 6)
  m_laid_out_segment : mg "laid_out_segment" = some (.ref (A 6))
  b_laid_out_segment : Binds K (D 6) ["a", "segment", "b"] []
  F_lay_out : Fun K "lay_out" "lay_out" s_lay_out (A 7) (D 7)
  m_lay_out : mg "lay_out" = some (.ref (A 7))
  b_lay_out : Binds K (D 7) ["a", "b", "c", "d", "depth"] []
  F_is_flat : Fun K "is_flat" "is_flat" s_is_flat (A 8) (D 8)
  m_is_flat : mg "is_flat" = some (.ref (A 8))
  b_is_flat : Binds K (D 8) ["a", "b", "c"] []
  F_is_small : Fun K "is_small" "is_small" s_is_small (A 9) (D 9)
  m_is_small : mg "is_small" = some (.ref (A 9))
  b_is_small : Binds K (D 9) ["bend"] []
  F_middle : Fun K "middle" "middle" s_middle (A 10) (D 10)
  m_middle : mg "middle" = some (.ref (A 10))
  b_middle : Binds K (D 10) ["p", "q"] []
  F__law_cell : Fun K "_law_cell" "_law_cell" s__law_cell (A 11) (D 11)
  m__law_cell : mg "_law_cell" = some (.ref (A 11))
  b__law_cell : Binds K (D 11) ["script", "k"] []
  F__law_stream : Fun K "_law_stream" "_law_stream" s__law_stream (A 12) (D 12)
  m__law_stream : mg "_law_stream" = some (.ref (A 12))
  b__law_stream : Binds K (D 12) ["cell"] []
  F__law_next : Fun K "_law_next" "_law_next" s__law_next (A 13) (D 13)
  m__law_next : mg "_law_next" = some (.ref (A 13))
  b__law_next : Binds K (D 13) ["stream", "size"] []
  F__law_is_integer : Fun K "_law_is_integer" "_law_is_integer" s__law_is_integer (A 14) (D 14)
  m__law_is_integer : mg "_law_is_integer" = some (.ref (A 14))
  b__law_is_integer : Binds K (D 14) ["actual"] []
  F__law_ratio : Fun K "_law_ratio" "_law_ratio" s__law_ratio (A 15) (D 15)
  m__law_ratio : mg "_law_ratio" = some (.ref (A 15))
  b__law_ratio : Binds K (D 15) ["n", "d"] []
  F__law_drawn_number : Fun K "_law_drawn_number" "_law_drawn_number" s__law_drawn_number (A 16) (D 16)
  m__law_drawn_number : mg "_law_drawn_number" = some (.ref (A 16))
  b__law_drawn_number : Binds K (D 16) ["stream", "mode"] []
  F__law_drawn_point : Fun K "_law_drawn_point" "_law_drawn_point" s__law_drawn_point (A 17) (D 17)
  m__law_drawn_point : mg "_law_drawn_point" = some (.ref (A 17))
  b__law_drawn_point : Binds K (D 17) ["stream", "mode"] []
  F__law_drawn_path : Fun K "_law_drawn_path" "_law_drawn_path" s__law_drawn_path (A 18) (D 18)
  m__law_drawn_path : mg "_law_drawn_path" = some (.ref (A 18))
  b__law_drawn_path : Binds K (D 18) ["stream"] []
  F__law_is_grid_list : Fun K "_law_is_grid_list" "_law_is_grid_list" s__law_is_grid_list (A 19) (D 19)
  m__law_is_grid_list : mg "_law_is_grid_list" = some (.ref (A 19))
  b__law_is_grid_list : Binds K (D 19) ["actual"] []
  F__law_middle : Fun K "_law_middle" "_law_middle" s__law_middle (A 20) (D 20)
  m__law_middle : mg "_law_middle" = some (.ref (A 20))
  b__law_middle : Binds K (D 20) ["p", "q"] []
  F__law_bends : Fun K "_law_bends" "_law_bends" s__law_bends (A 21) (D 21)
  m__law_bends : mg "_law_bends" = some (.ref (A 21))
  b__law_bends : Binds K (D 21) ["p", "q", "r"] []
  F__law_lay_out : Fun K "_law_lay_out" "_law_lay_out" s__law_lay_out (A 22) (D 22)
  m__law_lay_out : mg "_law_lay_out" = some (.ref (A 22))
  b__law_lay_out : Binds K (D 22) ["a", "b", "c", "d", "depth"] []
  F__law_grid : Fun K "_law_grid" "_law_grid" s__law_grid (A 23) (D 23)
  m__law_grid : mg "_law_grid" = some (.ref (A 23))
  b__law_grid : Binds K (D 23) ["point"] []
  F_law : Fun K "law" "law" s_law (A 24) (D 24)
  m_law : mg "law" = some (.ref (A 24))
  b_law : Binds K (D 24) ["script"] []
  z_abs : mg "abs" = none
  z_bool : mg "bool" = none
  z_int : mg "int" = none
  z_isinstance : mg "isinstance" = none
  z_len : mg "len" = none
  z_list : mg "list" = none
  z_range : mg "range" = none
  z_tuple : mg "tuple" = none
  c_DEEPEST : ∃ u, mg "DEEPEST" = some u ∧ RelV (.int (5)) u
  c_MOST_BENT : ∃ u, mg "MOST_BENT" = some u ∧ RelV (.int (16)) u
local macro_rules | `(tactic| walk_at "z1") => `(tactic| first
  | with_reducible refine z_seq ?_
  | with_reducible refine z_asg ?_
  | with_reducible refine z_asgS ?_
  | with_reducible refine z_ifs ?_
  | ((with_reducible refine' z_var ?h ?_); case h => with_unfolding_all exact rfl)
  | with_reducible refine z_c ?_
  | with_reducible refine z_op ?_
  | with_reducible refine z_un ?_
  | with_reducible refine z_I0 ?_
  | ((with_reducible refine z_I ?h ?_); case h => first | (exact Or.inr ⟨by decide, by decide⟩) | (exact Or.inl ⟨by decide, by decide⟩) | (show (0 : Int) < _; first | assumption | omega))
  | with_reducible refine z_U ?_
  | with_reducible refine z_eqI ?_
  | with_reducible refine z_neI ?_
  | with_reducible refine z_test ?_
  | with_reducible refine z_tB ?_
  | with_reducible refine z_bl ?_
  | with_reducible refine z_notT ?_
  | with_reducible refine z_andT ?_
  | with_reducible refine z_orT ?_
  | with_reducible refine z_andV ?_
  | with_reducible refine z_orV ?_
  | with_reducible refine z_notV ?_
  | with_reducible refine z_ifE ?_
  | with_reducible refine z_ifT ?_
  | with_reducible refine z_ifF ?_
  | with_reducible refine z_ifNT ?_
  | with_reducible refine z_ifNF ?_
  | with_reducible refine z_chain ?_
  | with_reducible refine z_nil ?_
  | with_reducible refine z_cons ?_
  | with_reducible refine z_tup ?_
  | with_reducible refine z_lst ?_
  | with_reducible refine z_cb ?_
  | with_reducible refine z_call ?_
  | with_reducible refine z_callS ?_
  | with_reducible refine z_int1 ?_
  | with_reducible refine z_int1b ?_
  | with_reducible refine z_abs ?_
  | with_reducible refine z_gcd ?_
  | with_reducible refine z_ret ?_
  | with_reducible refine z_retN ?_
  | with_reducible refine z_drop ?_
  | with_reducible refine z_next ?_
  | with_reducible refine z_brk ?_
  | with_reducible refine z_cont ?_
  | with_reducible refine z_par ?_
  | with_reducible refine z_two ?_
  | with_reducible refine z_asgT ?_
  | with_reducible refine z_sl ?_
  | with_reducible refine z_noPart ?_
  | with_reducible refine z_part ?_
  | with_reducible refine z_partI ?_
  | with_reducible refine z_gName ?_
  | with_reducible refine z_gcons ?_
  | with_reducible refine z_gnil ?_
  | ((with_reducible refine' z_up ?h ?hm ?_); (case h => walk_at "sq"); (case hm => exact rfl))
  | ((with_reducible refine' z_gT ?h ?hm ?_); (case h => walk_at "sq"); (case hm => exact rfl))
  | with_reducible refine z_isII ?_
  | with_reducible refine z_isNN ?_
  | with_reducible refine z_isNR ?_
  | with_reducible refine z_notNN ?_
  | with_reducible refine z_notNR ?_
  | with_reducible refine z_isIB ?_
  | with_reducible refine z_isBB ?_
  | ((with_reducible refine' z_isT ?h ?_); (case h => walk_at "sq"))
  | ((with_reducible refine' z_isLL ?h ?_); case h => assumption)
  | ((with_reducible refine z_newT ?h ?_); case h => exact Nat.le_of_ble_eq_true rfl)
  | ((with_reducible refine z_newL ?h ?_); case h => exact Nat.le_of_ble_eq_true rfl)
  | ((with_reducible refine' z_ixL ?h ?h2 ?_); (case h => walk_at "sq"); (case h2 => exact rfl))
  | ((with_reducible refine' z_ixT ?h ?h2 ?_); (case h => walk_at "sq"); (case h2 => exact rfl))
  | ((with_reducible refine' z_lenL ?h ?_); case h => walk_at "sq")
  | ((with_reducible refine' z_lenT ?h ?_); case h => walk_at "sq")
  | ((with_reducible refine z_ifYes ?h ?_); (case h => exact rfl))
  | ((with_reducible refine z_ifNo ?h ?_); (case h => exact rfl)))
local macro_rules | `(tactic| walk_at "sq") => `(tactic| first | assumption | exact Or.inl (Or.inl (by assumption)) | exact Or.inl (Or.inl upd_same))
local macro_rules | `(tactic| walk_at "z") => `(tactic| repeat (walk_at "z1"))
/-! ### promises -/
def sp__law_cell (K : PySem.W.Frag) : Sp := fun vs H Q _ => ∃ (l : Addr) (ns : List Int) (j : Nat), vs = [.ref l, .int (j : Int)] ∧ SqL K H l (ns.map V.int) ∧ ∀ v, Q (.int v) H
/-- a stream: three ints, whatever they are -/
def IsStm (H : Hp) (p : Addr) : Prop := ∃ a b m : Int, H p = some (.lst [.int a, .int b, .int m])
def sp__law_stream : Sp := fun vs H Q _ => ∃ c : Int, vs = [.int c] ∧ ∀ p H' a b m, H p = none → Same H H' → H' p = some (.lst [.int a, .int b, .int m]) → Q (.ref p) H'
def sp__law_next : Sp := fun vs H Q _ => ∃ (p : Addr) (z : Int), vs = [.ref p, .int z] ∧ IsStm H p ∧ 0 < z ∧ z.natAbs < 2 ^ 1000 ∧ ∀ v a b m, 0 ≤ v → v < z → Q (.int v) (upd H p (.lst [.int a, .int b, .int m]))
section
theorem ok__law_cell {P : Program} {w : World} {K : PySem.W.Frag} {mg : Str → Option Value} {base : Heap} {A : Nat → Addr} {D : Nat → FuncData} (T : Txt K mg A D) : FnOk P w K mg base (L2.CX P w) 1 (A 11) (D 11) ["script", "k"] (sp__law_cell K) := by
  refine T.F__law_cell.okX sc__law_cell (fun vs H Q E h => ?_) (fun cdv A' outer s H vs Q E hr h => ?_)
  · obtain ⟨l, ns, j, rfl, _⟩ := h
    rfl
  obtain ⟨l, ns, j, rfl, hS, q⟩ := h
  refine ⟨_, (pss_cons (ps_if (pt_cmpR op_lt (pv 1) (pe_callB Z.c_len (by rfl) T.z_len (by decide +kernel) (pa_cons (pv 0) pa_nil)) (nomark _))
  (pss_one (ps_ret (pe_ix ix_list (pv 0) (pv 1) (fun _ _ => rfl))))
  pss_nil)
  (pss_one (ps_ret pe_int))), ?_⟩
  walk_at "z"
  refine z_if (fun hj => ?_) (fun _ => ?_)
  · walk_at "z"
    rw [List.length_map] at hj
    have hj' : j < ns.length := by omega
    refine z_ixL hS (v := .int ns[j]) (atI_nat (by rw [List.getElem?_map, List.getElem?_eq_getElem hj']; rfl)) (q _)
  · walk_at "z"
    exact q 0
theorem ok__law_stream {P : Program} {w : World} {K : PySem.W.Frag} {mg : Str → Option Value} {base : Heap} {A : Nat → Addr} {D : Nat → FuncData} (T : Txt K mg A D) : FnOk P w K mg base (L2.CX P w) 1 (A 12) (D 12) ["cell"] sp__law_stream := by
  refine T.F__law_stream.okX sc__law_stream (fun vs H Q E h => ?_) (fun cdv A' outer s H vs Q E hr h => ?_)
  · obtain ⟨c, rfl, _⟩ := h
    rfl
  obtain ⟨c, rfl, q⟩ := h
  refine ⟨_, (pss_cons (ps_if (pt_cmpR op_ge (pv 0) (Z.pe_powc (v := 1000000000000000000) ⟨by decide, by decide, by decide⟩ (by decide)) (nomark _))
  (pss_one (ps_ret (pe_lst (pa_cons (pv 0) (pa_cons pe_int (pa_cons (pe_op op_mod (pe_callTy Z.c_int (by rfl) T.z_int (by decide +kernel) (pa_cons (pv 0) pa_nil)) pe_int) pa_nil))))))
  pss_nil)
  (pss_one (ps_ret (pe_lst (pa_cons pe_int (pa_cons pe_int (pa_cons (pe_op op_mod (pe_callTy Z.c_int (by rfl) T.z_int (by decide +kernel) (pa_cons (pv 0) pa_nil)) pe_int) pa_nil))))))), ?_⟩
  walk_at "z"
  refine z_if (fun hj => ?_) (fun _ => ?_)
  · walk_at "z"
    exact fun p H' hp s h => q p H' _ _ _ hp s h
  · walk_at "z"
    exact fun p H' hp s h => q p H' _ _ _ hp s h
theorem ok__law_next {P : Program} {w : World} {K : PySem.W.Frag} {mg : Str → Option Value} {base : Heap} {A : Nat → Addr} {D : Nat → FuncData} (T : Txt K mg A D) : FnOk P w K mg base (L2.CX P w) 1 (A 13) (D 13) ["stream", "size"] sp__law_next := by
  refine T.F__law_next.okX sc__law_next (fun vs H Q E h => ?_) (fun cdv A' outer s H vs Q E hr h => ?_)
  · obtain ⟨p, z, rfl, _⟩ := h
    rfl
  obtain ⟨p, z, rfl, ⟨a, b, m, hp⟩, hz, hz2, q⟩ := h
  refine ⟨_, (pss_cons (ps_if (pt_cmpR op_gt (pe_ix ix_list (pv 0) pe_int (fun _ _ => rfl)) pe_int (nomark _))
  (pss_cons (ps_set (i := 2) sc__law_next.nd rfl (.inl rfl) (pe_op op_mod (pe_callTy Z.c_int (by rfl) T.z_int (by decide +kernel) (pa_cons (pe_ix ix_list (pv 0) pe_int (fun _ _ => rfl)) pa_nil)) (pv 1)))
  (pss_cons (ps_asg (pe_op op_fdivW (pe_ix ix_list (pv 0) pe_int (fun _ _ => rfl)) (pv 1)) (pg_sub (pv 0) pe_int set_list))
  (pss_one (ps_ret (pv 2)))))
  pss_nil)
  (pss_cons (ps_asg (pe_op op_add (pe_ix ix_list (pv 0) pe_int (fun _ _ => rfl)) pe_int) (pg_sub (pv 0) pe_int set_list))
  (pss_cons (ps_set (i := 3) sc__law_next.nd rfl (.inl rfl) (pe_op op_mod (pe_callTy Z.c_int (by rfl) T.z_int (by decide +kernel) (pa_cons (pe_op op_add (pe_op op_mul (pe_ix ix_list (pv 0) pe_int (fun _ _ => rfl)) pe_int) (pe_op op_mul (pe_ix ix_list (pv 0) pe_int (fun _ _ => rfl)) pe_int)) pa_nil)) pe_int))
  (pss_cons (ps_set (i := 3) sc__law_next.nd rfl (.inl rfl) (pe_op op_mod (pe_callTy Z.c_int (by rfl) T.z_int (by decide +kernel) (pa_cons (pe_op op_add (pe_op op_mulW (pv 3) (pv 3)) (pe_op op_mul (pe_ix ix_list (pv 0) pe_int (fun _ _ => rfl)) pe_int)) pa_nil)) pe_int))
  (pss_cons (ps_set (i := 3) sc__law_next.nd rfl (.inl rfl) (pe_op op_mod (pe_callTy Z.c_int (by rfl) T.z_int (by decide +kernel) (pa_cons (pe_op op_add (pe_op op_mul (pv 3) pe_int) (pe_ix ix_list (pv 0) pe_int (fun _ _ => rfl))) pa_nil)) pe_int))
  (pss_one (ps_ret (pe_op op_mod (pe_callTy Z.c_int (by rfl) T.z_int (by decide +kernel) (pa_cons (pv 3) pa_nil)) (pv 1))))))))), ?_⟩
  walk_at "z"
  refine z_if (fun hj => ?_) (fun _ => ?_)
  · walk_at "z"
    refine z_I (wide_div hz hz2 (by decide) (by decide)) ?_
    walk_at "z"
    refine z_setL hp rfl ?_
    walk_at "z"
    exact q _ _ _ _ (Int.emod_nonneg _ (by omega)) (Int.emod_lt_of_pos _ hz)
  · walk_at "z"
    refine z_setL hp rfl ?_
    have hp1 : (upd H p (HO.lst ([V.int a, V.int b, V.int m].set (Int.toNat 1) (V.int (b + 1))))) p = some (.lst [V.int a, V.int (b + 1), V.int m]) := upd_same
    walk_at "z"
    refine z_I ?_ ?_
    · exact wide_mul (a := 32) (b := 32) (by omega) (by omega) (by decide) (by decide) (by decide)
    walk_at "z"
    exact q _ _ _ _ (Int.emod_nonneg _ (by omega)) (Int.emod_lt_of_pos _ hz)
end
def sp__law_is_integer : Sp := fun vs H Q _ => ∃ i, vs = [.int i] ∧ Q (.bl true) H
section
theorem ok__law_is_integer {P : Program} {w : World} {K : PySem.W.Frag} {mg : Str → Option Value} {base : Heap} {A : Nat → Addr} {D : Nat → FuncData} (T : Txt K mg A D) : FnOk P w K mg base (L2.CX P w) 1 (A 14) (D 14) ["actual"] sp__law_is_integer := by
  refine T.F__law_is_integer.okX sc__law_is_integer (fun vs H Q E h => ?_) (fun cdv A' outer s H vs Q E hr h => ?_)
  · obtain ⟨i, rfl, _⟩ := h
    rfl
  obtain ⟨i, rfl, q⟩ := h
  refine ⟨_, (pss_one (ps_ret (pe_and (pe_callB call_isi (by rfl) T.z_isinstance (by decide +kernel) (pa_cons (pv 0) (pa_cons (pe_bltn (v := .ty "int") (by rfl) T.z_int (by decide +kernel) rfl) pa_nil))) (pe_one (pe_not (pe_callB call_isi (by rfl) T.z_isinstance (by decide +kernel) (pa_cons (pv 0) (pa_cons (pe_bltn (v := .ty "bool") (by rfl) T.z_bool (by decide +kernel) rfl) pa_nil)))))))), ?_⟩
  walk_at "z"
  exact q
end
theorem isI {i : Int} {H : Hp} {Q : VK} {E : XK} (q : Q (.bl true) H) : sp__law_is_integer [.int i] H Q E := ⟨i, rfl, q⟩
local macro_rules | `(tactic| walk_at "z1") => `(tactic| with_reducible refine isI ?_)

/-! ### numbers in lowest terms -/
theorem gd_pos {n d : Int} (h : d ≠ 0) : 0 < gd n d := by
  unfold gd
  have : 0 < Nat.gcd n.natAbs d.natAbs := Nat.gcd_pos_of_pos_right _ (by omega)
  omega
theorem gd_dvd_l (n d : Int) : gd n d ∣ n := by
  unfold gd
  exact Int.dvd_trans (Int.natCast_dvd_natCast.mpr (Nat.gcd_dvd_left _ _)) (Int.natAbs_dvd_self)
theorem gd_dvd_r (n d : Int) : gd n d ∣ d := by
  unfold gd
  exact Int.dvd_trans (Int.natCast_dvd_natCast.mpr (Nat.gcd_dvd_right _ _)) (Int.natAbs_dvd_self)
theorem rd_pos {n d : Int} (h : d ≠ 0) : 0 < rd n d := by
  have g := gd_pos (n := n) h
  obtain ⟨k, hk⟩ := gd_dvd_r n d
  unfold rd
  split
  · rename_i hd
    have e : -d = gd n d * (-k) := by rw [Int.mul_neg, ← hk]
    rw [e, Int.mul_ediv_cancel_left _ (by omega)]
    have : ¬ 0 ≤ k := fun z => by have := Int.mul_nonneg (Int.le_of_lt g) z; omega
    omega
  · rename_i hd
    have e : d / gd n d = k := Int.ediv_eq_of_eq_mul_right (by omega) hk
    rw [e]
    have : ¬ k ≤ 0 := fun z => by have := Int.mul_nonpos_of_nonneg_of_nonpos (Int.le_of_lt g) z; omega
    omega
/-- what the program divides: by the negative of the common divisor where d is negative -/
theorem fdiv_neg {n g : Int} (hg : 0 < g) (h : g ∣ n) : Int.fdiv n (-g) = -n / g := by
  obtain ⟨k, rfl⟩ := h
  rw [show g * k = (-g) * (-k) by rw [Int.neg_mul_neg], Int.mul_fdiv_cancel_left _ (by omega), Int.neg_mul_neg, show -(g * k) = g * (-k) by rw [Int.mul_neg], Int.mul_ediv_cancel_left _ (by omega)]
theorem fdiv_pos {n g : Int} (hg : 0 < g) : Int.fdiv n g = n / g := Int.fdiv_eq_ediv_of_nonneg _ (by omega)
theorem gd_log {n d : Int} {k : Nat} (h : d ≠ 0) (hd : d.natAbs < 2 ^ k) : (gd n d).natAbs < 2 ^ k := by
  have : Nat.gcd n.natAbs d.natAbs ≤ d.natAbs := Nat.gcd_le_right _ (by omega)
  unfold gd
  omega
theorem cfd {j : Int} (h : j ≠ 0) (hj : j.natAbs < 2 ^ 1000) : CFd 0 j := ⟨h, Nat.lt_of_lt_of_le (PySem.Flt.log2_lt_of (by decide) hj) (by decide)⟩
theorem lt4 {a : Nat} (h : a < 2 ^ 400) : a < 2 ^ 1000 := Nat.lt_of_lt_of_le h (Nat.pow_le_pow_right (by decide) (by decide))
theorem lt1000 {a : Nat} (h : a < 2 ^ 100) : a < 2 ^ 1000 := Nat.lt_of_lt_of_le h (Nat.pow_le_pow_right (by decide) (by decide))



/-! ### the draws of a law: the heap H0 stands, a stream stands at p -/
structure Sd (H0 H : Hp) (p : Addr) : Prop where
  same : Same H0 H
  fresh : H0 p = none
  stm : IsStm H p
theorem Sd.mk0 {H H' : Hp} {p : Addr} {a b m : Int} (h : H p = none) (s : Same H H') (e : H' p = some (.lst [.int a, .int b, .int m])) : Sd H H' p := ⟨s, h, a, b, m, e⟩
theorem Sd.mono {H0 H H' : Hp} {p : Addr} (S : Sd H0 H p) (s : Same H H') : Sd H0 H' p := by
  obtain ⟨a, b, m, e⟩ := S.stm
  exact ⟨S.same.trans s, S.fresh, a, b, m, s _ _ e⟩
theorem nx {H0 H : Hp} {p : Addr} {z : Int} {Q : VK} {E : XK} (S : Sd H0 H p) (hz : 0 < z) (hz2 : z.natAbs < 2 ^ 1000) (q : ∀ v H', 0 ≤ v → v < z → Sd H0 H' p → (∀ b, b ≠ p → H' b = H b) → Q (.int v) H') : sp__law_next [.ref p, .int z] H Q E := by
  refine ⟨p, z, rfl, S.stm, hz, hz2, fun v a b m h0 h1 => q v _ h0 h1 ⟨fun c o e => ?_, S.fresh, a, b, m, upd_same⟩ fun b hb => upd_ne hb⟩
  rw [upd_ne (ne_of_none e S.fresh)]
  exact S.same c o e
theorem Sd.ext {H0 H : Hp} {p q : Addr} {o : HO} (S : Sd H0 H p) (h : H q = none) : Sd H0 (upd H q o) p := by
  obtain ⟨a, b, m, hp⟩ := S.stm
  exact ⟨S.same.trans (same_upd h), S.fresh, a, b, m, by rw [upd_ne (ne_of_none hp h)]; exact hp⟩
theorem kp_refl {p : Addr} {H : Hp} : Kp p H H := fun _ _ _ e => e
theorem _root_.Z.Kp.trans' {p : Addr} {H H1 H2 : Hp} (a : Kp p H H1) (b : Kp p H1 H2) : Kp p H H2 := fun c o h e => b c o h (a c o h e)
theorem kp_eq {p : Addr} {H H' : Hp} (k : ∀ b, b ≠ p → H' b = H b) : Kp p H H' := fun b o h e => by
  rw [k b h]
  exact e
theorem kp_of {p : Addr} {H H' : Hp} (s : Same H H') : Kp p H H' := fun b x _ e => s b x e
theorem Sd.ne {H0 H : Hp} {p q : Addr} {xs : List V} (S : Sd H0 H p) (h : H q = some (.tup xs)) : q ≠ p := by
  obtain ⟨_, _, _, e⟩ := S.stm
  exact ne_of h e (by intro z; cases z)
theorem Sd.ne0 {H0 H : Hp} {p q : Addr} (S : Sd H0 H p) (h : H q = none) : q ≠ p := by
  obtain ⟨_, _, _, e⟩ := S.stm
  exact Ne.symm (ne_of_none e h)
theorem lt400 {a : Nat} (h : a < 2 ^ 100) : a < 2 ^ 400 := Nat.lt_of_lt_of_le h (Nat.pow_le_pow_right (by decide) (by decide))
theorem kp_sd {H0 H H' : Hp} {p : Addr} {K : PySem.W.Frag} {v : V} {d : PyData} (S : Sd H0 H p) (k : Kp p H H') (t : tupOnly d = true) (h : Dp K H v d) : Dp K H' v d := by
  obtain ⟨a, b, m, e⟩ := S.stm
  exact dp_kp k e t h
/-! ### the four operations, and comparing -/






/-! ### rounding -/
def near (n d : Int) : Int := (2 * n + d) / (2 * d)
/-- a pair of ints, the second one positive -/
def IsN (K : PySem.W.Frag) (H : Hp) (v : V) (n d : Int) : Prop := ∃ p, v = .ref p ∧ SqT K H p [.int n, .int d] ∧ 0 < d ∧ n.natAbs < 2 ^ 200 ∧ d.natAbs < 2 ^ 200
theorem IsN.mono {K : PySem.W.Frag} {H H' : Hp} {v : V} {n d : Int} (s : Same H H') (h : IsN K H v n d) : IsN K H' v n d := by
  obtain ⟨p, e, h1, h2⟩ := h
  exact ⟨p, e, seqT s h1, h2⟩
def sp_nearest (K : PySem.W.Frag) : Sp := fun vs H Q _ => ∃ (v : V) (n d : Int), vs = [v] ∧ IsN K H v n d ∧ Q (.int (near n d)) H
def sp_sixty_fourths (K : PySem.W.Frag) : Sp := fun vs H Q _ => ∃ (v : V) (n d : Int), vs = [v] ∧ IsN K H v n d ∧ n.natAbs < 2 ^ 100 ∧ ∀ H', Same H H' → Q (.int (near (64 * n) d)) H'
section
theorem ok_nearest {P : Program} {w : World} {K : PySem.W.Frag} {mg : Str → Option Value} {base : Heap} {A : Nat → Addr} {D : Nat → FuncData} (T : Txt K mg A D) : FnOk P w K mg base (L2.CX P w) 1 (A 0) (D 0) ["a"] (sp_nearest K) := by
  refine T.F_nearest.okX sc_nearest (fun vs H Q E h => ?_) (fun cdv A' outer s H vs Q E hr h => ?_)
  · obtain ⟨v, n, d, rfl, _⟩ := h
    rfl
  obtain ⟨_, n, d, rfl, ⟨p, rfl, hp, d0, hn, hd⟩, q⟩ := h
  refine ⟨_, (pss_one (ps_ret (pe_op op_fdivW (pe_op op_add (pe_op op_mul pe_int (pe_ix ix_tup (pv 0) pe_int (fun _ _ => rfl))) (pe_ix ix_tup (pv 0) pe_int (fun _ _ => rfl))) (pe_op op_mul pe_int (pe_ix ix_tup (pv 0) pe_int (fun _ _ => rfl)))))), ?_⟩
  walk_at "z"
  refine z_I (wide_div (b := 201) (by omega) (by omega) (by decide) (by decide)) ?_
  walk_at "z"
  exact q
theorem ok_sixty_fourths {P : Program} {w : World} {K : PySem.W.Frag} {mg : Str → Option Value} {base : Heap} {A : Nat → Addr} {D : Nat → FuncData} (T : Txt K mg A D) : FnOk P w K mg base (L2.CX P w) 2 (A 1) (D 1) ["a"] (sp_sixty_fourths K) := by
  refine T.F_sixty_fourths.okX sc_sixty_fourths (fun vs H Q E h => ?_) (fun cdv A' outer s H vs Q E hr h => ?_)
  · obtain ⟨v, n, d, rfl, _⟩ := h
    rfl
  obtain ⟨_, n, d, rfl, ⟨p, rfl, hp, d0, hn, hd⟩, hn2, q⟩ := h
  refine ⟨_, (pss_one (ps_ret (pe_call (ok_nearest T) (hr.mono (by decide)) (by rfl) T.m_nearest T.F_nearest.kp T.b_nearest .nil (passes_call (takes_of rfl rfl rfl rfl) (fun _ _ _ _ h => h)) (pa_cons (pe_tup (pa_cons (pe_op op_mul pe_int (pe_ix ix_tup (pv 0) pe_int (fun _ _ => rfl))) (pa_cons (pe_ix ix_tup (pv 0) pe_int (fun _ _ => rfl)) pa_nil))) pa_nil)))), ?_⟩
  walk_at "z"
  intro p1 H1 _ s1 h1
  walk_at "z"
  exact ⟨_, _, _, rfl, ⟨p1, rfl, .inl (.inl h1), d0, by omega, hd⟩, q _ s1⟩
end
theorem near_lo {n d : Int} (h : 0 < d) : (2 * near n d - 1) * d ≤ 2 * n := by
  unfold near
  have h1 := Int.mul_ediv_self_le (x := 2 * n + d) (k := 2 * d) (by omega)
  have e : (2 * ((2 * n + d) / (2 * d)) - 1) * d = 2 * d * ((2 * n + d) / (2 * d)) - d := by
    rw [Int.sub_mul, Int.one_mul, Int.mul_assoc, Int.mul_comm ((2 * n + d) / (2 * d)) d, ← Int.mul_assoc]
  omega
theorem near_hi {n d : Int} (h : 0 < d) : 2 * n < (2 * near n d + 1) * d := by
  unfold near
  have h1 := Int.lt_mul_ediv_self_add (x := 2 * n + d) (k := 2 * d) (by omega)
  have e : (2 * ((2 * n + d) / (2 * d)) + 1) * d = 2 * d * ((2 * n + d) / (2 * d)) + d := by
    rw [Int.add_mul, Int.one_mul, Int.mul_assoc, Int.mul_comm ((2 * n + d) / (2 * d)) d, ← Int.mul_assoc]
  omega
theorem near_abs {n d : Int} (h : 0 < d) : (near n d).natAbs ≤ 2 * n.natAbs + 1 := by
  have h1 := near_lo (n := n) h
  have h2 := near_hi (n := n) h
  have a1 : 2 * near n d - 1 ≤ 2 * n.natAbs := by
    rcases Int.le_total (2 * near n d - 1) 0 with z | z
    · omega
    · have := Int.mul_le_mul_of_nonneg_left (show (1 : Int) ≤ d by omega) z
      omega
  have a2 : -(2 * n.natAbs : Int) ≤ 2 * near n d + 1 := by
    rcases Int.le_total (2 * near n d + 1) 0 with z | z
    · have : (2 * near n d + 1) * d ≤ (2 * near n d + 1) * 1 := Int.mul_le_mul_of_nonpos_left z (by omega)
      omega
    · omega
  omega
def sp_grid_point (K : PySem.W.Frag) : Sp := fun vs H Q _ => ∃ (v w : V) (p : Addr) (n d m e : Int), vs = [.ref p] ∧ SqT K H p [v, w] ∧ IsN K H v n d ∧ IsN K H w m e ∧ n.natAbs < 2 ^ 100 ∧ m.natAbs < 2 ^ 100 ∧
  ∀ p' H', H p' = none → Same H H' → H' p' = some (.tup [.int (near (64 * n) d), .int (near (64 * m) e)]) → Q (.ref p') H'
section
theorem ok_grid_point {P : Program} {w : World} {K : PySem.W.Frag} {mg : Str → Option Value} {base : Heap} {A : Nat → Addr} {D : Nat → FuncData} (T : Txt K mg A D) : FnOk P w K mg base (L2.CX P w) 3 (A 4) (D 4) ["point"] (sp_grid_point K) := by
  refine T.F_grid_point.okX sc_grid_point (fun vs H Q E h => ?_) (fun cdv A' outer s H vs Q E hr h => ?_)
  · obtain ⟨v, w', p, n, d, m, e, rfl, _⟩ := h
    rfl
  obtain ⟨v, w', p, n, d, m, e, rfl, hp, h1, h2, b1, b2, q⟩ := h
  refine ⟨_, (pss_one (ps_ret (pe_tup (pa_cons (pe_call (ok_sixty_fourths T) (hr.mono (by decide)) (by rfl) T.m_sixty_fourths T.F_sixty_fourths.kp T.b_sixty_fourths .nil (passes_call (takes_of rfl rfl rfl rfl) (fun _ _ _ _ h => h)) (pa_cons (pe_ix ix_tup (pv 0) pe_int (fun _ _ => rfl)) pa_nil)) (pa_cons (pe_call (ok_sixty_fourths T) (hr.mono (by decide)) (by rfl) T.m_sixty_fourths T.F_sixty_fourths.kp T.b_sixty_fourths .nil (passes_call (takes_of rfl rfl rfl rfl) (fun _ _ _ _ h => h)) (pa_cons (pe_ix ix_tup (pv 0) pe_int (fun _ _ => rfl)) pa_nil)) pa_nil))))), ?_⟩
  walk_at "z"
  refine ⟨_, n, d, rfl, h1, b1, fun H1 s1 => ?_⟩
  walk_at "z"
  refine z_ixT (seqT s1 hp) rfl ?_
  refine ⟨_, m, e, rfl, h2.mono s1, b2, fun H2 s2 => ?_⟩
  walk_at "z"
  intro p3 H3 h0 s3 h3
  have sm := (s1.trans s2).trans s3
  refine q p3 H3 ?_ sm h3
  cases hh : H p3 with
  | none => rfl
  | some o => rw [(s1.trans s2) _ _ hh] at h0; cases h0
end
/-! ### grid points -/
abbrev GP := Int × Int
def gD (z : GP) : PyData := .tuple [.int z.1, .int z.2]
/-- both parts within N -/
def Gb (N : Nat) (z : GP) : Prop := z.1.natAbs ≤ N ∧ z.2.natAbs ≤ N
theorem Gb.le {N M : Nat} {z : GP} (h : Gb N z) (l : N ≤ M) : Gb M z := ⟨Nat.le_trans h.1 l, Nat.le_trans h.2 l⟩
theorem dp_g {K : PySem.W.Frag} {H : Hp} {v : V} {z : GP} (h : Dp K H v (gD z)) : ∃ p, v = .ref p ∧ SqT K H p [.int z.1, .int z.2] := by
  obtain ⟨p, v1, v2, e, hS, h1, h2⟩ := dp_t2 h
  rw [dp_int h1, dp_int h2] at hS
  exact ⟨p, e, hS⟩
theorem dp_mkg {K : PySem.W.Frag} {H : Hp} {p : Addr} {x y : Int} (h : H p = some (.tup [.int x, .int y])) : Dp K H (.ref p) (gD (x, y)) := dp_mk h (.cons (.int _) (.cons (.int _) .nil))
theorem dp_seqg {K : PySem.W.Frag} {H : Hp} {p : Addr} {x y : Int} (h : SqT K H p [.int x, .int y]) : Dp K H (.ref p) (gD (x, y)) := .tup h (.cons (.int _) (.cons (.int _) .nil))
/-- values that stand for grid points -/
def Gs (K : PySem.W.Frag) (H : Hp) : List V → List GP → Prop
  | [], [] => True
  | v :: vs, z :: zs => Dp K H v (gD z) ∧ Gs K H vs zs
  | _, _ => False
section
variable {K : PySem.W.Frag} {H H' : Hp}
theorem Gs.len : ∀ {vs : List V} {zs : List GP}, Gs K H vs zs → vs.length = zs.length
  | [], [], _ => rfl
  | _ :: _, _ :: _, h => congrArg (· + 1) (Gs.len h.2)
theorem Gs.mono (s : Same H H') : ∀ {vs : List V} {zs : List GP}, Gs K H vs zs → Gs K H' vs zs
  | [], [], _ => trivial
  | _ :: _, _ :: _, h => ⟨dp_mono s h.1, Gs.mono s h.2⟩
theorem Gs.kp {p : Addr} {xs : List V} (k : Kp p H H') (hp : H p = some (.lst xs)) : ∀ {vs : List V} {zs : List GP}, Gs K H vs zs → Gs K H' vs zs
  | [], [], _ => trivial
  | _ :: _, _ :: _, h => ⟨dp_kp k hp rfl h.1, Gs.kp k hp h.2⟩
theorem Gs.app : ∀ {vs ws : List V} {zs us : List GP}, Gs K H vs zs → Gs K H ws us → Gs K H (vs ++ ws) (zs ++ us)
  | [], _, [], _, _, k => k
  | _ :: _, _, _ :: _, _, h, k => ⟨h.1, Gs.app h.2 k⟩
theorem Gs.get {vs : List V} {zs : List GP} {i : Nat} {z : GP} (h : Gs K H vs zs) (e : zs[i]? = some z) : ∃ v, vs[i]? = some v ∧ Dp K H v (gD z) := by
  induction vs generalizing zs i with
  | nil =>
    cases zs with
    | nil => simp at e
    | cons => exact h.elim
  | cons w ws ih =>
    cases zs with
    | nil => exact h.elim
    | cons u us =>
      cases i with
      | zero =>
        cases e
        exact ⟨w, rfl, h.1⟩
      | succ i => exact ih h.2 (by simpa using e)
theorem Gs.getv {vs : List V} {zs : List GP} {i : Nat} {v : V} (h : Gs K H vs zs) (e : vs[i]? = some v) : ∃ z, zs[i]? = some z ∧ Dp K H v (gD z) := by
  have hi : i < vs.length := (List.getElem?_eq_some_iff.mp e).1
  obtain ⟨w, hw, d⟩ := h.get (z := zs[i]'(by rw [← h.len]; exact hi)) (List.getElem?_eq_getElem _)
  rw [e] at hw
  cases hw
  exact ⟨_, List.getElem?_eq_getElem _, d⟩
theorem Gs.data : ∀ {vs : List V} {zs : List GP}, Gs K H vs zs → DpAll K H vs (zs.map gD)
  | [], [], _ => .nil
  | _ :: _, _ :: _, h => .cons h.1 (Gs.data h.2)
theorem gs_nil : Gs K H [] [] := trivial
theorem gs_one {v : V} {z : GP} (h : Dp K H v (gD z)) : Gs K H [v] [z] := ⟨h, trivial⟩
end
theorem nat_idx {xs : List V} {k : Nat} {v : V} (h : xs[k]? = some v) : atI xs (k : Int) = some v := atI_nat h
/-- a grid point near an outline -/
def sp__law_near (K : PySem.W.Frag) : Sp := fun vs H Q _ => ∃ (p o : Addr) (H0 : Hp) (ws : List V) (zs : List GP) (N : Nat), vs = [.ref p, .ref o] ∧ Sd H0 H p ∧ H0 o = some (.lst ws) ∧ Gs K H ws zs ∧ (∀ z ∈ zs, Gb N z) ∧ N ≤ 1000000000000 ∧ 1 ≤ ws.length ∧ ws.length ≤ 200 ∧
  ∀ (v : V) (z : GP) (H' : Hp), Dp K H' v (gD z) → Gb (N + 5000) z → Sd H0 H' p → Kp p H H' → Q v H'
theorem idx_nat {xs : List V} {j : Int} (h0 : 0 ≤ j) (h1 : j < (xs.length : Int)) : ∃ v, xs[j.toNat]? = some v ∧ atI xs j = some v := by
  have hl : j.toNat < xs.length := by omega
  obtain ⟨v, hv⟩ : ∃ v, xs[j.toNat]? = some v := ⟨_, List.getElem?_eq_getElem hl⟩
  refine ⟨v, hv, ?_⟩
  have := nat_idx hv
  rwa [Int.toNat_of_nonneg h0] at this
section
end
/-- all but p -/
def hide (p : Addr) (H : Hp) : Hp := fun b => if b = p then none else H b
theorem same_hide {p : Addr} {H : Hp} : Same (hide p H) H := fun b o e => by
  unfold hide at e
  split at e
  · cases e
  · exact e
theorem hide_at {p b : Addr} {H : Hp} (h : b ≠ p) : hide p H b = H b := if_neg h
theorem Sd.hid {H0 H : Hp} {p : Addr} (S : Sd H0 H p) : Sd (hide p H) H p := ⟨same_hide, if_pos rfl, S.stm⟩
/-! ### crossings -/
def left (a b : GP) (x y : Int) : Prop := (b.1 - a.1) * (y - a.2) ≤ (x - a.1) * (b.2 - a.2)
instance {a b : GP} {x y : Int} : Decidable (left a b x y) := by unfold left; infer_instance
def crs (a b : GP) (x y : Int) : Int := if a.2 ≤ y ∧ y < b.2 ∧ left a b x y then -1 else if b.2 ≤ y ∧ y < a.2 ∧ left b a x y then 1 else 0
/-- a grid point within 10 ^ 13 -/
abbrev Gm (z : GP) : Prop := Gb 10000000000000 z
theorem gm_sub {a b : Int} (h : a.natAbs ≤ 10000000000000) (k : b.natAbs ≤ 10000000000000) : (a - b).natAbs < 2 ^ 60 := Nat.lt_of_le_of_lt (show (a - b).natAbs ≤ 20000000000000 by omega) (by decide)
theorem gm_mul {a b : Int} (h : a.natAbs < 2 ^ 60) (k : b.natAbs < 2 ^ 60) : CMulW a b := wide_mul h k (by decide) (by decide) (by decide)

theorem nep' {Ha Hb : Hp} {p q : Addr} (h : Hb q = none) (S : Sd Ha Hb p) : q ≠ p := fun z => by
  obtain ⟨_, _, _, e⟩ := S.stm
  rw [← z, h] at e
  cases e
theorem shaped_g (z : GP) : SeqAt.shaped (gD z) = true := rfl
theorem dp_gs {K : PySem.W.Frag} {H : Hp} {p : Addr} {ws : List V} {zs : List GP} (h : H p = some (.lst ws)) (g : Gs K H ws zs) : Dp K H (.ref p) (.list (zs.map gD)) := .lst (.inl (.inl h)) g.data
theorem shaped_gs (zs : List GP) : SeqAt.shaped (.list (zs.map gD)) = true := by
  have h1 : PyData.canLayAll0 (zs.map gD) = true := by
    induction zs with
    | nil => rfl
    | cons z zs ih =>
      show (PyData.canLay0 (gD z) && PyData.canLayAll0 (zs.map gD)) = true
      rw [ih]
      rfl
  have h2 : PyData.depthAll (zs.map gD) ≤ 1 := by
    induction zs with
    | nil => exact Nat.zero_le 1
    | cons z zs ih =>
      have h1' : PyData.canLayAll0 (zs.map gD) = true := by
        have h1 : (PyData.canLay0 (gD z) && PyData.canLayAll0 (zs.map gD)) = true := h1
        exact ((Bool.and_eq_true _ _).mp h1).2
      have := ih h1'
      show max (PyData.depth (gD z)) (PyData.depthAll (zs.map gD)) ≤ 1
      have e : PyData.depth (gD z) = 1 := rfl
      omega
  unfold SeqAt.shaped
  rw [Bool.and_eq_true]
  refine ⟨h1, decide_eq_true ?_⟩
  show PyData.depthAll (zs.map gD) + 1 ≤ 64
  omega
/-! ### curves laid out -/
def small (b : Int) : Bool := decide (-16 ≤ b) && decide (b ≤ 16)
def flat (a b c : GP) : Bool := small (a.1 - 2 * b.1 + c.1) && small (a.2 - 2 * b.2 + c.2)
def mid (p q : GP) : GP := ((p.1 + q.1) / 2, (p.2 + q.2) / 2)
def lay : Nat → GP → GP → GP → GP → List GP
  | 0, _, _, _, d => [d]
  | r + 1, a, b, c, d => if (flat a b c && flat b c d) = true then [d] else
    lay r a (mid a b) (mid (mid a b) (mid b c)) (mid (mid (mid a b) (mid b c)) (mid (mid b c) (mid c d))) ++
    lay r (mid (mid (mid a b) (mid b c)) (mid (mid b c) (mid c d))) (mid (mid b c) (mid c d)) (mid c d) d
theorem lay_len : ∀ (r : Nat) (a b c d : GP), (lay r a b c d).length ≤ 2 ^ r
  | 0, _, _, _, _ => Nat.le_refl 1
  | r + 1, a, b, c, d => by
    unfold lay
    split
    · exact Nat.one_le_two_pow
    · rw [List.length_append, Nat.pow_succ]
      have h1 := lay_len r a (mid a b) (mid (mid a b) (mid b c)) (mid (mid (mid a b) (mid b c)) (mid (mid b c) (mid c d)))
      have h2 := lay_len r (mid (mid (mid a b) (mid b c)) (mid (mid b c) (mid c d))) (mid (mid b c) (mid c d)) (mid c d) d
      omega
theorem pow5 {r : Nat} (h : r ≤ 5) : 2 ^ r ≤ 32 := Nat.pow_le_pow_right (by decide) h
def sp_is_small : Sp := fun vs H Q _ => ∃ b : Int, vs = [.int b] ∧ Q (.bl (small b)) H
def sp_is_flat (K : PySem.W.Frag) : Sp := fun vs H Q _ => ∃ (u v w : V) (a b c : GP), vs = [u, v, w] ∧ Dp K H u (gD a) ∧ Dp K H v (gD b) ∧ Dp K H w (gD c) ∧ Q (.bl (flat a b c)) H
/-- a new grid point is handed back -/
def RetG (K : PySem.W.Frag) (H : Hp) (z : GP) (Q : VK) : Prop := ∀ v H', Same H H' → Dp K H' v (gD z) → Q v H'
def sp_mid (K : PySem.W.Frag) : Sp := fun vs H Q _ => ∃ (u v : V) (p q : GP), vs = [u, v] ∧ Dp K H u (gD p) ∧ Dp K H v (gD q) ∧ RetG K H (mid p q) Q
section
theorem ok_is_small {P : Program} {w : World} {K : PySem.W.Frag} {mg : Str → Option Value} {base : Heap} {A : Nat → Addr} {D : Nat → FuncData} (T : Txt K mg A D) : FnOk P w K mg base (L2.CX P w) 1 (A 9) (D 9) ["bend"] sp_is_small := by
  refine T.F_is_small.okX sc_is_small (fun vs H Q E h => ?_) (fun cdv A' outer s H vs Q E hr h => ?_)
  · obtain ⟨b, rfl, _⟩ := h
    rfl
  obtain ⟨b, rfl, q⟩ := h
  refine ⟨_, (pss_one (ps_ret (pe_chain op_le op_le (pe_un un_neg (Z.pe_globE T.c_MOST_BENT)) (pv 0) (Z.pe_globE T.c_MOST_BENT)))), ?_⟩
  walk_at "z"
  refine z_chK (k' := decide (b ≤ 16)) (fun _ R q => by walk_at "z"; exact q) ?_
  exact q
theorem ok_is_flat {P : Program} {w : World} {K : PySem.W.Frag} {mg : Str → Option Value} {base : Heap} {A : Nat → Addr} {D : Nat → FuncData} (T : Txt K mg A D) : FnOk P w K mg base (L2.CX P w) 2 (A 8) (D 8) ["a", "b", "c"] (sp_is_flat K) := by
  refine T.F_is_flat.okX sc_is_flat (fun vs H Q E h => ?_) (fun cdv A' outer s H vs Q E hr h => ?_)
  · obtain ⟨u, v, w', a, b, c, rfl, _⟩ := h
    rfl
  obtain ⟨_, _, _, a, b, c, rfl, da, db, dc, q⟩ := h
  obtain ⟨pa, rfl, ha⟩ := dp_g da
  obtain ⟨pb, rfl, hb⟩ := dp_g db
  obtain ⟨pc, rfl, hc⟩ := dp_g dc
  refine ⟨_, (pss_one (ps_ret (pe_and (pe_call (ok_is_small T) (hr.mono (by decide)) (by rfl) T.m_is_small T.F_is_small.kp T.b_is_small .nil (passes_call (takes_of rfl rfl rfl rfl) (fun _ _ _ _ h => h)) (pa_cons (pe_op op_add (pe_op op_sub (pe_ix ix_tup (pv 0) pe_int (fun _ _ => rfl)) (pe_op op_mul pe_int (pe_ix ix_tup (pv 1) pe_int (fun _ _ => rfl)))) (pe_ix ix_tup (pv 2) pe_int (fun _ _ => rfl))) pa_nil)) (pe_one (pe_call (ok_is_small T) (hr.mono (by decide)) (by rfl) T.m_is_small T.F_is_small.kp T.b_is_small .nil (passes_call (takes_of rfl rfl rfl rfl) (fun _ _ _ _ h => h)) (pa_cons (pe_op op_add (pe_op op_sub (pe_ix ix_tup (pv 0) pe_int (fun _ _ => rfl)) (pe_op op_mul pe_int (pe_ix ix_tup (pv 1) pe_int (fun _ _ => rfl)))) (pe_ix ix_tup (pv 2) pe_int (fun _ _ => rfl))) pa_nil)))))), ?_⟩
  walk_at "z"
  refine ⟨_, rfl, ?_⟩
  walk_at "z"
  refine z_andKV (k' := small (a.2 - 2 * b.2 + c.2)) (fun _ R q => by
    walk_at "z"
    refine ⟨_, rfl, ?_⟩
    exact q) ?_
  exact q
theorem ok_middle {P : Program} {w : World} {K : PySem.W.Frag} {mg : Str → Option Value} {base : Heap} {A : Nat → Addr} {D : Nat → FuncData} (T : Txt K mg A D) : FnOk P w K mg base (L2.CX P w) 1 (A 10) (D 10) ["p", "q"] (sp_mid K) := by
  refine T.F_middle.okX sc_middle (fun vs H Q E h => ?_) (fun cdv A' outer s H vs Q E hr h => ?_)
  · obtain ⟨u, v, a, b, rfl, _⟩ := h
    rfl
  obtain ⟨_, _, a, b, rfl, da, db, q⟩ := h
  obtain ⟨pa, rfl, ha⟩ := dp_g da
  obtain ⟨pb, rfl, hb⟩ := dp_g db
  refine ⟨_, (pss_one (ps_ret (pe_tup (pa_cons (pe_op op_fdivW (pe_op op_add (pe_ix ix_tup (pv 0) pe_int (fun _ _ => rfl)) (pe_ix ix_tup (pv 1) pe_int (fun _ _ => rfl))) pe_int) (pa_cons (pe_op op_fdivW (pe_op op_add (pe_ix ix_tup (pv 0) pe_int (fun _ _ => rfl)) (pe_ix ix_tup (pv 1) pe_int (fun _ _ => rfl))) pe_int) pa_nil))))), ?_⟩
  walk_at "z"
  refine z_I (wide_div (b := 2) (by decide) (by decide) (by decide) (by decide)) ?_
  walk_at "z"
  refine z_I (wide_div (b := 2) (by decide) (by decide) (by decide) (by decide)) ?_
  walk_at "z"
  intro p9 H9 _ s9 h9
  exact q _ H9 s9 (dp_mkg h9)
end
theorem midq {K : PySem.W.Frag} {H : Hp} {u v : V} {p q : GP} {Q : VK} {E : XK} (h1 : Dp K H u (gD p)) (h2 : Dp K H v (gD q)) (k : RetG K H (mid p q) Q) : sp_mid K [u, v] H Q E := ⟨u, v, p, q, rfl, h1, h2, k⟩
def spL (K : PySem.W.Frag) : Nat → Sp
  | 0 => fun _ _ _ _ => False
  | r + 1 => fun vs H Q _ => ∃ (v1 v2 v3 v4 : V) (a b c d : GP), vs = [v1, v2, v3, v4, .int (5 - (r : Int))] ∧ r ≤ 5 ∧ Dp K H v1 (gD a) ∧ Dp K H v2 (gD b) ∧ Dp K H v3 (gD c) ∧ Dp K H v4 (gD d) ∧
    ∀ p ws H', H p = none → Same H H' → H' p = some (.lst ws) → Gs K H' ws (lay r a b c d) → Q (.ref p) H'
section
theorem ok_lay_all {P : Program} {w : World} {K : PySem.W.Frag} {mg : Str → Option Value} {base : Heap} {A : Nat → Addr} {D : Nat → FuncData} (T : Txt K mg A D) : ∀ n : Nat, FnOk P w K mg base (L2.CX P w) (n + 3) (A 7) (D 7) ["a", "b", "c", "d", "depth"] (spL K n)
  | 0 => T.F_lay_out.okX (k := 2) sc_lay_out (fun vs H Q E h => h.elim) (fun cdv A' outer s H vs Q E hr h => h.elim)
  | r + 1 => by
    have ih := ok_lay_all (P := P) (w := w) (base := base) T r
    refine T.F_lay_out.okX (k := r + 3) sc_lay_out (fun vs H Q E h => ?_) (fun cdv A' outer s H vs Q E hr h => ?_)
    · obtain ⟨v1, v2, v3, v4, a, b, c, d, rfl, _⟩ := h
      rfl
    obtain ⟨v1, v2, v3, v4, a, b, c, d, rfl, r5, d1, d2, d3, d4, q⟩ := h
    have hlen := Nat.le_trans (lay_len r a b c d) (pow5 r5)
    refine ⟨_, (pss_cons (ps_if (PW.pt (pw_or (pt_cmpR op_ge (pv 4) (Z.pe_globE T.c_DEEPEST) (nomark _)) (pw_or1 (PW.pt (pw_and (pt_val (pe_call (ok_is_flat T) (hr.mono (by omega)) (by rfl) T.m_is_flat T.F_is_flat.kp T.b_is_flat .nil (passes_call (takes_of rfl rfl rfl rfl) (fun _ _ _ _ h => h)) (pa_cons (pv 0) (pa_cons (pv 1) (pa_cons (pv 2) pa_nil))))) (pw_and1 (pt_val (pe_call (ok_is_flat T) (hr.mono (by omega)) (by rfl) T.m_is_flat T.F_is_flat.kp T.b_is_flat .nil (passes_call (takes_of rfl rfl rfl rfl) (fun _ _ _ _ h => h)) (pa_cons (pv 1) (pa_cons (pv 2) (pa_cons (pv 3) pa_nil)))))))))))
  (pss_one (ps_ret (pe_lst (pa_cons (pv 3) pa_nil))))
  pss_nil)
  (pss_cons (ps_set (i := 5) sc_lay_out.nd rfl (.inl rfl) (pe_call (ok_middle T) (hr.mono (by omega)) (by rfl) T.m_middle T.F_middle.kp T.b_middle .nil (passes_call (takes_of rfl rfl rfl rfl) (fun _ _ _ _ h => h)) (pa_cons (pv 0) (pa_cons (pv 1) pa_nil))))
  (pss_cons (ps_set (i := 6) sc_lay_out.nd rfl (.inl rfl) (pe_call (ok_middle T) (hr.mono (by omega)) (by rfl) T.m_middle T.F_middle.kp T.b_middle .nil (passes_call (takes_of rfl rfl rfl rfl) (fun _ _ _ _ h => h)) (pa_cons (pv 1) (pa_cons (pv 2) pa_nil))))
  (pss_cons (ps_set (i := 7) sc_lay_out.nd rfl (.inl rfl) (pe_call (ok_middle T) (hr.mono (by omega)) (by rfl) T.m_middle T.F_middle.kp T.b_middle .nil (passes_call (takes_of rfl rfl rfl rfl) (fun _ _ _ _ h => h)) (pa_cons (pv 2) (pa_cons (pv 3) pa_nil))))
  (pss_cons (ps_set (i := 8) sc_lay_out.nd rfl (.inl rfl) (pe_call (ok_middle T) (hr.mono (by omega)) (by rfl) T.m_middle T.F_middle.kp T.b_middle .nil (passes_call (takes_of rfl rfl rfl rfl) (fun _ _ _ _ h => h)) (pa_cons (pv 5) (pa_cons (pv 6) pa_nil))))
  (pss_cons (ps_set (i := 9) sc_lay_out.nd rfl (.inl rfl) (pe_call (ok_middle T) (hr.mono (by omega)) (by rfl) T.m_middle T.F_middle.kp T.b_middle .nil (passes_call (takes_of rfl rfl rfl rfl) (fun _ _ _ _ h => h)) (pa_cons (pv 6) (pa_cons (pv 7) pa_nil))))
  (pss_cons (ps_set (i := 10) sc_lay_out.nd rfl (.inl rfl) (pe_call (ok_middle T) (hr.mono (by omega)) (by rfl) T.m_middle T.F_middle.kp T.b_middle .nil (passes_call (takes_of rfl rfl rfl rfl) (fun _ _ _ _ h => h)) (pa_cons (pv 8) (pa_cons (pv 9) pa_nil))))
  (pss_one (ps_ret (pe_op op_cat (pe_call ih (hr.mono (by omega)) (by rfl) T.m_lay_out T.F_lay_out.kp T.b_lay_out .nil (passes_call (takes_of rfl rfl rfl rfl) (fun _ _ _ _ h => h)) (pa_cons (pv 0) (pa_cons (pv 5) (pa_cons (pv 8) (pa_cons (pv 10) (pa_cons (pe_op op_add (pv 4) pe_int) pa_nil)))))) (pe_call ih (hr.mono (by omega)) (by rfl) T.m_lay_out T.F_lay_out.kp T.b_lay_out .nil (passes_call (takes_of rfl rfl rfl rfl) (fun _ _ _ _ h => h)) (pa_cons (pv 10) (pa_cons (pv 9) (pa_cons (pv 7) (pa_cons (pv 3) (pa_cons (pe_op op_add (pv 4) pe_int) pa_nil)))))))))))))))), ?_⟩
    walk_at "z"
    refine z_orK (k' := flat a b c && flat b c d) (fun _ R q => by
      walk_at "z"
      refine ⟨_, _, _, a, b, c, rfl, d1, d2, d3, ?_⟩
      walk_at "z"
      refine z_andK (k' := flat b c d) (fun _ R q => by
        walk_at "z"
        refine ⟨_, _, _, b, c, d, rfl, d2, d3, d4, ?_⟩
        walk_at "z"
        exact q) q) ?_
    cases r with
    | zero =>
      refine z_ifYes (by simp) ?_
      walk_at "z"
      intro p9 H9 f9 s9 h9
      exact q p9 _ H9 f9 s9 h9 (gs_one (dp_mono s9 d4))
    | succ r =>
      have hd : decide (5 ≤ (5 : Int) - ((r + 1 : Nat) : Int)) = false := decide_eq_false (by omega)
      unfold lay at q hlen
      refine z_ifB (fun cc => ?_) (fun cc => ?_)
      · have cc' : (flat a b c && flat b c d) = true := by
          rcases (Bool.or_eq_true _ _).mp cc with z | z
          · have := of_decide_eq_true z
            omega
          · exact z
        rw [if_pos cc'] at q
        walk_at "z"
        intro p9 H9 f9 s9 h9
        exact q p9 _ H9 f9 s9 h9 (gs_one (dp_mono s9 d4))
      have cc' : ¬ (flat a b c && flat b c d) = true := fun z => by
        rw [z, Bool.or_true] at cc
        cases cc
      rw [if_neg cc'] at q hlen
      rw [List.length_append] at hlen
      walk_at "z"
      refine midq d1 d2 fun ve H1 s1 de => ?_
      walk_at "z"
      refine midq (dp_mono s1 d2) (dp_mono s1 d3) fun vf H2 s2 df => ?_
      walk_at "z"
      have s12 := s1.trans s2
      refine midq (dp_mono s12 d3) (dp_mono s12 d4) fun vg H3 s3 dg => ?_
      walk_at "z"
      refine midq (dp_mono (s2.trans s3) de) (dp_mono s3 df) fun vh H4 s4 dh => ?_
      walk_at "z"
      refine midq (dp_mono (s3.trans s4) df) (dp_mono s4 dg) fun vk H5 s5 dk => ?_
      walk_at "z"
      refine midq (dp_mono s5 dh) dk fun vm H6 s6 dm => ?_
      have s26 := ((s3.trans s4).trans s5).trans s6
      have s16 := (s12.trans s26)
      have e5 : (5 : Int) - ((r + 1 : Nat) : Int) + 1 = 5 - (r : Int) := by omega
      walk_at "z"
      rw [e5]
      refine ⟨_, _, _, _, a, _, _, _, rfl, by omega, dp_mono s16 d1, dp_mono (s2.trans s26) de, dp_mono (s5.trans s6) dh, dm, fun pl wl H7 f7 s7 h7 gl => ?_⟩
      walk_at "z"
      rw [e5]
      refine ⟨_, _, _, _, _, _, _, d, rfl, by omega, dp_mono s7 dm, dp_mono (s6.trans s7) dk, dp_mono (((s4.trans s5).trans s6).trans s7) dg, dp_mono (s16.trans s7) d4, fun pr wr H8 f8 s8 h8 gr => ?_⟩
      have l1 := gl.len
      have l2 := gr.len
      refine z_cat (s8 _ _ h7) h8 (by omega) fun p9 H9 f9 s9 h9 => ?_
      have s17 := (s16.trans s7).trans s8
      refine q p9 _ H9 ?_ (s17.trans s9) h9 ((gl.mono (s8.trans s9)).app (gr.mono s9))
      cases hh : H p9 with
      | none => rfl
      | some o => rw [s17 _ _ hh] at f9; cases f9
def sp_lay_out (K : PySem.W.Frag) : Sp := fun vs H Q E => ∃ n, n ≤ 6 ∧ spL K n vs H Q E
theorem ok_lay_out {P : Program} {w : World} {K : PySem.W.Frag} {mg : Str → Option Value} {base : Heap} {A : Nat → Addr} {D : Nat → FuncData} (T : Txt K mg A D) : FnOk P w K mg base (L2.CX P w) 9 (A 7) (D 7) ["a", "b", "c", "d", "depth"] (sp_lay_out K) where
  len := fun vs H Q E ⟨n, _, h⟩ => (ok_lay_all (P := P) (w := w) (base := base) T n).len vs H Q E h
  run := fun A' outer s H args us vs Q E hr e0 hb r ⟨n, hn, h⟩ => (ok_lay_all (P := P) (w := w) (base := base) T n).run A' outer s H args us vs Q E (hr.mono (by omega)) e0 hb r h
end
/-! ### the law's own laying out -/
def sp__law_is_grid_list (K : PySem.W.Frag) : Sp := fun vs H Q _ => ∃ (p : Addr) (ws : List V) (zs : List GP), vs = [.ref p] ∧ H p = some (.lst ws) ∧ Gs K H ws zs ∧ Q (.bl true) H
section
theorem ok__law_is_grid_list {P : Program} {w : World} {K : PySem.W.Frag} {mg : Str → Option Value} {base : Heap} {A : Nat → Addr} {D : Nat → FuncData} (T : Txt K mg A D) : FnOk P w K mg base (L2.CX P w) 2 (A 19) (D 19) ["actual"] (sp__law_is_grid_list K) := by
  refine T.F__law_is_grid_list.okX sc__law_is_grid_list (fun vs H Q E h => ?_) (fun cdv A' outer s H vs Q E hr h => ?_)
  · obtain ⟨p, ws, zs, rfl, _⟩ := h
    rfl
  obtain ⟨p, ws, zs, rfl, hp, g, q⟩ := h
  refine ⟨_, (pss_cons (ps_if (pt_not (pt_val (pe_callB call_isi (by rfl) T.z_isinstance (by decide +kernel) (pa_cons (pv 0) (pa_cons (pe_bltn (v := .ty "list") (by rfl) T.z_list (by decide +kernel) rfl) pa_nil)))))
  (pss_one (ps_ret pe_bl))
  pss_nil)
  (pss_cons (ps_for (passes_of rfl) rfl (pi_list (pv 0)) (pg_name (i := 1) sc__law_is_grid_list.nd rfl (.inl rfl))
  (pss_cons (ps_if (PW.pt (pw_or (pt_not (pt_val (pe_callB call_isi (by rfl) T.z_isinstance (by decide +kernel) (pa_cons (pv 1) (pa_cons (pe_bltn (v := .ty "tuple") (by rfl) T.z_tuple (by decide +kernel) rfl) pa_nil))))) (pw_or1 (pt_cmpR op_ne (pe_callB Z.c_len (by rfl) T.z_len (by decide +kernel) (pa_cons (pv 1) pa_nil)) pe_int (nomark _)))))
  (pss_one (ps_ret pe_bl))
  pss_nil)
  (pss_one (ps_if (PW.pt (pw_or (pt_not (pt_val (pe_call (ok__law_is_integer T) (hr.mono (by decide)) (by rfl) T.m__law_is_integer T.F__law_is_integer.kp T.b__law_is_integer .nil (passes_call (takes_of rfl rfl rfl rfl) (fun _ _ _ _ h => h)) (pa_cons (pe_ix ix_tup (pv 1) pe_int (fun _ _ => rfl)) pa_nil)))) (pw_or1 (pt_not (pt_val (pe_call (ok__law_is_integer T) (hr.mono (by decide)) (by rfl) T.m__law_is_integer T.F__law_is_integer.kp T.b__law_is_integer .nil (passes_call (takes_of rfl rfl rfl rfl) (fun _ _ _ _ h => h)) (pa_cons (pe_ix ix_tup (pv 1) pe_int (fun _ _ => rfl)) pa_nil)))))))
  (pss_one (ps_ret pe_bl))
  pss_nil))))
  (pss_one (ps_ret pe_bl)))), ?_⟩
  walk_at "z"
  refine z_forL (fun R q => by walk_at "z"; exact q) (.inl (.inl hp)) (fun i σ' H' => H' = H ∧ ∃ w, σ' = [some (.ref p), w]) ⟨rfl, _, rfl⟩ (fun i σ' H' _ ⟨e, _⟩ => by rw [e]; exact .inl (.inl hp)) ?_ ?_
  · rintro i x σ' H' hx ⟨rfl, w, rfl⟩
    obtain ⟨z, hz, dz⟩ := g.getv hx
    obtain ⟨pz, rfl, hpz⟩ := dp_g dz
    walk_at "z"
    exact ⟨rfl, _, rfl⟩
  · rintro σ' H' ⟨rfl, w, rfl⟩
    walk_at "z"
    exact q
end
def sp__law_bends (K : PySem.W.Frag) : Sp := fun vs H Q _ => ∃ (u v w : V) (a b c : GP), vs = [u, v, w] ∧ Dp K H u (gD a) ∧ Dp K H v (gD b) ∧ Dp K H w (gD c) ∧ Q (.bl (!flat a b c)) H
section
theorem ok__law_middle {P : Program} {w : World} {K : PySem.W.Frag} {mg : Str → Option Value} {base : Heap} {A : Nat → Addr} {D : Nat → FuncData} (T : Txt K mg A D) : FnOk P w K mg base (L2.CX P w) 1 (A 20) (D 20) ["p", "q"] (sp_mid K) := by
  refine T.F__law_middle.okX sc__law_middle (fun vs H Q E h => ?_) (fun cdv A' outer s H vs Q E hr h => ?_)
  · obtain ⟨u, v, a, b, rfl, _⟩ := h
    rfl
  obtain ⟨_, _, a, b, rfl, da, db, q⟩ := h
  obtain ⟨pa, rfl, ha⟩ := dp_g da
  obtain ⟨pb, rfl, hb⟩ := dp_g db
  refine ⟨_, (pss_one (ps_ret (pe_tup (pa_cons (pe_op op_fdivW (pe_op op_add (pe_ix ix_tup (pv 0) pe_int (fun _ _ => rfl)) (pe_ix ix_tup (pv 1) pe_int (fun _ _ => rfl))) pe_int) (pa_cons (pe_op op_fdivW (pe_op op_add (pe_ix ix_tup (pv 0) pe_int (fun _ _ => rfl)) (pe_ix ix_tup (pv 1) pe_int (fun _ _ => rfl))) pe_int) pa_nil))))), ?_⟩
  walk_at "z"
  refine z_I (wide_div (b := 2) (by decide) (by decide) (by decide) (by decide)) ?_
  walk_at "z"
  refine z_I (wide_div (b := 2) (by decide) (by decide) (by decide) (by decide)) ?_
  walk_at "z"
  intro p9 H9 _ s9 h9
  exact q _ H9 s9 (dp_mkg h9)
theorem ok__law_bends {P : Program} {w : World} {K : PySem.W.Frag} {mg : Str → Option Value} {base : Heap} {A : Nat → Addr} {D : Nat → FuncData} (T : Txt K mg A D) : FnOk P w K mg base (L2.CX P w) 1 (A 21) (D 21) ["p", "q", "r"] (sp__law_bends K) := by
  refine T.F__law_bends.okX sc__law_bends (fun vs H Q E h => ?_) (fun cdv A' outer s H vs Q E hr h => ?_)
  · obtain ⟨u, v, w', a, b, c, rfl, _⟩ := h
    rfl
  obtain ⟨_, _, _, a, b, c, rfl, da, db, dc, q⟩ := h
  obtain ⟨pa, rfl, ha⟩ := dp_g da
  obtain ⟨pb, rfl, hb⟩ := dp_g db
  obtain ⟨pc, rfl, hc⟩ := dp_g dc
  have one : ∀ k : Bool, k = (!flat a b c) → Q (.bl k) H := fun k e => by rw [e]; exact q
  clear q
  refine ⟨_, (pss_cons (ps_set (i := 3) sc__law_bends.nd rfl (.inl rfl) (pe_op op_add (pe_op op_sub (pe_ix ix_tup (pv 0) pe_int (fun _ _ => rfl)) (pe_op op_mul pe_int (pe_ix ix_tup (pv 1) pe_int (fun _ _ => rfl)))) (pe_ix ix_tup (pv 2) pe_int (fun _ _ => rfl))))
  (pss_cons (ps_set (i := 4) sc__law_bends.nd rfl (.inl rfl) (pe_op op_add (pe_op op_sub (pe_ix ix_tup (pv 0) pe_int (fun _ _ => rfl)) (pe_op op_mul pe_int (pe_ix ix_tup (pv 1) pe_int (fun _ _ => rfl)))) (pe_ix ix_tup (pv 2) pe_int (fun _ _ => rfl))))
  (pss_one (ps_ret (pe_or (pe_cmpR op_gt (pv 3) pe_int (nomark _)) (pe_or (pe_cmpR op_lt (pv 3) (pe_un un_neg pe_int) (nomark _)) (pe_or (pe_cmpR op_gt (pv 4) pe_int (nomark _)) (pe_one (pe_cmpR op_lt (pv 4) (pe_un un_neg pe_int) (nomark _)))))))))), ?_⟩
  walk_at "z"
  refine z_orKV (k' := decide (a.1 - 2 * b.1 + c.1 < -16) || (decide (a.2 - 2 * b.2 + c.2 > 16) || decide (a.2 - 2 * b.2 + c.2 < -16))) (fun _ R q => by
    walk_at "z"
    refine z_orKV (k' := decide (a.2 - 2 * b.2 + c.2 > 16) || decide (a.2 - 2 * b.2 + c.2 < -16)) (fun _ R q => by
      walk_at "z"
      refine z_orKV (k' := decide (a.2 - 2 * b.2 + c.2 < -16)) (fun _ R q => by walk_at "z"; exact q) ?_
      exact q) ?_
    exact q) ?_
  refine one _ ?_
  unfold flat small
  generalize a.1 - 2 * b.1 + c.1 = x
  generalize a.2 - 2 * b.2 + c.2 = y
  rw [Bool.eq_iff_iff]
  simp only [Bool.or_eq_true, decide_eq_true_eq, Bool.not_eq_true', Bool.and_eq_false_iff, decide_eq_false_iff_not]
  omega
end
/-- what waits: a curve and the depths that are left -/
structure Cv where
  a : GP
  b : GP
  c : GP
  d : GP
  r : Nat
def Cv.out (x : Cv) : List GP := lay x.r x.a x.b x.c x.d
def Cv.flt (x : Cv) : Bool := flat x.a x.b x.c && flat x.b x.c x.d
def Cv.lo (x : Cv) : Cv := ⟨x.a, mid x.a x.b, mid (mid x.a x.b) (mid x.b x.c), mid (mid (mid x.a x.b) (mid x.b x.c)) (mid (mid x.b x.c) (mid x.c x.d)), x.r - 1⟩
def Cv.hi (x : Cv) : Cv := ⟨mid (mid (mid x.a x.b) (mid x.b x.c)) (mid (mid x.b x.c) (mid x.c x.d)), mid (mid x.b x.c) (mid x.c x.d), mid x.c x.d, x.d, x.r - 1⟩
/-- the turns that a curve takes -/
def turns : Nat → GP → GP → GP → GP → Nat
  | 0, _, _, _, _ => 1
  | r + 1, a, b, c, d => if (flat a b c && flat b c d) = true then 1 else 1 +
    (turns r a (mid a b) (mid (mid a b) (mid b c)) (mid (mid (mid a b) (mid b c)) (mid (mid b c) (mid c d))) +
    turns r (mid (mid (mid a b) (mid b c)) (mid (mid b c) (mid c d))) (mid (mid b c) (mid c d)) (mid c d) d)
theorem turns_le : ∀ (r : Nat) (a b c d : GP), turns r a b c d + 1 ≤ 2 ^ (r + 1)
  | 0, _, _, _, _ => Nat.le_refl 2
  | r + 1, a, b, c, d => by
    unfold turns
    have hp : 1 ≤ 2 ^ (r + 1) := Nat.one_le_two_pow
    split
    · rw [Nat.pow_succ]
      omega
    · rw [Nat.pow_succ 2 (r + 1)]
      have h1 := turns_le r a (mid a b) (mid (mid a b) (mid b c)) (mid (mid (mid a b) (mid b c)) (mid (mid b c) (mid c d)))
      have h2 := turns_le r (mid (mid (mid a b) (mid b c)) (mid (mid b c) (mid c d))) (mid (mid b c) (mid c d)) (mid c d) d
      omega
def Cv.trn (x : Cv) : Nat := turns x.r x.a x.b x.c x.d
theorem Cv.stop {x : Cv} (h : x.r = 0 ∨ x.flt = true) : x.out = [x.d] ∧ x.trn = 1 := by
  obtain ⟨a, b, c, d, r⟩ := x
  unfold Cv.out Cv.trn Cv.flt at *
  cases r with
  | zero => exact ⟨rfl, rfl⟩
  | succ r =>
    have h' : (flat a b c && flat b c d) = true := by
      rcases h with z | z
      · cases z
      · exact z
    dsimp only at *
    unfold lay turns
    rw [if_pos h', if_pos h']
    exact ⟨rfl, rfl⟩
theorem Cv.go {x : Cv} (h0 : x.r ≠ 0) (h : x.flt = false) : x.out = x.lo.out ++ x.hi.out ∧ x.trn = 1 + (x.lo.trn + x.hi.trn) := by
  obtain ⟨a, b, c, d, r⟩ := x
  unfold Cv.out Cv.trn Cv.flt Cv.lo Cv.hi at *
  cases r with
  | zero => exact absurd rfl h0
  | succ r =>
    have h' : ¬ (flat a b c && flat b c d) = true := by
      have h : (flat a b c && flat b c d) = false := h
      rw [h]
      exact Bool.false_ne_true
    dsimp only [Nat.add_sub_cancel] at *
    conv => lhs; lhs; unfold lay
    conv => rhs; lhs; unfold turns
    rw [if_neg h', if_neg h']
    exact ⟨rfl, rfl⟩
theorem Cv.pos (x : Cv) : 1 ≤ x.trn := by
  by_cases h : x.r = 0 ∨ x.flt = true
  · rw [(Cv.stop h).2]
    exact Nat.le_refl 1
  · have := (Cv.go (fun z => h (.inl z)) (by simpa using fun z => h (.inr z))).2
    omega
def outs (ts : List Cv) : List GP := ts.flatMap Cv.out
def trns : List Cv → Nat
  | [] => 0
  | x :: ts => x.trn + trns ts
/-- a value that stands for a curve that waits -/
def CvOk (K : PySem.W.Frag) (H : Hp) (v : V) (x : Cv) : Prop := ∃ (p : Addr) (v1 v2 v3 v4 : V), v = .ref p ∧ H p = some (.tup [v1, v2, v3, v4, .int (5 - (x.r : Int))]) ∧ x.r ≤ 5 ∧ Dp K H v1 (gD x.a) ∧ Dp K H v2 (gD x.b) ∧ Dp K H v3 (gD x.c) ∧ Dp K H v4 (gD x.d)
theorem CvOk.mono {K : PySem.W.Frag} {H H' : Hp} {v : V} {x : Cv} (s : Same H H') (h : CvOk K H v x) : CvOk K H' v x := by
  obtain ⟨p, v1, v2, v3, v4, e, h0, h1, d1, d2, d3, d4⟩ := h
  exact ⟨p, v1, v2, v3, v4, e, s _ _ h0, h1, dp_mono s d1, dp_mono s d2, dp_mono s d3, dp_mono s d4⟩
theorem CvOk.kp {K : PySem.W.Frag} {H H' : Hp} {v : V} {x : Cv} {l : Addr} {xs : List V} (k : Kp l H H') (hl : H l = some (.lst xs)) (h : CvOk K H v x) : CvOk K H' v x := by
  obtain ⟨p, v1, v2, v3, v4, e, h0, h1, d1, d2, d3, d4⟩ := h
  exact ⟨p, v1, v2, v3, v4, e, k _ _ (ne_of h0 hl (by intro z; cases z)) h0, h1, dp_kp k hl rfl d1, dp_kp k hl rfl d2, dp_kp k hl rfl d3, dp_kp k hl rfl d4⟩
def CvS (K : PySem.W.Frag) (H : Hp) : List V → List Cv → Prop
  | [], [] => True
  | v :: vs, x :: xs => CvOk K H v x ∧ CvS K H vs xs
  | _, _ => False
theorem CvS.len {K : PySem.W.Frag} {H : Hp} : ∀ {vs : List V} {ts : List Cv}, CvS K H vs ts → vs.length = ts.length
  | [], [], _ => rfl
  | _ :: _, _ :: _, h => congrArg (· + 1) (CvS.len h.2)
theorem CvS.mono {K : PySem.W.Frag} {H H' : Hp} (s : Same H H') : ∀ {vs : List V} {ts : List Cv}, CvS K H vs ts → CvS K H' vs ts
  | [], [], _ => trivial
  | _ :: _, _ :: _, h => ⟨h.1.mono s, CvS.mono s h.2⟩
theorem CvS.kp {K : PySem.W.Frag} {H H' : Hp} {l : Addr} {xs : List V} (k : Kp l H H') (hl : H l = some (.lst xs)) : ∀ {vs : List V} {ts : List Cv}, CvS K H vs ts → CvS K H' vs ts
  | [], [], _ => trivial
  | _ :: _, _ :: _, h => ⟨h.1.kp k hl, CvS.kp k hl h.2⟩
/-- a list changed where it stands: the rest is kept -/
theorem kp_upd {p : Addr} {H : Hp} {o : HO} : Kp p H (upd H p o) := fun b _ hb e => by
  rw [upd_ne hb]
  exact e
def sp__law_lay_out (K : PySem.W.Frag) : Sp := fun vs H Q _ => ∃ (v1 v2 v3 v4 : V) (a b c d : GP) (r : Nat), vs = [v1, v2, v3, v4, .int (5 - (r : Int))] ∧ r ≤ 5 ∧ Dp K H v1 (gD a) ∧ Dp K H v2 (gD b) ∧ Dp K H v3 (gD c) ∧ Dp K H v4 (gD d) ∧
  ∀ p ws H', H p = none → Same H H' → H' p = some (.lst ws) → Gs K H' ws (lay r a b c d) → Q (.ref p) H'
/-- the state of the law's loop -/
structure LayI (K : PySem.W.Frag) (H0 : Hp) (l1 l2 : Addr) (tot : List GP) (N : Nat) (i : Nat) (H : Hp) : Prop where
  ne : l1 ≠ l2
  f1 : H0 l1 = none
  f2 : H0 l2 = none
  sm : Same H0 H
  it : ∃ (vs : List V) (ts : List Cv) (ws : List V) (fs : List GP), H l1 = some (.lst vs.reverse) ∧ H l2 = some (.lst ws) ∧ CvS K H vs ts ∧ Gs K H ws fs ∧ fs ++ outs ts = tot ∧ i + trns ts = N
section
theorem ok__law_lay_out {P : Program} {w : World} {K : PySem.W.Frag} {mg : Str → Option Value} {base : Heap} {A : Nat → Addr} {D : Nat → FuncData} (T : Txt K mg A D) : FnOk P w K mg base (L2.CX P w) 2 (A 22) (D 22) ["a", "b", "c", "d", "depth"] (sp__law_lay_out K) := by
  refine T.F__law_lay_out.okX sc__law_lay_out (fun vs H Q E h => ?_) (fun cdv A' outer s H vs Q E hr h => ?_)
  · obtain ⟨v1, v2, v3, v4, a, b, c, d, r, rfl, _⟩ := h
    rfl
  obtain ⟨v1, v2, v3, v4, a, b, c, d, r, rfl, r5, d1, d2, d3, d4, q⟩ := h
  refine ⟨_, (pss_cons (ps_set (i := 5) sc__law_lay_out.nd rfl (.inl rfl) (pe_lst (pa_cons (pe_tup (pa_cons (pv 0) (pa_cons (pv 1) (pa_cons (pv 2) (pa_cons (pv 3) (pa_cons (pv 4) pa_nil)))))) pa_nil)))
  (pss_cons (ps_set (i := 6) sc__law_lay_out.nd rfl (.inl rfl) (pe_lst pa_nil))
  (pss_cons (ps_for (passes_of rfl) rfl (pi_range1 (by rfl) T.z_range (pa_cons pe_int pa_nil)) (pg_name (i := 7) sc__law_lay_out.nd rfl (.inl rfl))
  (pss_cons (ps_if (pt_cmpR op_eq (pe_callB Z.c_len (by rfl) T.z_len (by decide +kernel) (pa_cons (pv 5) pa_nil)) pe_int (nomark _))
  (pss_one ps_break)
  pss_nil)
  (pss_cons (ps_asg (pe_bm0 PySem.F.plainAttrs_list PySem.F.slot_list_pop PySem.F.type_list_pop mt_pop (pv 5)) (pg_tup (by rfl) (pgs_cons (pg_name (i := 0) sc__law_lay_out.nd rfl (.inl rfl)) (pgs_cons (pg_name (i := 1) sc__law_lay_out.nd rfl (.inl rfl)) (pgs_cons (pg_name (i := 2) sc__law_lay_out.nd rfl (.inl rfl)) (pgs_cons (pg_name (i := 3) sc__law_lay_out.nd rfl (.inl rfl)) (pgs_cons (pg_name (i := 4) sc__law_lay_out.nd rfl (.inl rfl)) pgs_nil)))))))
  (pss_one (ps_if (PW.pt (pw_and (pt_cmpR op_lt (pv 4) pe_int (nomark _)) (pw_and1 (PW.pt (pw_or (pt_val (pe_call (ok__law_bends T) (hr.mono (by decide)) (by rfl) T.m__law_bends T.F__law_bends.kp T.b__law_bends .nil (passes_call (takes_of rfl rfl rfl rfl) (fun _ _ _ _ h => h)) (pa_cons (pv 0) (pa_cons (pv 1) (pa_cons (pv 2) pa_nil))))) (pw_or1 (pt_val (pe_call (ok__law_bends T) (hr.mono (by decide)) (by rfl) T.m__law_bends T.F__law_bends.kp T.b__law_bends .nil (passes_call (takes_of rfl rfl rfl rfl) (fun _ _ _ _ h => h)) (pa_cons (pv 1) (pa_cons (pv 2) (pa_cons (pv 3) pa_nil)))))))))))
  (pss_cons (ps_set (i := 8) sc__law_lay_out.nd rfl (.inl rfl) (pe_call (ok__law_middle T) (hr.mono (by decide)) (by rfl) T.m__law_middle T.F__law_middle.kp T.b__law_middle .nil (passes_call (takes_of rfl rfl rfl rfl) (fun _ _ _ _ h => h)) (pa_cons (pv 0) (pa_cons (pv 1) pa_nil))))
  (pss_cons (ps_set (i := 9) sc__law_lay_out.nd rfl (.inl rfl) (pe_call (ok__law_middle T) (hr.mono (by decide)) (by rfl) T.m__law_middle T.F__law_middle.kp T.b__law_middle .nil (passes_call (takes_of rfl rfl rfl rfl) (fun _ _ _ _ h => h)) (pa_cons (pv 1) (pa_cons (pv 2) pa_nil))))
  (pss_cons (ps_set (i := 10) sc__law_lay_out.nd rfl (.inl rfl) (pe_call (ok__law_middle T) (hr.mono (by decide)) (by rfl) T.m__law_middle T.F__law_middle.kp T.b__law_middle .nil (passes_call (takes_of rfl rfl rfl rfl) (fun _ _ _ _ h => h)) (pa_cons (pv 2) (pa_cons (pv 3) pa_nil))))
  (pss_cons (ps_set (i := 11) sc__law_lay_out.nd rfl (.inl rfl) (pe_call (ok__law_middle T) (hr.mono (by decide)) (by rfl) T.m__law_middle T.F__law_middle.kp T.b__law_middle .nil (passes_call (takes_of rfl rfl rfl rfl) (fun _ _ _ _ h => h)) (pa_cons (pv 8) (pa_cons (pv 9) pa_nil))))
  (pss_cons (ps_set (i := 12) sc__law_lay_out.nd rfl (.inl rfl) (pe_call (ok__law_middle T) (hr.mono (by decide)) (by rfl) T.m__law_middle T.F__law_middle.kp T.b__law_middle .nil (passes_call (takes_of rfl rfl rfl rfl) (fun _ _ _ _ h => h)) (pa_cons (pv 9) (pa_cons (pv 10) pa_nil))))
  (pss_cons (ps_set (i := 13) sc__law_lay_out.nd rfl (.inl rfl) (pe_call (ok__law_middle T) (hr.mono (by decide)) (by rfl) T.m__law_middle T.F__law_middle.kp T.b__law_middle .nil (passes_call (takes_of rfl rfl rfl rfl) (fun _ _ _ _ h => h)) (pa_cons (pv 11) (pa_cons (pv 12) pa_nil))))
  (pss_cons (ps_expr (pe_bm PySem.F.plainAttrs_list PySem.F.slot_list_append PySem.F.type_list_append mt_append (pv 5) (pa_cons (pe_tup (pa_cons (pv 13) (pa_cons (pv 12) (pa_cons (pv 10) (pa_cons (pv 3) (pa_cons (pe_op op_add (pv 4) pe_int) pa_nil)))))) pa_nil)))
  (pss_one (ps_expr (pe_bm PySem.F.plainAttrs_list PySem.F.slot_list_append PySem.F.type_list_append mt_append (pv 5) (pa_cons (pe_tup (pa_cons (pv 0) (pa_cons (pv 8) (pa_cons (pv 11) (pa_cons (pv 13) (pa_cons (pe_op op_add (pv 4) pe_int) pa_nil)))))) pa_nil)))))))))))
  (pss_one (ps_expr (pe_bm PySem.F.plainAttrs_list PySem.F.slot_list_append PySem.F.type_list_append mt_append (pv 6) (pa_cons (pv 3) pa_nil)))))))))
  (pss_one (ps_ret (pv 6)))))), ?_⟩
  walk_at "z"
  intro p0 H1 f0 s0 h0
  walk_at "z"
  intro l1 H2 f1 s1 h1
  walk_at "z"
  intro l2 H3 f2 s2 h2
  have s01 := s0.trans s1
  have s02 := s01.trans s2
  have hl1 := s2 _ _ h1
  have ne12 : l1 ≠ l2 := fun z => by rw [← z, h1] at f2; cases f2
  have g1 : H l1 = none := by
    cases hh : H l1 with
    | none => rfl
    | some o => rw [s0 _ _ hh] at f1; cases f1
  have g2 : H l2 = none := by
    cases hh : H l2 with
    | none => rfl
    | some o => rw [s01 _ _ hh] at f2; cases f2
  have x0 : CvOk K H3 (.ref p0) ⟨a, b, c, d, r⟩ := ⟨p0, v1, v2, v3, v4, rfl, (s1.trans s2) _ _ h0, r5, dp_mono s02 d1, dp_mono s02 d2, dp_mono s02 d3, dp_mono s02 d4⟩
  have hN : turns r a b c d ≤ 63 := by
    have := turns_le r a b c d
    have h6 : 2 ^ (r + 1) ≤ 2 ^ 6 := Nat.pow_le_pow_right (by decide) (by omega)
    omega
  have I0 : LayI K H l1 l2 (lay r a b c d) (turns r a b c d) 0 H3 := ⟨ne12, g1, g2, s02, [.ref p0], [⟨a, b, c, d, r⟩], [], [], hl1, h2, ⟨x0, trivial⟩, gs_nil, by simp [outs, Cv.out], by simp [trns, Cv.trn]⟩
  clear x0 hl1 s02 s01 h2 s2 f2 h1 s1 f1 h0 s0 f0 d1 d2 d3 d4
  have hlen : (lay r a b c d).length ≤ 32 := Nat.le_trans (lay_len r a b c d) (pow5 r5)
  generalize lay r a b c d = tot at *
  generalize turns r a b c d = N at *
  have fin : ∀ (i : Nat) (H' : Hp), LayI K H l1 l2 tot N i H' → (∀ vs ts, H' l1 = some (.lst vs.reverse) → CvS K H' vs ts → ts = []) → Q (.ref l2) H' := by
    intro i H' ⟨_, _, _, sm, vs, ts, ws, fs, hv, hw, cs, gs, eo, _⟩ he
    obtain rfl := he vs ts hv cs
    refine q l2 ws H' g2 sm hw ?_
    rw [← eo]
    simpa [outs] using gs
  refine z_forR1 63 (by decide) (fun R q => by walk_at "z"; exact q) (fun i σ' H' => LayI K H l1 l2 tot N i H' ∧ ∃ u1 u2 u3 u4 u5 u6 u7 u8 u9 u10 u11 u12, σ' = [u1, u2, u3, u4, u5, some (.ref l1), some (.ref l2), u6, u7, u8, u9, u10, u11, u12])
    ⟨I0, _, _, _, _, _, _, _, _, _, _, _, _, rfl⟩ ?_ ?_
  · rintro i σ' H4 hi ⟨I4, u1, u2, u3, u4, u5, u6, u7, u8, u9, u10, u11, u12, rfl⟩
    obtain ⟨_, _, _, sm, vs, ts, ws, fs, hv, hw, cs, gs, eo, en⟩ := id I4
    walk_at "z"
    refine z_if (fun c0 => ?_) (fun c0 => ?_)
    · walk_at "z"
      refine fin i H4 I4 fun vs' ts' hv' cs' => ?_
      rw [hv] at hv'
      have hv' := congrArg List.length (HO.lst.inj (Option.some.inj hv'))
      rw [List.length_reverse, List.length_reverse] at hv'
      rw [List.length_reverse] at c0
      have := cs'.len
      exact List.eq_nil_of_length_eq_zero (by omega)
    rw [List.length_reverse] at c0
    walk_at "z"
    clear fin q I0 I4
    have hpos : 0 < vs.length := by
      rcases Nat.eq_zero_or_pos vs.length with z | z
      · exact absurd (by omega) c0
      · exact z
    cases ts with
    | nil =>
      have := cs.len
      have h0 : ([] : List Cv).length = 0 := rfl
      omega
    | cons x ts =>
    cases vs with
    | nil => exact cs.elim
    | cons v vs =>
    obtain ⟨x4, cs⟩ := cs
    rw [List.reverse_cons] at hv
    have hw5 : (upd H4 l1 (.lst vs.reverse)) l2 = some (.lst ws) := by rw [upd_ne (Ne.symm ne12)]; exact hw
    have x5 := x4.kp (kp_upd (o := .lst vs.reverse)) hv
    have cs5 := cs.kp (kp_upd (o := .lst vs.reverse)) hv
    have gs5 := gs.kp (kp_upd (o := .lst vs.reverse)) hv
    have hv5 : (upd H4 l1 (.lst vs.reverse)) l1 = some (.lst vs.reverse) := upd_same
    have sm5 : Same H (upd H4 l1 (.lst vs.reverse)) := fun b o e => by
      rw [upd_ne (fun z => by rw [z, g1] at e; cases e)]
      exact sm b o e
    have lv : vs.length ≤ 64 := by
      have h1 := cs.len
      have h2 : ∀ ts : List Cv, ts.length ≤ trns ts := fun ts => by
        induction ts with
        | nil => exact Nat.le_refl 0
        | cons y ts ih =>
          have := Cv.pos y
          have e : trns (y :: ts) = y.trn + trns ts := rfl
          have e2 : (y :: ts).length = ts.length + 1 := rfl
          omega
      have h3 := h2 ts
      have e : trns (x :: ts) = x.trn + trns ts := rfl
      omega
    have lw : ws.length ≤ 32 := by
      have h1 := gs.len
      have h2 := congrArg List.length eo
      rw [List.length_append] at h2
      omega
    refine z_bm0L (fun R q => by walk_at "z"; exact q) hv ?_
    refine z_pop hv ?_
    clear cs gs x4 hv hw sm c0 hpos
    generalize upd H4 l1 (.lst vs.reverse) = H5 at *
    obtain ⟨pc, w1, w2, w3, w4, rfl, hpc, xr, e1, e2, e3, e4⟩ := x5
    walk_at "z"
    refine z_andK (k' := (!flat x.a x.b x.c) || (!flat x.b x.c x.d)) (fun _ R q => by
      walk_at "z"
      refine ⟨_, _, _, x.a, x.b, x.c, rfl, e1, e2, e3, ?_⟩
      walk_at "z"
      refine z_orK (k' := !flat x.b x.c x.d) (fun _ R q => by
        walk_at "z"
        refine ⟨_, _, _, x.b, x.c, x.d, rfl, e2, e3, e4, ?_⟩
        walk_at "z"
        exact q) q) ?_
    refine z_ifB (fun cc => ?_) (fun cc => ?_)
    · obtain ⟨c1, c2⟩ := (Bool.and_eq_true _ _).mp cc
      have c1' : (5 : Int) - (x.r : Int) < 5 := of_decide_eq_true c1
      have hr0 : x.r ≠ 0 := by omega
      have hfl : x.flt = false := by
        unfold Cv.flt
        rw [Bool.and_eq_false_iff]
        rcases (Bool.or_eq_true _ _).mp c2 with z | z
        · exact .inl (by simpa using z)
        · exact .inr (by simpa using z)
      obtain ⟨go1, go2⟩ := Cv.go hr0 hfl
      walk_at "z"
      refine midq e1 e2 fun ve H6 s6 de => ?_
      walk_at "z"
      refine midq (dp_mono s6 e2) (dp_mono s6 e3) fun vf H7 s7 df => ?_
      have s57 := s6.trans s7
      walk_at "z"
      refine midq (dp_mono s57 e3) (dp_mono s57 e4) fun vg H8 s8 dg => ?_
      walk_at "z"
      refine midq (dp_mono (s7.trans s8) de) (dp_mono s8 df) fun vh H9 s9 dh => ?_
      walk_at "z"
      refine midq (dp_mono (s8.trans s9) df) (dp_mono s9 dg) fun vk HA sA dk => ?_
      walk_at "z"
      refine midq (dp_mono sA dh) dk fun vm HB sB dm => ?_
      have s7B := ((s8.trans s9).trans sA).trans sB
      have s5B := s57.trans s7B
      have eA := dp_mono s5B e1
      have eD := dp_mono s5B e4
      have de' := dp_mono (s7.trans s7B) de
      have dg' := dp_mono ((s9.trans sA).trans sB) dg
      have dh' := dp_mono (sA.trans sB) dh
      have dk' := dp_mono sB dk
      have hvB := s5B _ _ hv5
      have hwB := s5B _ _ hw5
      have csB := cs5.mono s5B
      have gsB := gs5.mono s5B
      have smB := sm5.trans s5B
      clear s7B s57 s6 s7 s8 s9 sA sB de df dg dh dk cs5 gs5 hv5 hw5 e1 e2 e3 e4 hpc sm5 s5B cc c2 c1
      walk_at "z"
      refine z_bmL (fun R q => by walk_at "z"; exact q) hvB ?_
      walk_at "z"
      intro pC HC fC sC hC
      have hvC := sC _ _ hvB
      walk_at "z"
      refine z_append hvC (by simp; omega) ?_
      have xh : CvOk K HC (.ref pC) x.hi := ⟨pC, _, _, _, _, rfl, by rw [hC, show (5 : Int) - (x.r : Int) + 1 = 5 - ((x.hi.r : Nat) : Int) by show _ = 5 - ((x.r - 1 : Nat) : Int); omega], by show x.r - 1 ≤ 5; omega, dp_mono sC dm, dp_mono sC dk', dp_mono sC dg', dp_mono sC eD⟩
      have kD : Kp l1 HC (upd HC l1 (.lst (vs.reverse ++ [V.ref pC]))) := kp_upd
      have xh := xh.kp kD hvC
      have csD := (csB.mono sC).kp kD hvC
      have gsD := (gsB.mono sC).kp kD hvC
      have eAD := dp_kp kD hvC rfl (dp_mono sC eA)
      have deD := dp_kp kD hvC rfl (dp_mono sC de')
      have dhD := dp_kp kD hvC rfl (dp_mono sC dh')
      have dmD := dp_kp kD hvC rfl (dp_mono sC dm)
      have hwD : (upd HC l1 (.lst (vs.reverse ++ [V.ref pC]))) l2 = some (.lst ws) := by rw [upd_ne (Ne.symm ne12)]; exact sC _ _ hwB
      have hvD : (upd HC l1 (.lst (vs.reverse ++ [V.ref pC]))) l1 = some (.lst (vs.reverse ++ [V.ref pC])) := upd_same
      have smD : Same H (upd HC l1 (.lst (vs.reverse ++ [V.ref pC]))) := fun b o e => by
        rw [upd_ne (fun z => by rw [z, g1] at e; cases e)]
        exact sC _ _ (smB b o e)
      clear csB gsB eA de' dh' dm dk' dg' eD hwB hvB smB kD hvC hC sC
      generalize upd HC l1 (.lst (vs.reverse ++ [V.ref pC])) = HD at *
      walk_at "z"
      refine z_bmL (fun R q => by walk_at "z"; exact q) hvD ?_
      walk_at "z"
      intro pE HE fE sE hE
      have hvE := sE _ _ hvD
      walk_at "z"
      refine z_append hvE (by simp; omega) ?_
      have xl : CvOk K HE (.ref pE) x.lo := ⟨pE, _, _, _, _, rfl, by rw [hE, show (5 : Int) - (x.r : Int) + 1 = 5 - ((x.lo.r : Nat) : Int) by show _ = 5 - ((x.r - 1 : Nat) : Int); omega], by show x.r - 1 ≤ 5; omega, dp_mono sE eAD, dp_mono sE deD, dp_mono sE dhD, dp_mono sE dmD⟩
      have kF : Kp l1 HE (upd HE l1 (.lst (vs.reverse ++ [V.ref pC] ++ [V.ref pE]))) := kp_upd
      walk_at "z"
      refine ⟨⟨ne12, g1, g2, fun b o e => ?_, .ref pE :: .ref pC :: vs, x.lo :: x.hi :: ts, ws, fs, ?_, ?_, ⟨xl.kp kF hvE, (xh.mono sE).kp kF hvE, (csD.mono sE).kp kF hvE⟩, (gsD.mono sE).kp kF hvE, ?_, ?_⟩, _, _, _, _, _, _, _, _, _, _, _, _, rfl⟩
      · rw [upd_ne (fun z => by rw [z, g1] at e; cases e)]
        exact sE _ _ (smD b o e)
      · rw [upd_same]
        simp
      · rw [upd_ne (Ne.symm ne12)]
        exact sE _ _ hwD
      · rw [← eo]
        simp only [outs, List.flatMap_cons, go1, List.append_assoc]
      · have e1 : trns (x :: ts) = x.trn + trns ts := rfl
        have e2 : trns (x.lo :: x.hi :: ts) = x.lo.trn + (x.hi.trn + trns ts) := rfl
        omega
    · have hst : x.r = 0 ∨ x.flt = true := by
        rcases Nat.eq_zero_or_pos x.r with z | z
        · exact .inl z
        · refine .inr ?_
          have c1 : decide ((5 : Int) - (x.r : Int) < 5) = true := decide_eq_true (by omega)
          rw [c1, Bool.true_and] at cc
          unfold Cv.flt
          rw [Bool.or_eq_false_iff] at cc
          simpa using cc
      obtain ⟨st1, st2⟩ := Cv.stop hst
      walk_at "z"
      refine z_bmL (fun R q => by walk_at "z"; exact q) hw5 ?_
      walk_at "z"
      refine z_append hw5 (by omega) ?_
      have kF : Kp l2 H5 (upd H5 l2 (.lst (ws ++ [w4]))) := kp_upd
      walk_at "z"
      refine ⟨⟨ne12, g1, g2, fun b o e => ?_, vs, ts, ws ++ [w4], fs ++ [x.d], ?_, upd_same, cs5.kp kF hw5, (gs5.app (gs_one e4)).kp kF hw5, ?_, ?_⟩, _, _, _, _, _, _, _, _, _, _, _, _, rfl⟩
      · rw [upd_ne (fun z => by rw [z, g2] at e; cases e)]
        exact sm5 b o e
      · rw [upd_ne ne12]
        exact hv5
      · rw [← eo]
        simp only [outs, List.flatMap_cons, st1, List.append_assoc]
      · have e1 : trns (x :: ts) = x.trn + trns ts := rfl
        omega
  · rintro σ' H4 ⟨I4, u1, u2, u3, u4, u5, u6, u7, u8, u9, u10, u11, u12, rfl⟩
    walk_at "z"
    refine fin 63 H4 I4 fun vs' ts' hv' cs' => ?_
    obtain ⟨_, _, _, sm, vs, ts, ws, fs, hv, hw, cs, gs, eo, en⟩ := I4
    rw [hv] at hv'
    have ev : vs' = vs := by
      have := congrArg List.reverse (HO.lst.inj (Option.some.inj hv'))
      simpa using this.symm
    subst ev
    have l1' := cs.len
    have l2' := cs'.len
    have hts : ts = [] := by
      cases ts with
      | nil => rfl
      | cons x ts =>
        have := Cv.pos x
        have e : trns (x :: ts) = x.trn + trns ts := rfl
        omega
    subst hts
    have h0 : ([] : List Cv).length = 0 := rfl
    exact List.eq_nil_of_length_eq_zero (by omega)
end
/-! ### paths of numbers -/
abbrev NP := GP × GP
/-- a number of a drawn path -/
def Nk (a : GP) : Prop := 0 < a.2 ∧ a.1.natAbs < 2 ^ 60 ∧ a.2.natAbs < 2 ^ 60
def Pk (a : NP) : Prop := Nk a.1 ∧ Nk a.2
def ptD (a : NP) : PyData := .tuple [gD a.1, gD a.2]
def sD : Option (NP × NP) → PyData
  | none => .none
  | some (c, d) => .tuple [ptD c, ptD d]
def Sk : Option (NP × NP) → Prop
  | none => True
  | some (c, d) => Pk c ∧ Pk d
def gp (a : NP) : GP := (near (64 * a.1.1) a.1.2, near (64 * a.2.1) a.2.2)
theorem lt60 {a : Nat} (h : a < 2 ^ 60) : a < 2 ^ 200 := Nat.lt_trans h (by decide)
theorem lt60' {a : Nat} (h : a < 2 ^ 60) : a < 2 ^ 100 := Nat.lt_trans h (by decide)
section
variable {K : PySem.W.Frag} {H H' : Hp}
theorem isN_g {v : V} {a : GP} (h : Dp K H v (gD a)) (k : Nk a) : IsN K H v a.1 a.2 := by
  obtain ⟨p, rfl, hp⟩ := dp_g h
  exact ⟨p, rfl, hp, k.1, lt60 k.2.1, lt60 k.2.2⟩
theorem gridq {v : V} {a : NP} {Q : VK} {E : XK} (h : Dp K H v (ptD a)) (k : Pk a) (q : ∀ v' H', Same H H' → Dp K H' v' (gD (gp a)) → Q v' H') : sp_grid_point K [v] H Q E := by
  obtain ⟨p, v1, v2, rfl, hp, d1, d2⟩ := dp_t2 h
  exact ⟨v1, v2, p, _, _, _, _, rfl, hp, isN_g d1 k.1, isN_g d2 k.2, lt60' k.1.2.1, lt60' k.2.2.1, fun p' H' _ s h => q _ H' s (dp_mkg h)⟩
theorem dpa_len : ∀ {ds : List PyData} {vs : List V}, DpAll K H vs ds → vs.length = ds.length
  | [], _, h => by
    rw [dpa_nil h]
    rfl
  | d :: ds, _, h => by
    obtain ⟨v, r, rfl, _, h⟩ := dpa_cons h
    rw [List.length_cons, List.length_cons, dpa_len h]
theorem dpa_get : ∀ {ds : List PyData} {vs : List V} {i : Nat} {d : PyData}, DpAll K H vs ds → ds[i]? = some d → ∃ v, vs[i]? = some v ∧ Dp K H v d
  | [], _, _, _, _, e => by cases e
  | d :: ds, _, i, _, h0, e => by
    obtain ⟨v, r, rfl, h1, h⟩ := dpa_cons h0
    cases i with
    | zero =>
      cases e
      exact ⟨v, rfl, h1⟩
    | succ i =>
      have h5 := dpa_get (i := i) h (show ds[i]? = some _ from e)
      exact h5
theorem dpa_app : ∀ {ds es : List PyData} {vs ws : List V}, DpAll K H vs ds → DpAll K H ws es → DpAll K H (vs ++ ws) (ds ++ es)
  | [], _, _, _, h, k => by
    rw [dpa_nil h]
    exact k
  | d :: ds, _, _, _, h, k => by
    obtain ⟨v, r, rfl, h1, h⟩ := dpa_cons h
    exact .cons h1 (dpa_app h k)
theorem dpa_set : ∀ {ds : List PyData} {vs : List V} {i : Nat} {d : PyData} {v : V}, DpAll K H vs ds → Dp K H v d → DpAll K H (vs.set i v) (ds.set i d)
  | [], _, _, _, _, h, k => by
    rw [dpa_nil h]
    exact .nil
  | d :: ds, _, i, _, _, h, k => by
    obtain ⟨v, r, rfl, h1, h⟩ := dpa_cons h
    cases i with
    | zero => exact .cons k h
    | succ i => exact .cons h1 (dpa_set h k)
theorem dpa_kp {p : Addr} {xs : List V} {vs : List V} {ds : List PyData} (k : Kp p H H') (hp : H p = some (.lst xs)) (t : tupOnlyA ds = true) (h : DpAll K H vs ds) : DpAll K H' vs ds := dp_kpA k hp t h
theorem tup_pts : ∀ pts : List NP, tupOnlyA (pts.map ptD) = true
  | [] => rfl
  | a :: r => by
    show (tupOnly (ptD a) && tupOnlyA (r.map ptD)) = true
    rw [tup_pts r]
    rfl
theorem tup_s (s : Option (NP × NP)) : tupOnly (sD s) = true := by
  match s with
  | none => rfl
  | some (c, d) => rfl
theorem tup_sgs : ∀ sgs : List (Option (NP × NP)), tupOnlyA (sgs.map sD) = true
  | [] => rfl
  | a :: r => by
    show (tupOnly (sD a) && tupOnlyA (r.map sD)) = true
    rw [tup_sgs r, tup_s]
    rfl
/-- a value that is a path -/
structure Pth (K : PySem.W.Frag) (H : Hp) (v : V) (ks ss : List V) (cyc : Bool) (pts : List NP) (sgs : List (Option (NP × NP))) : Prop where
  at_ : ∃ a k s, v = .ref a ∧ SqT K H a [.ref k, .ref s, .bl cyc] ∧ SqT K H k ks ∧ SqT K H s ss
  dk : DpAll K H ks (pts.map ptD)
  ds : DpAll K H ss (sgs.map sD)
  n1 : 1 ≤ pts.length
  n2 : sgs.length ≤ pts.length
  n3 : sgs.length ≤ 24
  pk : ∀ a ∈ pts, Pk a
  sk : ∀ s ∈ sgs, Sk s
variable {v : V} {ks ss : List V} {cyc : Bool} {pts : List NP} {sgs : List (Option (NP × NP))}
theorem Pth.mono (P : Pth K H v ks ss cyc pts sgs) (s : Same H H') : Pth K H' v ks ss cyc pts sgs := by
  obtain ⟨a, k, g, e, h1, h2, h3⟩ := P.at_
  exact ⟨⟨a, k, g, e, seqT s h1, seqT s h2, seqT s h3⟩, dp_monoA s P.dk, dp_monoA s P.ds, P.n1, P.n2, P.n3, P.pk, P.sk⟩
theorem Pth.kl (P : Pth K H v ks ss cyc pts sgs) : ks.length = pts.length := by
  have := dpa_len P.dk
  rwa [List.length_map] at this
theorem Pth.sl (P : Pth K H v ks ss cyc pts sgs) : ss.length = sgs.length := by
  have := dpa_len P.ds
  rwa [List.length_map] at this
theorem Pth.pt (P : Pth K H v ks ss cyc pts sgs) {i : Nat} {a : NP} (h : pts[i]? = some a) : ∃ w, ks[i]? = some w ∧ Dp K H w (ptD a) := dpa_get P.dk (by rw [List.getElem?_map, h]; rfl)
theorem Pth.sg (P : Pth K H v ks ss cyc pts sgs) {i : Nat} {a : Option (NP × NP)} (h : sgs[i]? = some a) : ∃ w, ss[i]? = some w ∧ Dp K H w (sD a) := dpa_get P.ds (by rw [List.getElem?_map, h]; rfl)
end
/-- what a segment adds -/
def sOut (a : GP) (s : Option (NP × NP)) (b : GP) : List GP := match s with
  | none => [b]
  | some (c, d) => lay 5 a (gp c) (gp d) b
theorem sOut_len (a : GP) (s : Option (NP × NP)) (b : GP) : (sOut a s b).length ≤ 32 := by
  match s with
  | none => exact Nat.le_of_ble_eq_true rfl
  | some (c, d) => exact Nat.le_trans (lay_len 5 _ _ _ _) (pow5 (Nat.le_refl 5))
def segL (pts : List NP) (sgs : List (Option (NP × NP))) (i : Nat) : List GP := match pts[i]?, sgs[i]?, pts[(i + 1) % pts.length]? with
  | some a, some s, some b => sOut (gp a) s (gp b)
  | _, _, _ => []
def upto (pts : List NP) (sgs : List (Option (NP × NP))) : Nat → List GP
  | 0 => match pts[0]? with
    | some a => [gp a]
    | none => []
  | i + 1 => upto pts sgs i ++ segL pts sgs i
theorem segL_eq {pts : List NP} {sgs : List (Option (NP × NP))} {i : Nat} {a b : NP} {s : Option (NP × NP)} (h1 : pts[i]? = some a) (h2 : sgs[i]? = some s) (h3 : pts[(i + 1) % pts.length]? = some b) : segL pts sgs i = sOut (gp a) s (gp b) := by
  unfold segL
  rw [h1, h2, h3]
theorem upto_0 {pts : List NP} {sgs : List (Option (NP × NP))} {a : NP} (h : pts[0]? = some a) : upto pts sgs 0 = [gp a] := by
  unfold upto
  rw [h]
theorem upto_len (pts : List NP) (sgs : List (Option (NP × NP))) : ∀ i, (upto pts sgs i).length ≤ 32 * i + 1
  | 0 => by
    unfold upto
    split
    · exact Nat.le_refl 1
    · exact Nat.zero_le _
  | i + 1 => by
    show (upto pts sgs i ++ segL pts sgs i).length ≤ _
    rw [List.length_append]
    have h1 := upto_len pts sgs i
    have h2 : (segL pts sgs i).length ≤ 32 := by
      unfold segL
      split
      · exact sOut_len _ _ _
      · exact Nat.zero_le _
    omega
def sp_length (K : PySem.W.Frag) : Sp := fun vs H Q _ => ∃ (v : V) (ks ss : List V) (cyc : Bool) (pts : List NP) (sgs : List (Option (NP × NP))), vs = [v] ∧ Pth K H v ks ss cyc pts sgs ∧ Q (.int (sgs.length : Int)) H
def sp_segment_at (K : PySem.W.Frag) : Sp := fun vs H Q _ => ∃ (v : V) (n : Nat) (ks ss : List V) (cyc : Bool) (pts : List NP) (sgs : List (Option (NP × NP))) (wa sg wb : V), vs = [v, .int (n : Int)] ∧ Pth K H v ks ss cyc pts sgs ∧ n < sgs.length ∧ ks[n]? = some wa ∧ ss[n]? = some sg ∧ ks[(n + 1) % pts.length]? = some wb ∧
  ∀ p H', Same H H' → H' p = some (.tup [wa, sg, wb]) → Q (.ref p) H'
def sp_laid_out_segment (K : PySem.W.Frag) : Sp := fun vs H Q _ => ∃ (va vs' vb : V) (a b : GP) (s : Option (NP × NP)), vs = [va, vs', vb] ∧ Dp K H va (gD a) ∧ Dp K H vs' (sD s) ∧ Dp K H vb (gD b) ∧ Sk s ∧
  ∀ p ws H', H p = none → Same H H' → H' p = some (.lst ws) → Gs K H' ws (sOut a s b) → Q (.ref p) H'
def sp_outline (K : PySem.W.Frag) : Sp := fun vs H Q _ => ∃ (v : V) (ks ss : List V) (cyc : Bool) (pts : List NP) (sgs : List (Option (NP × NP))), vs = [v] ∧ Pth K H v ks ss cyc pts sgs ∧
  ∀ p ws H', H p = none → Same H H' → H' p = some (.lst ws) → Gs K H' ws (upto pts sgs sgs.length) → Q (.ref p) H'
section
theorem ok_length {P : Program} {w : World} {K : PySem.W.Frag} {mg : Str → Option Value} {base : Heap} {A : Nat → Addr} {D : Nat → FuncData} (T : Txt K mg A D) : FnOk P w K mg base (L2.CX P w) 1 (A 2) (D 2) ["path"] (sp_length K) := by
  refine T.F_length.okX sc_length (fun vs H Q E h => ?_) (fun cdv A' outer s H vs Q E hr h => ?_)
  · obtain ⟨_, _, _, _, _, _, rfl, _⟩ := h
    rfl
  obtain ⟨_, ks, ss, cyc, pts, sgs, rfl, P, q⟩ := h
  obtain ⟨a, k, g, rfl, h1, h2, h3⟩ := P.at_
  rw [← P.sl] at q
  refine ⟨_, (pss_one (ps_ret (pe_callB Z.c_len (by rfl) T.z_len (by decide +kernel) (pa_cons (pe_ix ix_tup (pv 0) pe_int (fun _ _ => rfl)) pa_nil)))), ?_⟩
  walk_at "z"
  exact q
theorem ok_segment_at {P : Program} {w : World} {K : PySem.W.Frag} {mg : Str → Option Value} {base : Heap} {A : Nat → Addr} {D : Nat → FuncData} (T : Txt K mg A D) : FnOk P w K mg base (L2.CX P w) 1 (A 3) (D 3) ["path", "n"] (sp_segment_at K) := by
  refine T.F_segment_at.okX sc_segment_at (fun vs H Q E h => ?_) (fun cdv A' outer s H vs Q E hr h => ?_)
  · obtain ⟨_, _, _, _, _, _, _, _, _, _, rfl, _⟩ := h
    rfl
  obtain ⟨_, n, ks, ss, cyc, pts, sgs, wa, sg, wb, rfl, P, hn, e1, e2, e3, q⟩ := h
  have n1 := P.n1
  have kl := P.kl
  have sl := P.sl
  obtain ⟨a, k, g, rfl, h1, h2, h3⟩ := P.at_
  have e4 : (n : Int) % (ss.length : Int) = (n : Int) := Int.emod_eq_of_lt (by omega) (by omega)
  refine ⟨_, (pss_cons (ps_asg (pv 0) (pg_tup (by rfl) (pgs_cons (pg_name (i := 2) sc_segment_at.nd rfl (.inl rfl)) (pgs_cons (pg_name (i := 3) sc_segment_at.nd rfl (.inl rfl)) (pgs_cons (pg_name (i := 4) sc_segment_at.nd rfl (.inl rfl)) pgs_nil)))))
  (pss_cons (ps_set (i := 5) sc_segment_at.nd rfl (.inl rfl) (pe_op op_mod (pv 1) (pe_callB Z.c_len (by rfl) T.z_len (by decide +kernel) (pa_cons (pv 3) pa_nil))))
  (pss_one (ps_ret (pe_tup (pa_cons (pe_ix ix_tup (pv 2) (pv 5) (fun _ _ => rfl)) (pa_cons (pe_ix ix_tup (pv 3) (pv 5) (fun _ _ => rfl)) (pa_cons (pe_ix ix_tup (pv 2) (pe_op op_mod (pe_op op_add (pv 5) pe_int) (pe_callB Z.c_len (by rfl) T.z_len (by decide +kernel) (pa_cons (pv 2) pa_nil))) (fun _ _ => rfl)) pa_nil)))))))), ?_⟩
  walk_at "z"
  rw [e4]
  refine z_ixT h2 (atI_nat e1) ?_
  walk_at "z"
  refine z_ixT h3 (atI_nat e2) ?_
  walk_at "z"
  refine z_ixT h2 (show atI ks (((n : Int) + 1) % (ks.length : Int)) = some wb from by
    rw [kl, show ((n : Int) + 1) % (pts.length : Int) = (((n + 1) % pts.length : Nat) : Int) by rw [Int.natCast_emod]; rfl]
    exact atI_nat e3) ?_
  walk_at "z"
  exact fun p H' _ s h => q p H' s h
theorem ok_laid_out_segment {P : Program} {w : World} {K : PySem.W.Frag} {mg : Str → Option Value} {base : Heap} {A : Nat → Addr} {D : Nat → FuncData} (T : Txt K mg A D) : FnOk P w K mg base (L2.CX P w) 10 (A 6) (D 6) ["a", "segment", "b"] (sp_laid_out_segment K) := by
  refine T.F_laid_out_segment.okX sc_laid_out_segment (fun vs H Q E h => ?_) (fun cdv A' outer s H vs Q E hr h => ?_)
  · obtain ⟨_, _, _, _, _, _, rfl, _⟩ := h
    rfl
  obtain ⟨va, sv, vb, a, b, s, rfl, da, ds, db, k, q⟩ := h
  refine ⟨_, (pss_cons (ps_if (pt_cmpR Z.op_isN1 (pv 1) pe_non (nomark _))
  (pss_one (ps_ret (pe_lst (pa_cons (pv 2) pa_nil))))
  pss_nil)
  (pss_one (ps_ret (pe_call (ok_lay_out T) (hr.mono (by decide)) (by rfl) T.m_lay_out T.F_lay_out.kp T.b_lay_out .nil (passes_call (takes_of rfl rfl rfl rfl) (fun _ _ _ _ h => h)) (pa_cons (pv 0) (pa_cons (pe_call (ok_grid_point T) (hr.mono (by decide)) (by rfl) T.m_grid_point T.F_grid_point.kp T.b_grid_point .nil (passes_call (takes_of rfl rfl rfl rfl) (fun _ _ _ _ h => h)) (pa_cons (pe_ix ix_tup (pv 1) pe_int (fun _ _ => rfl)) pa_nil)) (pa_cons (pe_call (ok_grid_point T) (hr.mono (by decide)) (by rfl) T.m_grid_point T.F_grid_point.kp T.b_grid_point .nil (passes_call (takes_of rfl rfl rfl rfl) (fun _ _ _ _ h => h)) (pa_cons (pe_ix ix_tup (pv 1) pe_int (fun _ _ => rfl)) pa_nil)) (pa_cons (pv 2) (pa_cons pe_int pa_nil))))))))), ?_⟩
  match s with
  | none =>
    rw [dp_non ds]
    walk_at "z"
    intro p H1 f1 s1 h1
    exact q p _ H1 f1 s1 h1 (gs_one (dp_mono s1 db))
  | some (c, d) =>
    obtain ⟨p, v1, v2, rfl, hp, d1, d2⟩ := dp_t2 ds
    walk_at "z"
    refine gridq d1 k.1 fun w1 H1 s1 e1 => ?_
    have hp1 := seqT s1 hp
    walk_at "z"
    refine gridq (dp_mono s1 d2) k.2 fun w2 H2 s2 e2 => ?_
    have s12 := s1.trans s2
    walk_at "z"
    refine ⟨6, by decide, va, w1, w2, vb, a, _, _, b, by rfl, by decide, dp_mono s12 da, dp_mono s2 e1, e2, dp_mono s12 db, fun p ws H3 f3 s3 h3 g3 => ?_⟩
    refine q p ws H3 ?_ (s12.trans s3) h3 g3
    cases hh : H p with
    | none => rfl
    | some o => rw [s12 _ _ hh] at f3; cases f3
end
section
theorem ok_outline {P : Program} {w : World} {K : PySem.W.Frag} {mg : Str → Option Value} {base : Heap} {A : Nat → Addr} {D : Nat → FuncData} (T : Txt K mg A D) : FnOk P w K mg base (L2.CX P w) 11 (A 5) (D 5) ["path"] (sp_outline K) := by
  refine T.F_outline.okX sc_outline (fun vs H Q E h => ?_) (fun cdv A' outer s H vs Q E hr h => ?_)
  · obtain ⟨_, _, _, _, _, _, rfl, _⟩ := h
    rfl
  obtain ⟨v, ks, ss, cyc, pts, sgs, rfl, P, q⟩ := h
  have n1 := P.n1
  have n3 := P.n3
  obtain ⟨a0, ha0⟩ : ∃ z, pts[0]? = some z := ⟨_, List.getElem?_eq_getElem (show 0 < pts.length by omega)⟩
  obtain ⟨w0, hw0, d0⟩ := P.pt ha0
  obtain ⟨a, k, g, rfl, h1, h2, h3⟩ := P.at_
  refine ⟨_, (pss_cons (ps_set (i := 1) sc_outline.nd rfl (.inl rfl) (pe_lst (pa_cons (pe_call (ok_grid_point T) (hr.mono (by decide)) (by rfl) T.m_grid_point T.F_grid_point.kp T.b_grid_point .nil (passes_call (takes_of rfl rfl rfl rfl) (fun _ _ _ _ h => h)) (pa_cons (pe_ix ix_tup (pe_ix ix_tup (pv 0) pe_int (fun _ _ => rfl)) pe_int (fun _ _ => rfl)) pa_nil)) pa_nil)))
  (pss_cons (ps_for (passes_of rfl) rfl (pi_range1 (by rfl) T.z_range (pa_cons (pe_call (ok_length T) (hr.mono (by decide)) (by rfl) T.m_length T.F_length.kp T.b_length .nil (passes_call (takes_of rfl rfl rfl rfl) (fun _ _ _ _ h => h)) (pa_cons (pv 0) pa_nil)) pa_nil)) (pg_name (i := 2) sc_outline.nd rfl (.inl rfl))
  (pss_cons (ps_asg (pe_call (ok_segment_at T) (hr.mono (by decide)) (by rfl) T.m_segment_at T.F_segment_at.kp T.b_segment_at .nil (passes_call (takes_of rfl rfl rfl rfl) (fun _ _ _ _ h => h)) (pa_cons (pv 0) (pa_cons (pv 2) pa_nil))) (pg_tup (by rfl) (pgs_cons (pg_name (i := 3) sc_outline.nd rfl (.inl rfl)) (pgs_cons (pg_name (i := 4) sc_outline.nd rfl (.inl rfl)) (pgs_cons (pg_name (i := 5) sc_outline.nd rfl (.inl rfl)) pgs_nil)))))
  (pss_one (ps_expr (pe_bm PySem.F.plainAttrs_list PySem.F.slot_list_extend PySem.F.type_list_extend mt_extend (pv 1) (pa_cons (pe_call (ok_laid_out_segment T) (hr.mono (by decide)) (by rfl) T.m_laid_out_segment T.F_laid_out_segment.kp T.b_laid_out_segment .nil (passes_call (takes_of rfl rfl rfl rfl) (fun _ _ _ _ h => h)) (pa_cons (pe_call (ok_grid_point T) (hr.mono (by decide)) (by rfl) T.m_grid_point T.F_grid_point.kp T.b_grid_point .nil (passes_call (takes_of rfl rfl rfl rfl) (fun _ _ _ _ h => h)) (pa_cons (pv 3) pa_nil)) (pa_cons (pv 4) (pa_cons (pe_call (ok_grid_point T) (hr.mono (by decide)) (by rfl) T.m_grid_point T.F_grid_point.kp T.b_grid_point .nil (passes_call (takes_of rfl rfl rfl rfl) (fun _ _ _ _ h => h)) (pa_cons (pv 5) pa_nil)) pa_nil)))) pa_nil))))))
  (pss_one (ps_ret (pv 1))))), ?_⟩
  walk_at "z"
  refine z_ixT h2 (atI_nat hw0) ?_
  walk_at "z"
  refine gridq d0 (P.pk _ (List.mem_of_getElem? ha0)) fun w1 H1 s1 e1 => ?_
  walk_at "z"
  intro D H2 f2 s2 hD
  have s02 := s1.trans s2
  have f0 : H D = none := by
    cases hh : H D with
    | none => rfl
    | some o => rw [s1 _ _ hh] at f2; cases f2
  walk_at "z"
  refine z_forR1 sgs.length (by omega) (fun R q => by
    walk_at "z"
    refine ⟨_, ks, ss, cyc, pts, sgs, rfl, P.mono s02, ?_⟩
    exact q) (fun i σ' H' => Same H H' ∧ ∃ ws u1 u2 u3 u4, H' D = some (.lst ws) ∧ Gs K H' ws (upto pts sgs i) ∧ σ' = [some (.ref a), some (.ref D), u1, u2, u3, u4])
    ⟨s02, [w1], _, _, _, _, hD, by rw [upto_0 ha0]; exact gs_one (dp_mono s2 e1), rfl⟩ ?_ ?_
  · rintro i σ' H3 hi ⟨s3, ws, u1, u2, u3, u4, hD3, g3, rfl⟩
    have P3 := P.mono s3
    have n2 := P.n2
    have hm : (i + 1) % pts.length < pts.length := Nat.mod_lt _ (by omega)
    obtain ⟨za, hza⟩ : ∃ z, pts[i]? = some z := ⟨_, List.getElem?_eq_getElem (show i < pts.length by omega)⟩
    obtain ⟨zs, hzs⟩ : ∃ z, sgs[i]? = some z := ⟨_, List.getElem?_eq_getElem hi⟩
    obtain ⟨zb, hzb⟩ : ∃ z, pts[(i + 1) % pts.length]? = some z := ⟨_, List.getElem?_eq_getElem hm⟩
    obtain ⟨wa, hwa, da⟩ := P3.pt hza
    obtain ⟨wb, hwb, db⟩ := P3.pt hzb
    obtain ⟨wg, hwg, dg⟩ := P3.sg hzs
    have pa := P.pk _ (List.mem_of_getElem? hza)
    have pb := P.pk _ (List.mem_of_getElem? hzb)
    have pg := P.sk _ (List.mem_of_getElem? hzs)
    have lu := upto_len pts sgs i
    have ll := sOut_len (gp za) zs (gp zb)
    have e5 : upto pts sgs (i + 1) = upto pts sgs i ++ sOut (gp za) zs (gp zb) := by
      show _ ++ segL pts sgs i = _
      rw [segL_eq hza hzs hzb]
    walk_at "z"
    refine ⟨_, i, ks, ss, cyc, pts, sgs, wa, wg, wb, rfl, P3, hi, hwa, hwg, hwb, fun p4 H4 s4 h4 => ?_⟩
    have hD4 := s4 _ _ hD3
    walk_at "z"
    refine z_bmL (fun R q => by walk_at "z"; exact q) hD4 ?_
    walk_at "z"
    refine gridq (dp_mono s4 da) pa fun va H5 s5 ea => ?_
    have s45 := s4.trans s5
    walk_at "z"
    refine gridq (dp_mono s45 db) pb fun vb H6 s6 eb => ?_
    have s46 := s45.trans s6
    walk_at "z"
    refine ⟨va, wg, vb, _, _, zs, rfl, dp_mono s6 ea, dp_mono s46 dg, eb, pg, fun p7 w7 H7 f7 s7 h7 g7 => ?_⟩
    have s47 := s46.trans s7
    have hD7 := s47 _ _ hD3
    have g3' := g3.mono s47
    have l1 := g3'.len
    have l2 := g7.len
    walk_at "z"
    refine z_extend hD7 h7 (by omega) ?_
    walk_at "z"
    have kD : Kp D H7 (upd H7 D (.lst (ws ++ w7))) := fun b o hb e => by rw [upd_ne hb]; exact e
    refine ⟨fun b o e => ?_, ws ++ w7, _, _, _, _, upd_same, by rw [e5]; exact (g3'.app g7).kp kD hD7, rfl⟩
    rw [upd_ne (fun z => by rw [z, f0] at e; cases e)]
    exact s47 _ _ (s3 _ _ e)
  · rintro σ' H3 ⟨s3, ws, u1, u2, u3, u4, hD3, g3, rfl⟩
    walk_at "z"
    exact q D ws H3 f0 s3 hD3 g3
end
/-! ### the law's own numbers -/
theorem abs_eq (n : Int) : (if n < 0 then -n else n) = (n.natAbs : Int) := by
  split <;> omega
def sp__law_ratio (K : PySem.W.Frag) : Sp := fun vs H Q _ => ∃ n d : Int, vs = [.int n, .int d] ∧ 0 < d ∧ n.natAbs < 2 ^ 60 ∧ d.natAbs < 2 ^ 60 ∧ ∀ v a H', Same H H' → Dp K H' v (gD a) → Nk a → Q v H'
section
theorem ok__law_ratio {P : Program} {w : World} {K : PySem.W.Frag} {mg : Str → Option Value} {base : Heap} {A : Nat → Addr} {D : Nat → FuncData} (T : Txt K mg A D) : FnOk P w K mg base (L2.CX P w) 1 (A 15) (D 15) ["n", "d"] (sp__law_ratio K) := by
  refine T.F__law_ratio.okX sc__law_ratio (fun vs H Q E h => ?_) (fun cdv A' outer s H vs Q E hr h => ?_)
  · obtain ⟨n, d, rfl, _⟩ := h
    rfl
  obtain ⟨n, d, rfl, h0, hn, hd, q⟩ := h
  refine ⟨_, (pss_cons (ps_set (i := 2) sc__law_ratio.nd rfl (.inl rfl) (pe_callB Z.c_abs (by rfl) T.z_abs (by decide +kernel) (pa_cons (pv 0) pa_nil)))
  (pss_cons (ps_set (i := 3) sc__law_ratio.nd rfl (.inl rfl) (pv 1))
  (pss_cons (ps_for (passes_of rfl) rfl (pi_range1 (by rfl) T.z_range (pa_cons pe_int pa_nil)) (pg_name (i := 4) sc__law_ratio.nd rfl (.inl rfl))
  (pss_cons (ps_if (pt_cmpR op_eq (pv 3) pe_int (nomark _))
  (pss_one ps_break)
  pss_nil)
  (pss_one (ps_par (i := 2) (j := 3) (by rfl) sc__law_ratio.nd rfl rfl (by decide) rfl rfl (pa_cons (pv 3) (pa_cons (pe_op op_mod (pe_callTy Z.c_int (by rfl) T.z_int (by decide +kernel) (pa_cons (pv 2) pa_nil)) (pv 3)) pa_nil)) (by rfl)))))
  (pss_one (ps_ret (pe_tup (pa_cons (pe_op op_fdivW (pv 0) (pv 2)) (pa_cons (pe_op op_fdivW (pv 1) (pv 2)) pa_nil)))))))), ?_⟩
  walk_at "z"
  rw [abs_eq]
  have fin : ∀ (σ' : L2.St) (a : Nat) (b : Nat) (kv : Option V), 0 < a → a ≤ d.natAbs → σ' = [some (.int n), some (.int d), some (.int (a : Int)), some (.int (b : Int)), kv] → (tRet (tTup (tCons (tOp (rI CDivW fun i j => V.int (i / j)) (tVar 0) (tVar 2)) (tCons (tOp (rI CDivW fun i j => V.int (i / j)) (tVar 1) (tVar 2)) tNil)))
          { nx := fun x H' => Q V.non H', rt := Q }) σ' H := by
    rintro σ' a b kv ha hle rfl
    have ha60 : (a : Int).natAbs < 2 ^ 60 := by omega
    walk_at "z"
    refine z_I (wide_div (b := 60) (by omega) (by omega) (by decide) (by decide)) ?_
    walk_at "z"
    refine z_I (wide_div (b := 60) (by omega) (by omega) (by decide) (by decide)) ?_
    walk_at "z"
    intro p H' _ s h
    refine q (.ref p) (n / (a : Int), d / (a : Int)) H' s (dp_mkg h) ⟨Int.le_ediv_of_mul_le (show (0 : Int) < (a : Int) by omega) (show 1 * (a : Int) ≤ d by omega), ?_, ?_⟩
    · have := Int.natAbs_ediv_le_natAbs n (a : Int)
      show (n / (a : Int)).natAbs < _
      omega
    · have := Int.natAbs_ediv_le_natAbs d (a : Int)
      show (d / (a : Int)).natAbs < _
      omega
  refine z_forR1 200 (by decide) (fun R q => by walk_at "z"; exact q) (fun i σ' H' => H' = H ∧ ∃ (a b : Nat) (kv : Option V), σ' = [some (.int n), some (.int d), some (.int (a : Int)), some (.int (b : Int)), kv] ∧ b ≤ d.natAbs ∧ ((i = 0 ∧ b = d.natAbs) ∨ (0 < a ∧ a ≤ d.natAbs)))
    ⟨rfl, n.natAbs, d.natAbs, _, by rw [show ((d.natAbs : Nat) : Int) = d by omega]; rfl, Nat.le_refl _, .inl ⟨rfl, rfl⟩⟩ ?_ ?_
  · rintro i σ' H' hi ⟨rfl, a, b, kv, rfl, hb, ho⟩
    walk_at "z"
    refine z_if (fun c => ?_) (fun c => ?_)
    · walk_at "z1"
      rcases ho with ⟨_, e⟩ | ⟨e1, e2⟩
      · omega
      · exact fin _ a b _ e1 e2 rfl
    · walk_at "z"
      have hbp : 0 < b := by omega
      have := Nat.mod_lt a hbp
      refine ⟨rfl, b, a % b, some (.int (i : Int)), ?_, by omega, .inr ⟨hbp, hb⟩⟩
      rw [Int.natCast_emod]
      rfl
  · rintro σ' H' ⟨rfl, a, b, kv, rfl, hb, ho⟩
    rcases ho with ⟨e, _⟩ | ⟨e1, e2⟩
    · exact absurd e (by decide)
    · exact fin _ a b _ e1 e2 rfl
end
def sp__law_drawn_number (K : PySem.W.Frag) : Sp := fun vs H Q _ => ∃ (p : Addr) (m : Int) (H0 : Hp), vs = [.ref p, .int m] ∧ Sd H0 H p ∧ ∀ (v : V) (a : GP) (H' : Hp), Dp K H' v (gD a) → Nk a → Sd H0 H' p → Kp p H H' → Q v H'
def sp__law_drawn_point (K : PySem.W.Frag) : Sp := fun vs H Q _ => ∃ (p : Addr) (m : Int) (H0 : Hp), vs = [.ref p, .int m] ∧ Sd H0 H p ∧ ∀ (v : V) (a : NP) (H' : Hp), Dp K H' v (ptD a) → Pk a → Sd H0 H' p → Kp p H H' → Q v H'
theorem b60 {a : Int} {n : Nat} (h : a.natAbs ≤ n) (k : n < 2 ^ 60) : a.natAbs < 2 ^ 60 := Nat.lt_of_le_of_lt h k
section
theorem ok__law_drawn_number {P : Program} {w : World} {K : PySem.W.Frag} {mg : Str → Option Value} {base : Heap} {A : Nat → Addr} {D : Nat → FuncData} (T : Txt K mg A D) : FnOk P w K mg base (L2.CX P w) 2 (A 16) (D 16) ["stream", "mode"] (sp__law_drawn_number K) := by
  refine T.F__law_drawn_number.okX sc__law_drawn_number (fun vs H Q E h => ?_) (fun cdv A' outer s H vs Q E hr h => ?_)
  · obtain ⟨p, m, H0, rfl, _⟩ := h
    rfl
  obtain ⟨p, m, H0, rfl, S, q⟩ := h
  refine ⟨_, (pss_cons (ps_if (pt_cmpR op_eq (pv 1) pe_int (nomark _))
  (pss_one (ps_ret (pe_call (ok__law_ratio T) (hr.mono (by decide)) (by rfl) T.m__law_ratio T.F__law_ratio.kp T.b__law_ratio .nil (passes_call (takes_of rfl rfl rfl rfl) (fun _ _ _ _ h => h)) (pa_cons (pe_op op_sub (pe_call (ok__law_next T) (hr.mono (by decide)) (by rfl) T.m__law_next T.F__law_next.kp T.b__law_next .nil (passes_call (takes_of rfl rfl rfl rfl) (fun _ _ _ _ h => h)) (pa_cons (pv 0) (pa_cons pe_int pa_nil))) pe_int) (pa_cons pe_int pa_nil)))))
  pss_nil)
  (pss_cons (ps_if (pt_cmpR op_eq (pv 1) pe_int (nomark _))
  (pss_one (ps_ret (pe_tup (pa_cons (pe_op op_sub (pe_call (ok__law_next T) (hr.mono (by decide)) (by rfl) T.m__law_next T.F__law_next.kp T.b__law_next .nil (passes_call (takes_of rfl rfl rfl rfl) (fun _ _ _ _ h => h)) (pa_cons (pv 0) (pa_cons pe_int pa_nil))) pe_int) (pa_cons pe_int pa_nil)))))
  pss_nil)
  (pss_cons (ps_if (pt_cmpR op_eq (pv 1) pe_int (nomark _))
  (pss_one (ps_ret (pe_call (ok__law_ratio T) (hr.mono (by decide)) (by rfl) T.m__law_ratio T.F__law_ratio.kp T.b__law_ratio .nil (passes_call (takes_of rfl rfl rfl rfl) (fun _ _ _ _ h => h)) (pa_cons (pe_op op_sub (pe_call (ok__law_next T) (hr.mono (by decide)) (by rfl) T.m__law_next T.F__law_next.kp T.b__law_next .nil (passes_call (takes_of rfl rfl rfl rfl) (fun _ _ _ _ h => h)) (pa_cons (pv 0) (pa_cons pe_int pa_nil))) pe_int) (pa_cons (pe_ix ix_list (pe_lst (pa_cons pe_int (pa_cons pe_int (pa_cons pe_int (pa_cons pe_int (pa_cons pe_int pa_nil)))))) (pe_call (ok__law_next T) (hr.mono (by decide)) (by rfl) T.m__law_next T.F__law_next.kp T.b__law_next .nil (passes_call (takes_of rfl rfl rfl rfl) (fun _ _ _ _ h => h)) (pa_cons (pv 0) (pa_cons pe_int pa_nil))) (fun _ _ => rfl)) pa_nil)))))
  pss_nil)
  (pss_one (ps_ret (pe_call (ok__law_ratio T) (hr.mono (by decide)) (by rfl) T.m__law_ratio T.F__law_ratio.kp T.b__law_ratio .nil (passes_call (takes_of rfl rfl rfl rfl) (fun _ _ _ _ h => h)) (pa_cons (pe_op op_sub (pe_call (ok__law_next T) (hr.mono (by decide)) (by rfl) T.m__law_next T.F__law_next.kp T.b__law_next .nil (passes_call (takes_of rfl rfl rfl rfl) (fun _ _ _ _ h => h)) (pa_cons (pv 0) (pa_cons (pe_op op_mul pe_int (Z.pe_powc (v := 1000000000) ⟨by decide, by decide, by decide⟩ (by decide))) pa_nil))) (Z.pe_powc (v := 1000000000) ⟨by decide, by decide, by decide⟩ (by decide))) (pa_cons (pe_op op_add (pe_call (ok__law_next T) (hr.mono (by decide)) (by rfl) T.m__law_next T.F__law_next.kp T.b__law_next .nil (passes_call (takes_of rfl rfl rfl rfl) (fun _ _ _ _ h => h)) (pa_cons (pv 0) (pa_cons (Z.pe_powc (v := 1000000) ⟨by decide, by decide, by decide⟩ (by decide)) pa_nil))) pe_int) pa_nil)))))))), ?_⟩
  walk_at "z"
  refine z_if (fun _ => ?_) (fun _ => ?_)
  · walk_at "z"
    refine nx S (by decide) (lt1000 (by decide)) fun d H1 a0 a1 S1 e1 => ?_
    walk_at "z"
    refine ⟨_, 64, rfl, by decide, b60 (n := 3000) (by omega) (by decide), by decide, fun v a H2 s2 dv k => ?_⟩
    walk_at "z"
    exact q v a H2 dv k (S1.mono s2) ((kp_eq e1).trans' (kp_of s2))
  walk_at "z"
  refine z_if (fun _ => ?_) (fun _ => ?_)
  · walk_at "z"
    refine nx S (by decide) (lt1000 (by decide)) fun d H1 a0 a1 S1 e1 => ?_
    walk_at "z"
    intro p2 H2 f2 s2 h2
    exact q _ _ H2 (dp_mkg h2) ⟨show (0 : Int) < 1 by decide, b60 (n := 100) (show (d - 8).natAbs ≤ 100 by omega) (by decide), show (1 : Int).natAbs < 2 ^ 60 by decide⟩ (S1.mono s2) ((kp_eq e1).trans' (kp_of s2))
  walk_at "z"
  refine z_if (fun _ => ?_) (fun _ => ?_)
  · walk_at "z"
    refine nx S (by decide) (lt1000 (by decide)) fun d H1 a0 a1 S1 e1 => ?_
    walk_at "z"
    intro p2 H2 f2 s2 h2
    have S2 := S1.mono s2
    walk_at "z"
    refine nx S2 (by decide) (lt1000 (by decide)) fun i H3 b0 b1 S3 e3 => ?_
    have h3 : H3 p2 = _ := (e3 p2 (nep' f2 S1)).trans h2
    have hi : i = 0 ∨ i = 1 ∨ i = 2 ∨ i = 3 ∨ i = 4 := by omega
    obtain ⟨dd, hdd, h1, h128⟩ : ∃ dd : Int, atI [V.int 1, .int 3, .int 7, .int 10, .int 128] i = some (.int dd) ∧ 1 ≤ dd ∧ dd ≤ 128 := by
      rcases hi with rfl | rfl | rfl | rfl | rfl
      · exact ⟨1, rfl, by decide, by decide⟩
      · exact ⟨3, rfl, by decide, by decide⟩
      · exact ⟨7, rfl, by decide, by decide⟩
      · exact ⟨10, rfl, by decide, by decide⟩
      · exact ⟨128, rfl, by decide, by decide⟩
    refine z_ixL (.inl (.inl h3)) hdd ?_
    walk_at "z"
    refine ⟨_, dd, rfl, by omega, b60 (n := 5000) (by omega) (by decide), b60 (n := 128) (by omega) (by decide), fun v a H4 s4 dv k => ?_⟩
    walk_at "z"
    exact q v a H4 dv k (S3.mono s4) ((((kp_eq e1).trans' (kp_of s2)).trans' (kp_eq e3)).trans' (kp_of s4))
  walk_at "z"
  refine nx S (by decide) (lt1000 (by decide)) fun d H1 a0 a1 S1 e1 => ?_
  walk_at "z"
  refine nx S1 (by decide) (lt1000 (by decide)) fun i H3 b0 b1 S3 e3 => ?_
  walk_at "z"
  refine ⟨_, _, rfl, by omega, b60 (n := 2000000000) (by omega) (by decide), b60 (n := 1000000) (by omega) (by decide), fun v a H4 s4 dv k => ?_⟩
  walk_at "z"
  exact q v a H4 dv k (S3.mono s4) (((kp_eq e1).trans' (kp_eq e3)).trans' (kp_of s4))
theorem ok__law_drawn_point {P : Program} {w : World} {K : PySem.W.Frag} {mg : Str → Option Value} {base : Heap} {A : Nat → Addr} {D : Nat → FuncData} (T : Txt K mg A D) : FnOk P w K mg base (L2.CX P w) 3 (A 17) (D 17) ["stream", "mode"] (sp__law_drawn_point K) := by
  refine T.F__law_drawn_point.okX sc__law_drawn_point (fun vs H Q E h => ?_) (fun cdv A' outer s H vs Q E hr h => ?_)
  · obtain ⟨p, m, H0, rfl, _⟩ := h
    rfl
  obtain ⟨p, m, H0, rfl, S, q⟩ := h
  refine ⟨_, (pss_cons (ps_set (i := 2) sc__law_drawn_point.nd rfl (.inl rfl) (pe_call (ok__law_drawn_number T) (hr.mono (by decide)) (by rfl) T.m__law_drawn_number T.F__law_drawn_number.kp T.b__law_drawn_number .nil (passes_call (takes_of rfl rfl rfl rfl) (fun _ _ _ _ h => h)) (pa_cons (pv 0) (pa_cons (pv 1) pa_nil))))
  (pss_one (ps_ret (pe_tup (pa_cons (pv 2) (pa_cons (pe_call (ok__law_drawn_number T) (hr.mono (by decide)) (by rfl) T.m__law_drawn_number T.F__law_drawn_number.kp T.b__law_drawn_number .nil (passes_call (takes_of rfl rfl rfl rfl) (fun _ _ _ _ h => h)) (pa_cons (pv 0) (pa_cons (pv 1) pa_nil))) pa_nil)))))), ?_⟩
  walk_at "z"
  refine ⟨p, m, H0, rfl, S, fun v a H1 d1 k1 S1 kp1 => ?_⟩
  walk_at "z"
  refine ⟨p, m, H0, rfl, S1, fun w b H2 d2 k2 S2 kp2 => ?_⟩
  have d1' := kp_sd S1 kp2 rfl d1
  walk_at "z"
  intro p3 H3 f3 s3 h3
  exact q _ (a, b) H3 (dp_mk h3 (.cons (dp_mono s3 d1') (.cons (dp_mono s3 d2) .nil))) ⟨k1, k2⟩ (S2.mono s3) ((kp1.trans' kp2).trans' (kp_of s3))
end
theorem ixN_lt {n k : Nat} (h : k < n) : ixN n (k : Int) = some k := by
  unfold ixN
  rw [if_pos (by omega), if_pos (by omega)]
  rfl
theorem Sd.upd2 {H0 H : Hp} {p q : Addr} {o : HO} (S : Sd H0 H p) (h0 : H0 q = none) (hq : q ≠ p) : Sd H0 (upd H q o) p := by
  obtain ⟨a, b, m, e⟩ := S.stm
  refine ⟨fun c x hc => ?_, S.fresh, a, b, m, by rw [upd_ne (Ne.symm hq)]; exact e⟩
  rw [upd_ne (ne_of_none hc h0)]
  exact S.same c x hc
theorem dpa_sd {K : PySem.W.Frag} {H0 H H' : Hp} {p : Addr} {vs : List V} {ds : List PyData} (S : Sd H0 H p) (k : Kp p H H') (t : tupOnlyA ds = true) (h : DpAll K H vs ds) : DpAll K H' vs ds := by
  obtain ⟨a, b, m, e⟩ := S.stm
  exact dp_kpA k e t h
theorem kp_at {H : Hp} {D : Addr} {o : HO} : Kp D H (upd H D o) := fun b x hb e => by
  rw [upd_ne hb]
  exact e
def sp__law_drawn_path (K : PySem.W.Frag) : Sp := fun vs H Q _ => ∃ (p : Addr) (H0 : Hp), vs = [.ref p] ∧ Sd H0 H p ∧ ∀ (v : V) (ks ss : List V) (cyc : Bool) (pts : List NP) (sgs : List (Option (NP × NP))) (H' : Hp), Pth K H' v ks ss cyc pts sgs → Sd H0 H' p → Q v H'
section
theorem ok__law_drawn_path {P : Program} {w : World} {K : PySem.W.Frag} {mg : Str → Option Value} {base : Heap} {A : Nat → Addr} {D : Nat → FuncData} (T : Txt K mg A D) : FnOk P w K mg base (L2.CX P w) 4 (A 18) (D 18) ["stream"] (sp__law_drawn_path K) := by
  refine T.F__law_drawn_path.okX sc__law_drawn_path (fun vs H Q E h => ?_) (fun cdv A' outer s H vs Q E hr h => ?_)
  · obtain ⟨p, H0, rfl, _⟩ := h
    rfl
  obtain ⟨p, H0, rfl, S, q⟩ := h
  refine ⟨_, (pss_cons (ps_set (i := 1) sc__law_drawn_path.nd rfl (.inl rfl) (pe_call (ok__law_next T) (hr.mono (by decide)) (by rfl) T.m__law_next T.F__law_next.kp T.b__law_next .nil (passes_call (takes_of rfl rfl rfl rfl) (fun _ _ _ _ h => h)) (pa_cons (pv 0) (pa_cons pe_int pa_nil))))
  (pss_cons (ps_set (i := 2) sc__law_drawn_path.nd rfl (.inl rfl) (pe_op op_add (pe_call (ok__law_next T) (hr.mono (by decide)) (by rfl) T.m__law_next T.F__law_next.kp T.b__law_next .nil (passes_call (takes_of rfl rfl rfl rfl) (fun _ _ _ _ h => h)) (pa_cons (pv 0) (pa_cons pe_int pa_nil))) pe_int))
  (Evl.pss_cut (ps_if (pt_cmpR op_eq (pe_call (ok__law_next T) (hr.mono (by decide)) (by rfl) T.m__law_next T.F__law_next.kp T.b__law_next .nil (passes_call (takes_of rfl rfl rfl rfl) (fun _ _ _ _ h => h)) (pa_cons (pv 0) (pa_cons pe_int pa_nil))) pe_int (nomark _))
  (pss_one (ps_set (i := 2) sc__law_drawn_path.nd rfl (.inl rfl) (pe_op op_add (pe_call (ok__law_next T) (hr.mono (by decide)) (by rfl) T.m__law_next T.F__law_next.kp T.b__law_next .nil (passes_call (takes_of rfl rfl rfl rfl) (fun _ _ _ _ h => h)) (pa_cons (pv 0) (pa_cons pe_int pa_nil))) pe_int)))
  pss_nil)
  (pss_cons (ps_set (i := 3) sc__law_drawn_path.nd rfl (.inl rfl) (pe_cmpR op_eq (pe_call (ok__law_next T) (hr.mono (by decide)) (by rfl) T.m__law_next T.F__law_next.kp T.b__law_next .nil (passes_call (takes_of rfl rfl rfl rfl) (fun _ _ _ _ h => h)) (pa_cons (pv 0) (pa_cons pe_int pa_nil))) pe_int (nomark _)))
  (pss_cons (ps_set (i := 4) sc__law_drawn_path.nd rfl (.inl rfl) (pe_lst pa_nil))
  (pss_cons (ps_for (passes_of rfl) rfl (pi_range1 (by rfl) T.z_range (pa_cons (pv 2) pa_nil)) (pg_name (i := 5) sc__law_drawn_path.nd rfl (.inl rfl))
  (pss_cons (ps_expr (pe_bm PySem.F.plainAttrs_list PySem.F.slot_list_append PySem.F.type_list_append mt_append (pv 4) (pa_cons (pe_call (ok__law_drawn_point T) (hr.mono (by decide)) (by rfl) T.m__law_drawn_point T.F__law_drawn_point.kp T.b__law_drawn_point .nil (passes_call (takes_of rfl rfl rfl rfl) (fun _ _ _ _ h => h)) (pa_cons (pv 0) (pa_cons (pv 1) pa_nil))) pa_nil)))
  (pss_one (ps_if (PW.pt (pw_and (pt_cmpR op_gt (pv 5) pe_int (nomark _)) (pw_and1 (pt_cmpR op_eq (pe_call (ok__law_next T) (hr.mono (by decide)) (by rfl) T.m__law_next T.F__law_next.kp T.b__law_next .nil (passes_call (takes_of rfl rfl rfl rfl) (fun _ _ _ _ h => h)) (pa_cons (pv 0) (pa_cons pe_int pa_nil))) pe_int (nomark _)))))
  (pss_one (ps_asg (pe_ix ix_list (pv 4) (pe_call (ok__law_next T) (hr.mono (by decide)) (by rfl) T.m__law_next T.F__law_next.kp T.b__law_next .nil (passes_call (takes_of rfl rfl rfl rfl) (fun _ _ _ _ h => h)) (pa_cons (pv 0) (pa_cons (pv 5) pa_nil))) (fun _ _ => rfl)) (pg_sub (pv 4) (pv 5) set_list)))
  pss_nil))))
  (pss_cons (ps_set (i := 6) sc__law_drawn_path.nd rfl (.inl rfl) (pe_lst pa_nil))
  (pss_cons (ps_for (passes_of rfl) rfl (pi_range1 (by rfl) T.z_range (pa_cons (pe_op op_add (pe_op op_sub (pv 2) pe_int) (pe_callTy Z.c_int (by rfl) T.z_int (by decide +kernel) (pa_cons (pv 3) pa_nil))) pa_nil)) (pg_name (i := 5) sc__law_drawn_path.nd rfl (.inl rfl))
  (pss_one (ps_if (pt_cmpR op_eq (pe_call (ok__law_next T) (hr.mono (by decide)) (by rfl) T.m__law_next T.F__law_next.kp T.b__law_next .nil (passes_call (takes_of rfl rfl rfl rfl) (fun _ _ _ _ h => h)) (pa_cons (pv 0) (pa_cons pe_int pa_nil))) pe_int (nomark _))
  (pss_one (ps_expr (pe_bm PySem.F.plainAttrs_list PySem.F.slot_list_append PySem.F.type_list_append mt_append (pv 6) (pa_cons pe_non pa_nil))))
  (pss_cons (ps_set (i := 7) sc__law_drawn_path.nd rfl (.inl rfl) (pe_call (ok__law_drawn_point T) (hr.mono (by decide)) (by rfl) T.m__law_drawn_point T.F__law_drawn_point.kp T.b__law_drawn_point .nil (passes_call (takes_of rfl rfl rfl rfl) (fun _ _ _ _ h => h)) (pa_cons (pv 0) (pa_cons (pv 1) pa_nil))))
  (pss_one (ps_expr (pe_bm PySem.F.plainAttrs_list PySem.F.slot_list_append PySem.F.type_list_append mt_append (pv 6) (pa_cons (pe_tup (pa_cons (pv 7) (pa_cons (pe_call (ok__law_drawn_point T) (hr.mono (by decide)) (by rfl) T.m__law_drawn_point T.F__law_drawn_point.kp T.b__law_drawn_point .nil (passes_call (takes_of rfl rfl rfl rfl) (fun _ _ _ _ h => h)) (pa_cons (pv 0) (pa_cons (pv 1) pa_nil))) pa_nil))) pa_nil))))))))
  (pss_one (ps_ret (pe_tup (pa_cons (pe_callTy Z.c_tupOf (by rfl) T.z_tuple (by decide +kernel) (pa_cons (pv 4) pa_nil)) (pa_cons (pe_callTy Z.c_tupOf (by rfl) T.z_tuple (by decide +kernel) (pa_cons (pv 6) pa_nil)) (pa_cons (pv 3) pa_nil)))))))))))))), ?_⟩
  walk_at "z"
  refine nx S (by decide) (lt1000 (by decide)) fun mo H1 _ _ S1 e1 => ?_
  walk_at "z"
  refine nx S1 (by decide) (lt1000 (by decide)) fun c H2 c0 c1 S2 e2 => ?_
  walk_at "z"
  refine z_cut (fun σ' H' => ∃ n : Nat, σ' = [some (.ref p), some (.int mo), some (.int (n : Int)), none, none, none, none, none] ∧ 1 ≤ n ∧ n ≤ 24 ∧ Sd H0 H' p) ?_ ?_
  · walk_at "z"
    refine nx S2 (by decide) (lt1000 (by decide)) fun d H3 _ _ S3 e3 => ?_
    walk_at "z"
    refine z_if (fun _ => ?_) (fun _ => ?_)
    · walk_at "z"
      refine nx S3 (by decide) (lt1000 (by decide)) fun d' H4 _ _ S4 e4 => ?_
      walk_at "z"
      exact ⟨(d' + 1).toNat, by rw [show (((d' + 1).toNat : Nat) : Int) = d' + 1 by omega]; rfl, by omega, by omega, S4⟩
    · walk_at "z"
      exact ⟨(c + 1).toNat, by rw [show (((c + 1).toNat : Nat) : Int) = c + 1 by omega]; rfl, by omega, by omega, S3⟩
  clear S2 S1 e2 e1 c0 c1 S
  rintro σ' H2 ⟨n, rfl, n1, n24, S2⟩
  walk_at "z"
  refine nx S2 (by decide) (lt1000 (by decide)) fun i H3 _ _ S3 e3 => ?_
  walk_at "z"
  generalize decide (i = 0) = cyc
  intro D H4 hD s4 h4
  have S4 := S3.mono s4
  have hD0 := S3.same.free hD
  have hDp := S3.ne0 hD
  clear S3 e3 S2 hD
  walk_at "z"
  refine z_forR1 n (by omega) (fun R q => by walk_at "z"; exact q) (fun i σ' H' => Sd H0 H' p ∧ ∃ ws pts u1, H' D = some (.lst ws) ∧ DpAll K H' ws (pts.map ptD) ∧ pts.length = i ∧ (∀ a ∈ pts, Pk a) ∧ σ' = [some (.ref p), some (.int mo), some (.int (n : Int)), some (.bl cyc), some (.ref D), u1, none, none])
    ⟨S4, [], [], _, h4, .nil, rfl, fun _ h => absurd h List.not_mem_nil, rfl⟩ ?_ ?_
  · clear h4 S4 s4
    rintro i σ' H5 hi ⟨S5, ws, pts, u1, h5, d5, l5, k5, rfl⟩
    walk_at "z"
    refine z_bmL (fun R q => by walk_at "z"; exact q) h5 ?_
    walk_at "z"
    refine ⟨p, mo, H0, rfl, S5, fun v a H6 da ka S6 k6 => ?_⟩
    have h6 := k6 _ _ hDp h5
    have d6 := dpa_sd S5 k6 (tup_pts _) d5
    have lw : ws.length = i := by
      have := dpa_len d5
      rw [List.length_map] at this
      omega
    walk_at "z"
    refine z_append h6 (by omega) ?_
    walk_at "z"
    have S7 : Sd H0 (upd H6 D (.lst (ws ++ [v]))) p := S6.upd2 hD0 hDp
    have h7 : upd H6 D (.lst (ws ++ [v])) D = some (.lst (ws ++ [v])) := upd_same
    have d7 : DpAll K (upd H6 D (.lst (ws ++ [v]))) (ws ++ [v]) ((pts ++ [a]).map ptD) := by
      rw [List.map_append]
      exact dpa_app (dpa_kp kp_at h6 (tup_pts _) d6) (.cons (dp_kp kp_at h6 rfl da) .nil)
    have k7 : ∀ x ∈ pts ++ [a], Pk x := fun x hx => by
      rcases List.mem_append.mp hx with hx | hx
      · exact k5 x hx
      · rw [List.mem_singleton.mp hx]
        exact ka
    have l7 : (pts ++ [a]).length = i + 1 := by rw [List.length_append, l5]; rfl
    have lw7 : (ws ++ [v]).length = i + 1 := by rw [List.length_append, lw]; rfl
    generalize upd H6 D (.lst (ws ++ [v])) = H7 at *
    generalize ws ++ [v] = ws7 at *
    generalize pts ++ [a] = pts7 at *
    clear h6 d6 h5 d5 l5 k5 S5 S6 k6 da ka lw
    refine z_if (fun c => ?_) (fun c => ?_)
    · walk_at "z"
      refine nx S7 (by decide) (lt1000 (by decide)) fun d H8 _ _ S8 e8 => ?_
      have h8 : H8 D = some (.lst ws7) := (e8 D hDp).trans h7
      have d8 := dpa_sd S7 (kp_eq e8) (tup_pts _) d7
      walk_at "z"
      refine z_if (fun c => ?_) (fun c => ?_)
      · walk_at "z"
        refine nx S8 (by omega) (lt1000 (Nat.lt_of_le_of_lt (show ((i : Int)).natAbs ≤ 24 by omega) (by decide))) fun j H9 j0 j1 S9 e9 => ?_
        have h9 : H9 D = some (.lst ws7) := (e9 D hDp).trans h8
        have d9 := dpa_sd S8 (kp_eq e9) (tup_pts _) d8
        obtain ⟨j, rfl⟩ : ∃ m : Nat, j = (m : Int) := ⟨j.toNat, by omega⟩
        obtain ⟨a, ha⟩ : ∃ z, pts7[j]? = some z := ⟨_, List.getElem?_eq_getElem (show j < pts7.length by omega)⟩
        obtain ⟨w, hw, dw⟩ := dpa_get d9 (show (pts7.map ptD)[j]? = some (ptD a) by rw [List.getElem?_map, ha]; rfl)
        refine z_ixL (.inl (.inl h9)) (atI_nat hw) ?_
        walk_at "z"
        refine z_setL h9 (k := i) (by rw [lw7]; exact ixN_lt (Nat.lt_succ_self i)) ?_
        walk_at "z"
        refine ⟨S9.upd2 hD0 hDp, ws7.set i w, pts7.set i a, _, upd_same, ?_, by rw [List.length_set, l7], fun x hx => ?_, rfl⟩
        · rw [List.map_set]
          exact dpa_set (dpa_kp kp_at h9 (tup_pts _) d9) (dp_kp kp_at h9 rfl dw)
        · rcases List.mem_or_eq_of_mem_set hx with hx | rfl
          · exact k7 x hx
          · exact k7 _ (List.mem_of_getElem? ha)
      · walk_at "z"
        exact ⟨S8, ws7, pts7, _, h8, d8, l7, k7, rfl⟩
    · walk_at "z"
      exact ⟨S7, ws7, pts7, _, h7, d7, l7, k7, rfl⟩
  clear h4 S4 s4
  rintro σ' H5 ⟨S5, ks, pts, u1, h5, d5, l5, k5, rfl⟩
  walk_at "z"
  intro G H6 hG s6 h6
  have S6 := S5.mono s6
  have hk6 := s6 _ _ h5
  have dk6 := dp_monoA s6 d5
  have hG0 := S5.same.free hG
  have hGp := S5.ne0 hG
  have hDG : D ≠ G := ne_of_none h5 hG
  walk_at "z"
  obtain ⟨m, hm⟩ : ∃ m : Nat, m + 1 = n + (if cyc = true then 1 else 0) := ⟨n - 1 + (if cyc = true then 1 else 0), by omega⟩
  have hm24 : m ≤ 24 := by split at hm <;> omega
  clear h5 d5 S5 s6 hG
  refine z_forR1 m (by omega) (fun R q => by
    walk_at "z"
    rw [show (n : Int) - 1 + (if cyc = true then (1 : Int) else 0) = (m : Int) by cases cyc <;> simp at hm ⊢ <;> omega]
    exact q) (fun i σ' H' => Sd H0 H' p ∧ H' D = some (.lst ks) ∧ DpAll K H' ks (pts.map ptD) ∧ ∃ (ws : List V) (sgs : List (Option (NP × NP))) (kv fv : Option V), H' G = some (.lst ws) ∧ DpAll K H' ws (sgs.map sD) ∧ sgs.length = i ∧ (∀ s ∈ sgs, Sk s) ∧
      σ' = [some (.ref p), some (.int mo), some (.int (n : Int)), some (.bl cyc), some (.ref D), kv, some (.ref G), fv])
    ⟨S6, hk6, dk6, [], [], _, _, h6, .nil, rfl, fun _ h => absurd h List.not_mem_nil, rfl⟩ ?_ ?_
  · clear S6 hk6 dk6 h6
    rintro i σ' H7 hi ⟨S7, hk7, dk7, ws, sgs, kv, fv, h7, d7, l7, k7, rfl⟩
    have lw : ws.length = i := by
      have := dpa_len d7
      rw [List.length_map] at this
      omega
    walk_at "z"
    refine nx S7 (by decide) (lt1000 (by decide)) fun z H8 _ _ S8 e8 => ?_
    have k8 : Kp p H7 H8 := kp_eq e8
    have h8 := k8 _ _ hGp h7
    have hk8 := k8 _ _ hDp hk7
    have d8 := dpa_sd S7 k8 (tup_sgs _) d7
    have dk8 := dpa_sd S7 k8 (tup_pts _) dk7
    clear h7 hk7 d7 dk7 S7 e8 k8
    walk_at "z"
    refine z_if (fun cc => ?_) (fun cc => ?_)
    · walk_at "z"
      refine z_bmL (fun R q => by walk_at "z"; exact q) h8 ?_
      walk_at "z"
      refine z_append h8 (by omega) ?_
      walk_at "z"
      refine ⟨S8.upd2 hG0 hGp, by rw [upd_ne hDG]; exact hk8, dpa_kp kp_at h8 (tup_pts _) dk8, ws ++ [.non], sgs ++ [none], _, _, upd_same, ?_, by rw [List.length_append, l7]; rfl, fun s hs => ?_, rfl⟩
      · rw [List.map_append]
        exact dpa_app (dpa_kp kp_at h8 (tup_sgs _) d8) (.cons .non .nil)
      · rcases List.mem_append.mp hs with hs | hs
        · exact k7 s hs
        · rw [List.mem_singleton.mp hs]
          trivial
    · walk_at "z"
      refine ⟨p, mo, H0, rfl, S8, fun v1 a1 H9 da1 ka1 S9 k9 => ?_⟩
      have h9 := k9 _ _ hGp h8
      have hk9 := k9 _ _ hDp hk8
      have d9 := dpa_sd S8 k9 (tup_sgs _) d8
      have dk9 := dpa_sd S8 k9 (tup_pts _) dk8
      walk_at "z"
      refine z_bmL (fun R q => by walk_at "z"; exact q) h9 ?_
      walk_at "z"
      refine ⟨p, mo, H0, rfl, S9, fun v2 a2 H10 da2 ka2 S10 k10 => ?_⟩
      have h10 := k10 _ _ hGp h9
      have hk10 := k10 _ _ hDp hk9
      have d10 := dpa_sd S9 k10 (tup_sgs _) d9
      have dk10 := dpa_sd S9 k10 (tup_pts _) dk9
      have da10 := kp_sd S9 k10 rfl da1
      walk_at "z"
      intro pt H11 f11 s11 h11
      have hG11 := s11 _ _ h10
      walk_at "z"
      refine z_append hG11 (by omega) ?_
      walk_at "z"
      have dt : Dp K H11 (.ref pt) (sD (some (a1, a2))) := dp_mk h11 (.cons (dp_mono s11 da10) (.cons (dp_mono s11 da2) .nil))
      refine ⟨(S10.mono s11).upd2 hG0 hGp, by rw [upd_ne hDG]; exact s11 _ _ hk10, dpa_kp kp_at hG11 (tup_pts _) (dp_monoA s11 dk10), ws ++ [.ref pt], sgs ++ [some (a1, a2)], _, _, upd_same, ?_, by rw [List.length_append, l7]; rfl, fun s hs => ?_, rfl⟩
      · rw [List.map_append]
        exact dpa_app (dpa_kp kp_at hG11 (tup_sgs _) (dp_monoA s11 d10)) (.cons (dp_kp kp_at hG11 rfl dt) .nil)
      · rcases List.mem_append.mp hs with hs | hs
        · exact k7 s hs
        · rw [List.mem_singleton.mp hs]
          exact ⟨ka1, ka2⟩
  clear S6 hk6 dk6 h6
  rintro σ' H7 ⟨S7, hk7, dk7, ss, sgs, kv, fv, h7, d7, l7, k7, rfl⟩
  walk_at "z"
  refine z_tupOf (.inl (.inl hk7)) fun pk H8 _ s8 h8 => ?_
  have h7' := s8 _ _ h7
  walk_at "z"
  refine z_tupOf (.inl (.inl h7')) fun ps H9 _ s9 h9 => ?_
  walk_at "z"
  intro pp H10 _ s10 h10
  have z10 := (s8.trans s9).trans s10
  exact q _ ks ss cyc pts sgs H10 ⟨⟨pp, pk, ps, rfl, .inl (.inl h10), .inl (.inl ((s9.trans s10) _ _ h8)), .inl (.inl (s10 _ _ h9))⟩, dp_monoA z10 dk7, dp_monoA z10 d7, by omega, by split at hm <;> omega, by omega, k5, k7⟩ (S7.mono z10)
end
def sp__law_grid (K : PySem.W.Frag) : Sp := fun vs H Q _ => ∃ (v : V) (a : NP), vs = [v] ∧ Dp K H v (ptD a) ∧ Pk a ∧ ∀ v' H', Same H H' → Dp K H' v' (gD (gp a)) → Q v' H'
theorem near_eq (n d : Int) : (128 * n + d) / (2 * d) = near (64 * n) d := by
  unfold near
  rw [show 128 * n + d = 2 * (64 * n) + d by omega]
section
theorem ok__law_grid {P : Program} {w : World} {K : PySem.W.Frag} {mg : Str → Option Value} {base : Heap} {A : Nat → Addr} {D : Nat → FuncData} (T : Txt K mg A D) : FnOk P w K mg base (L2.CX P w) 1 (A 23) (D 23) ["point"] (sp__law_grid K) := by
  refine T.F__law_grid.okX sc__law_grid (fun vs H Q E h => ?_) (fun cdv A' outer s H vs Q E hr h => ?_)
  · obtain ⟨_, _, rfl, _⟩ := h
    rfl
  obtain ⟨_, a, rfl, da, k, q⟩ := h
  obtain ⟨p, v1, v2, rfl, hp, d1, d2⟩ := dp_t2 da
  obtain ⟨p1, rfl, h1⟩ := dp_g d1
  obtain ⟨p2, rfl, h2⟩ := dp_g d2
  have b1 := k.1.2.1
  have b2 := k.1.2.2
  have b3 := k.2.2.1
  have b4 := k.2.2.2
  have c1 := k.1.1
  have c2 := k.2.1
  refine ⟨_, (pss_cons (ps_asg (pv 0) (pg_tup (by rfl) (pgs_cons (pg_name (i := 1) sc__law_grid.nd rfl (.inl rfl)) (pgs_cons (pg_name (i := 2) sc__law_grid.nd rfl (.inl rfl)) pgs_nil))))
  (pss_one (ps_ret (pe_tup (pa_cons (pe_op op_fdivW (pe_op op_add (pe_op op_mul pe_int (pe_ix ix_tup (pv 1) pe_int (fun _ _ => rfl))) (pe_ix ix_tup (pv 1) pe_int (fun _ _ => rfl))) (pe_op op_mul pe_int (pe_ix ix_tup (pv 1) pe_int (fun _ _ => rfl)))) (pa_cons (pe_op op_fdivW (pe_op op_add (pe_op op_mul pe_int (pe_ix ix_tup (pv 2) pe_int (fun _ _ => rfl))) (pe_ix ix_tup (pv 2) pe_int (fun _ _ => rfl))) (pe_op op_mul pe_int (pe_ix ix_tup (pv 2) pe_int (fun _ _ => rfl)))) pa_nil)))))), ?_⟩
  walk_at "z"
  refine z_I (wide_div (b := 70) (by omega) (by omega) (by decide) (by decide)) ?_
  walk_at "z"
  refine z_I (wide_div (b := 70) (by omega) (by omega) (by decide) (by decide)) ?_
  walk_at "z"
  rw [near_eq, near_eq]
  intro p9 H9 _ s9 h9
  exact q _ H9 s9 (dp_mkg h9)
end
theorem gridl {K : PySem.W.Frag} {H : Hp} {v : V} {a : NP} {Q : VK} {E : XK} (h : Dp K H v (ptD a)) (k : Pk a) (q : ∀ v' H', Same H H' → Dp K H' v' (gD (gp a)) → Q v' H') : sp__law_grid K [v] H Q E := ⟨v, a, rfl, h, k, q⟩
theorem shaped_pts : ∀ pts : List NP, PyData.canLayAll0 (pts.map ptD) = true ∧ PyData.depthAll (pts.map ptD) ≤ 2
  | [] => ⟨rfl, Nat.zero_le _⟩
  | a :: r => by
    obtain ⟨h1, h2⟩ := shaped_pts r
    refine ⟨?_, ?_⟩
    · show (PyData.canLay0 (ptD a) && PyData.canLayAll0 (r.map ptD)) = true
      rw [h1]
      rfl
    · show max (PyData.depth (ptD a)) (PyData.depthAll (r.map ptD)) ≤ 2
      have e : PyData.depth (ptD a) = 2 := rfl
      omega
theorem shaped_sgs : ∀ sgs : List (Option (NP × NP)), PyData.canLayAll0 (sgs.map sD) = true ∧ PyData.depthAll (sgs.map sD) ≤ 3
  | [] => ⟨rfl, Nat.zero_le _⟩
  | a :: r => by
    obtain ⟨h1, h2⟩ := shaped_sgs r
    have h3 : PyData.canLay0 (sD a) = true ∧ PyData.depth (sD a) ≤ 3 := by
      match a with
      | none => exact ⟨rfl, by decide⟩
      | some (c, d) => exact ⟨rfl, Nat.le_of_ble_eq_true rfl⟩
    refine ⟨?_, ?_⟩
    · show (PyData.canLay0 (sD a) && PyData.canLayAll0 (r.map sD)) = true
      rw [h1, h3.1]
      rfl
    · show max (PyData.depth (sD a)) (PyData.depthAll (r.map sD)) ≤ 3
      have := h3.2
      omega
def pathD (pts : List NP) (sgs : List (Option (NP × NP))) (cyc : Bool) : PyData := .tuple [.tuple (pts.map ptD), .tuple (sgs.map sD), .bool cyc]
theorem shaped_path (pts : List NP) (sgs : List (Option (NP × NP))) (cyc : Bool) : SeqAt.shaped (pathD pts sgs cyc) = true := by
  obtain ⟨h1, h2⟩ := shaped_pts pts
  obtain ⟨h3, h4⟩ := shaped_sgs sgs
  unfold SeqAt.shaped
  rw [Bool.and_eq_true]
  refine ⟨?_, decide_eq_true ?_⟩
  · show (PyData.canLayAll0 (pts.map ptD) && (PyData.canLayAll0 (sgs.map sD) && (true && true))) = true
    rw [h1, h3]
    rfl
  · show max (PyData.depthAll (pts.map ptD) + 1) (max (PyData.depthAll (sgs.map sD) + 1) (max 0 0)) + 1 ≤ 64
    omega
theorem Pth.data {K : PySem.W.Frag} {H : Hp} {v : V} {ks ss : List V} {cyc : Bool} {pts : List NP} {sgs : List (Option (NP × NP))} (P : Pth K H v ks ss cyc pts sgs) : Dp K H v (pathD pts sgs cyc) := by
  obtain ⟨a, k, g, rfl, h1, h2, h3⟩ := P.at_
  exact .tup h1 (.cons (.tup h2 P.dk) (.cons (.tup h3 P.ds) (.cons (.bl _) .nil)))
def sp_law (K : PySem.W.Frag) : Sp := fun vs H Q _ => ∃ (a : Addr) (ns : List Int), vs = [.ref a] ∧ SqL K H a (ns.map V.int) ∧ ns.length ≤ 63 ∧ ∀ H', Q (.bl true) H'
section
theorem ok_law {P : Program} {w : World} {K : PySem.W.Frag} {mg : Str → Option Value} {base : Heap} {A : Nat → Addr} {D : Nat → FuncData} (T : Txt K mg A D) : FnOk P w K mg base CX0 12 (A 24) (D 24) ["script"] (sp_law K) := by
  refine T.F_law.ok sc_law (fun vs H Q E h => ?_) (fun cdv A' outer s H vs Q E hr h => ?_)
  · obtain ⟨l, ns, rfl, _⟩ := h
    rfl
  obtain ⟨l, ns, rfl, hS, _, q⟩ := h
  refine ⟨_, (pss_cons (ps_set (i := 1) sc_law.nd rfl (.inl rfl) (pe_call (ok__law_drawn_path T) (hr.mono (by decide)) (by rfl) T.m__law_drawn_path T.F__law_drawn_path.kp T.b__law_drawn_path .nil passL (pa_cons (pe_call (ok__law_stream T) (hr.mono (by decide)) (by rfl) T.m__law_stream T.F__law_stream.kp T.b__law_stream .nil passL (pa_cons (pe_call (ok__law_cell T) (hr.mono (by decide)) (by rfl) T.m__law_cell T.F__law_cell.kp T.b__law_cell .nil passL (pa_cons (pv 0) (pa_cons pe_int pa_nil))) pa_nil)) pa_nil)))
  (pss_cons (ps_asg (pv 1) (pg_tup (by rfl) (pgs_cons (pg_name (i := 2) sc_law.nd rfl (.inl rfl)) (pgs_cons (pg_name (i := 3) sc_law.nd rfl (.inl rfl)) (pgs_cons (pg_name (i := 4) sc_law.nd rfl (.inl rfl)) pgs_nil)))))
  (pss_cons (ps_set (i := 5) sc_law.nd rfl (.inl rfl) (pe_lst (pa_cons (pe_call (ok__law_grid T) (hr.mono (by decide)) (by rfl) T.m__law_grid T.F__law_grid.kp T.b__law_grid .nil passL (pa_cons (pe_ix ix_tup (pv 2) pe_int (fun _ _ => rfl)) pa_nil)) pa_nil)))
  (pss_cons (ps_for PassesOwn.never rfl (pi_range1 (by rfl) T.z_range (pa_cons (pe_callB Z.c_len (by rfl) T.z_len (by decide +kernel) (pa_cons (pv 3) pa_nil)) pa_nil)) (pg_name (i := 6) sc_law.nd rfl (.inl rfl))
  (pss_cons (ps_set (i := 7) sc_law.nd rfl (.inl rfl) (pe_call (ok__law_grid T) (hr.mono (by decide)) (by rfl) T.m__law_grid T.F__law_grid.kp T.b__law_grid .nil passL (pa_cons (pe_ix ix_tup (pv 2) (pv 6) (fun _ _ => rfl)) pa_nil)))
  (pss_cons (ps_set (i := 8) sc_law.nd rfl (.inl rfl) (pe_call (ok__law_grid T) (hr.mono (by decide)) (by rfl) T.m__law_grid T.F__law_grid.kp T.b__law_grid .nil passL (pa_cons (pe_ix ix_tup (pv 2) (pe_op op_mod (pe_callTy Z.c_int (by rfl) T.z_int (by decide +kernel) (pa_cons (pe_op op_add (pv 6) pe_int) pa_nil)) (pe_callB Z.c_len (by rfl) T.z_len (by decide +kernel) (pa_cons (pv 2) pa_nil))) (fun _ _ => rfl)) pa_nil)))
  (pss_one (ps_if (pt_cmpR Z.op_isN1 (pe_ix ix_tup (pv 3) (pv 6) (fun _ _ => rfl)) pe_non (nomark _))
  (pss_one (ps_expr (pe_bm PySem.F.plainAttrs_list PySem.F.slot_list_append PySem.F.type_list_append mt_append (pv 5) (pa_cons (pv 8) pa_nil))))
  (pss_cons (ps_set (i := 9) sc_law.nd rfl (.inl rfl) (pe_call (ok__law_grid T) (hr.mono (by decide)) (by rfl) T.m__law_grid T.F__law_grid.kp T.b__law_grid .nil passL (pa_cons (pe_ix ix_tup (pe_ix ix_tup (pv 3) (pv 6) (fun _ _ => rfl)) pe_int (fun _ _ => rfl)) pa_nil)))
  (pss_cons (ps_set (i := 10) sc_law.nd rfl (.inl rfl) (pe_call (ok__law_grid T) (hr.mono (by decide)) (by rfl) T.m__law_grid T.F__law_grid.kp T.b__law_grid .nil passL (pa_cons (pe_ix ix_tup (pe_ix ix_tup (pv 3) (pv 6) (fun _ _ => rfl)) pe_int (fun _ _ => rfl)) pa_nil)))
  (pss_one (ps_set (i := 5) sc_law.nd rfl (.inl rfl) (pe_op op_cat (pv 5) (pe_call (ok__law_lay_out T) (hr.mono (by decide)) (by rfl) T.m__law_lay_out T.F__law_lay_out.kp T.b__law_lay_out .nil passL (pa_cons (pv 7) (pa_cons (pv 9) (pa_cons (pv 10) (pa_cons (pv 8) (pa_cons pe_int pa_nil))))))))))))))))
  (pss_cons (ps_set (i := 11) sc_law.nd rfl (.inl rfl) (pe_tup (pa_cons (pe_callTy Z.c_tupOf (by rfl) T.z_tuple (by decide +kernel) (pa_cons (pe_callTy Z.c_listOf (by rfl) T.z_list (by decide +kernel) (pa_cons (pv 2) pa_nil)) pa_nil)) (pa_cons (pe_callTy Z.c_tupOf (by rfl) T.z_tuple (by decide +kernel) (pa_cons (pe_callTy Z.c_listOf (by rfl) T.z_list (by decide +kernel) (pa_cons (pv 3) pa_nil)) pa_nil)) (pa_cons (pv 4) pa_nil)))))
  (pss_cons (ps_set (i := 12) sc_law.nd rfl (.inl rfl) (pe_call (ok_outline T) (hr.mono (by decide)) (by rfl) T.m_outline T.F_outline.kp T.b_outline .nil passL (pa_cons (pv 11) pa_nil)))
  (pss_one (ps_ret (pe_and (pe_call (ok__law_is_grid_list T) (hr.mono (by decide)) (by rfl) T.m__law_is_grid_list T.F__law_is_grid_list.kp T.b__law_is_grid_list .nil passL (pa_cons (pv 12) pa_nil)) (pe_and (pe_cmpR (op_eqD hr.units) (pv 12) (pv 5) (nomark _)) (pe_one (pe_cmpR (op_eqD hr.units) (pv 11) (pv 1) (nomark _))))))))))))), ?_⟩
  walk_at "z"
  refine ⟨l, ns, 0, rfl, hS, fun v => ?_⟩
  walk_at "z"
  refine ⟨v, rfl, fun p H1 i1 j1 m hp s1 h1 => ?_⟩
  have S1 := Sd.mk0 hp s1 h1
  walk_at "z"
  refine ⟨p, H, rfl, S1, fun v ks ss cyc pts sgs H2 P _ => ?_⟩
  clear S1 h1 s1 hp hS
  have n1 := P.n1
  have n2 := P.n2
  have n3 := P.n3
  have kl := P.kl
  have sl := P.sl
  have P0 := P
  obtain ⟨a0, ha0⟩ : ∃ z, pts[0]? = some z := ⟨_, List.getElem?_eq_getElem (show 0 < pts.length by omega)⟩
  obtain ⟨w0, hw0, d0⟩ := P.pt ha0
  obtain ⟨a, k, g, rfl, hp1, hp2, hp3⟩ := P.at_
  walk_at "z"
  refine z_ixT hp2 (atI_nat hw0) ?_
  walk_at "z"
  refine gridl d0 (P.pk _ (List.mem_of_getElem? ha0)) fun w1 H3 s3 e3 => ?_
  walk_at "z"
  intro D H4 f4 s4 hD
  have s24 := s3.trans s4
  have f2 : H2 D = none := by
    cases hh : H2 D with
    | none => rfl
    | some o => rw [s3 _ _ hh] at f4; cases f4
  walk_at "z"
  refine z_forR1 sgs.length (by omega) (fun R q => by
    walk_at "z"
    refine z_lenT (seqT s24 hp3) ?_
    rw [sl]
    exact q) (fun i σ' H' => Same H2 H' ∧ ∃ D ws u1 u2 u3 u4 u5, H2 D = none ∧ H' D = some (.lst ws) ∧ Gs K H' ws (upto pts sgs i) ∧ σ' = [some (.ref l), some (.ref a), some (.ref k), some (.ref g), some (.bl cyc), some (.ref D), u1, u2, u3, u4, u5, none, none])
    ⟨s24, D, [w1], _, _, _, _, _, f2, hD, by rw [upto_0 ha0]; exact gs_one (dp_mono s4 e3), rfl⟩ ?_ ?_
  · clear hD s24 f2 s4 s3 e3 f4
    rintro i σ' H5 hi ⟨s5, D, ws, u1, u2, u3, u4, u5, f5, h5, g5, rfl⟩
    have P5 := P0.mono s5
    have hm : (i + 1) % pts.length < pts.length := Nat.mod_lt _ (by omega)
    obtain ⟨za, hza⟩ : ∃ z, pts[i]? = some z := ⟨_, List.getElem?_eq_getElem (show i < pts.length by omega)⟩
    obtain ⟨zs, hzs⟩ : ∃ z, sgs[i]? = some z := ⟨_, List.getElem?_eq_getElem hi⟩
    obtain ⟨zb, hzb⟩ : ∃ z, pts[(i + 1) % pts.length]? = some z := ⟨_, List.getElem?_eq_getElem hm⟩
    obtain ⟨wa, hwa, da⟩ := P5.pt hza
    obtain ⟨wb, hwb, db⟩ := P5.pt hzb
    obtain ⟨wg, hwg, dg⟩ := P5.sg hzs
    have pa := P.pk _ (List.mem_of_getElem? hza)
    have pb := P.pk _ (List.mem_of_getElem? hzb)
    have pg := P.sk _ (List.mem_of_getElem? hzs)
    have lu := upto_len pts sgs i
    have ll := sOut_len (gp za) zs (gp zb)
    have e5 : upto pts sgs (i + 1) = upto pts sgs i ++ sOut (gp za) zs (gp zb) := by
      show _ ++ segL pts sgs i = _
      rw [segL_eq hza hzs hzb]
    have q2 := seqT s5 hp2
    have q3 := seqT s5 hp3
    walk_at "z"
    refine z_ixT q2 (atI_nat hwa) ?_
    walk_at "z"
    refine gridl da pa fun va H6 s6 ea => ?_
    have q26 := seqT s6 q2
    walk_at "z"
    refine z_ixT q26 (show atI ks (((i : Int) + 1) % (ks.length : Int)) = some wb from by
      rw [kl, show ((i : Int) + 1) % (pts.length : Int) = (((i + 1) % pts.length : Nat) : Int) by rw [Int.natCast_emod]; rfl]
      exact atI_nat hwb) ?_
    walk_at "z"
    refine gridl (dp_mono s6 db) pb fun vb H7 s7 eb => ?_
    have s67 := s6.trans s7
    have q37 := seqT s67 q3
    have dg7 := dp_mono s67 dg
    have h7 := s67 _ _ h5
    have g7 := g5.mono s67
    have s27 := s5.trans s67
    have lw := g7.len
    walk_at "z"
    refine z_ixT q37 (atI_nat hwg) ?_
    match zs with
    | none =>
      rw [dp_non dg7]
      walk_at "z"
      refine z_bmL (fun R q => by walk_at "z"; exact q) h7 ?_
      walk_at "z"
      refine z_append h7 (by omega) ?_
      walk_at "z"
      refine ⟨fun b o e => ?_, D, ws ++ [vb], _, _, _, _, _, f5, upd_same, ?_, rfl⟩
      · rw [upd_ne (fun z => by rw [z, f5] at e; cases e)]
        exact s27 _ _ e
      · rw [e5]
        exact (g7.app (gs_one eb)).kp kp_at h7
    | some (c, d) =>
      obtain ⟨pc, v1, v2, hwgr, hpc, d1, d2⟩ := dp_t2 dg7
      rw [hwgr]
      rw [hwgr] at hwg
      walk_at "z"
      refine z_ixT q37 (atI_nat hwg) ?_
      walk_at "z"
      refine gridl d1 pg.1 fun x1 H8 s8 y1 => ?_
      walk_at "z"
      refine z_ixT (seqT s8 q37) (atI_nat hwg) ?_
      have hpc8 := seqT s8 hpc
      walk_at "z"
      refine gridl (dp_mono s8 d2) pg.2 fun x2 H9 s9 y2 => ?_
      have s79 := s8.trans s9
      walk_at "z"
      refine ⟨va, x1, x2, vb, _, _, _, _, 5, by rfl, by decide, dp_mono (s7.trans s79) ea, dp_mono s9 y1, y2, dp_mono s79 eb, fun pe we H10 f10 s10 h10 g10 => ?_⟩
      have s70 := s79.trans s10
      have l10 := g10.len
      have hD10 := s70 _ _ h7
      refine z_cat hD10 h10 (by have : (sOut (gp za) (some (c, d)) (gp zb)).length = we.length := l10.symm; omega) fun p9 H11 f11 s11 h11 => ?_
      have s71 := s70.trans s11
      have f9 : H2 p9 = none := by
        cases hh : H2 p9 with
        | none => rfl
        | some o => rw [(s27.trans s70) _ _ hh] at f11; cases f11
      walk_at "z"
      exact ⟨s27.trans s71, p9, _, _, _, _, _, _, f9, h11, by rw [e5]; exact (g7.mono s71).app (g10.mono s11), rfl⟩
  · clear hD s24 f2 s4 s3 e3 f4
    rintro σ' H5 ⟨s5, D, ws, u1, u2, u3, u4, u5, f5, h5, g5, rfl⟩
    walk_at "z"
    refine z_listOfT (seqT s5 hp2) fun o6 H6 f6 s6 h6 => ?_
    walk_at "z"
    refine z_tupOf (.inl (.inl h6)) fun o7 H7 f7 s7 h7 => ?_
    walk_at "z"
    have s57 := s6.trans s7
    refine z_listOfT (seqT (s5.trans s57) hp3) fun o8 H8 f8 s8 h8 => ?_
    walk_at "z"
    refine z_tupOf (.inl (.inl h8)) fun o9 H9 f9 s9 h9 => ?_
    walk_at "z"
    intro o10 H10 f10 s10 h10
    have s79 : Same H7 H10 := (s8.trans s9).trans s10
    have s50 := s57.trans s79
    have s20 := s5.trans s50
    have P9 := P0.mono s20
    have PH : Pth K H10 (.ref o10) ks ss cyc pts sgs := ⟨⟨o10, o7, o9, rfl, .inl (.inl h10), .inl (.inl (s79 _ _ h7)), .inl (.inl (s10 _ _ h9))⟩, P9.dk, P9.ds, n1, n2, n3, P9.pk, P9.sk⟩
    walk_at "z"
    refine ⟨_, ks, ss, cyc, pts, sgs, rfl, PH, fun pa wsa H11 f11 s11 h11 g11 => ?_⟩
    have h5' := (s50.trans s11) _ _ h5
    have g5' := g5.mono (s50.trans s11)
    walk_at "z"
    refine ⟨pa, wsa, _, rfl, h11, g11, ?_⟩
    walk_at "z"
    refine z_eqSame (dp_gs h11 g11) (dp_gs h5' g5') (shaped_gs _) ?_
    walk_at "z"
    refine z_eqSame (PH.mono s11).data (P9.mono s11).data (shaped_path _ _ _) ?_
    exact q _
end

theorem all_mk {l : PySem.W.OpenLaw} {w : World} {K : PySem.W.Frag} {h : Heap} {mg : Str → Option Value} {fa : Addr} (X : K.In h) (G : h.Ns mainGlobals mg) (hfa : mg "law" = some (.ref fa))
    {a0 : Addr} {od0 an0 : Option Addr} {sl0 : Array (Option Value)} {oc0 kV0 dc0 pm0 cd0 ct0 : Value} {a1 : Addr} {od1 an1 : Option Addr} {sl1 : Array (Option Value)} {oc1 kV1 dc1 pm1 cd1 ct1 : Value} {a2 : Addr} {od2 an2 : Option Addr} {sl2 : Array (Option Value)} {oc2 kV2 dc2 pm2 cd2 ct2 : Value} {a3 : Addr} {od3 an3 : Option Addr} {sl3 : Array (Option Value)} {oc3 kV3 dc3 pm3 cd3 ct3 : Value} {a4 : Addr} {od4 an4 : Option Addr} {sl4 : Array (Option Value)} {oc4 kV4 dc4 pm4 cd4 ct4 : Value} {a5 : Addr} {od5 an5 : Option Addr} {sl5 : Array (Option Value)} {oc5 kV5 dc5 pm5 cd5 ct5 : Value} {a6 : Addr} {od6 an6 : Option Addr} {sl6 : Array (Option Value)} {oc6 kV6 dc6 pm6 cd6 ct6 : Value} {a7 : Addr} {od7 an7 : Option Addr} {sl7 : Array (Option Value)} {oc7 kV7 dc7 pm7 cd7 ct7 : Value} {a8 : Addr} {od8 an8 : Option Addr} {sl8 : Array (Option Value)} {oc8 kV8 dc8 pm8 cd8 ct8 : Value} {a9 : Addr} {od9 an9 : Option Addr} {sl9 : Array (Option Value)} {oc9 kV9 dc9 pm9 cd9 ct9 : Value} {a10 : Addr} {od10 an10 : Option Addr} {sl10 : Array (Option Value)} {oc10 kV10 dc10 pm10 cd10 ct10 : Value} {a11 : Addr} {od11 an11 : Option Addr} {sl11 : Array (Option Value)} {oc11 kV11 dc11 pm11 cd11 ct11 : Value} {a12 : Addr} {od12 an12 : Option Addr} {sl12 : Array (Option Value)} {oc12 kV12 dc12 pm12 cd12 ct12 : Value} {a13 : Addr} {od13 an13 : Option Addr} {sl13 : Array (Option Value)} {oc13 kV13 dc13 pm13 cd13 ct13 : Value} {a14 : Addr} {od14 an14 : Option Addr} {sl14 : Array (Option Value)} {oc14 kV14 dc14 pm14 cd14 ct14 : Value} {a15 : Addr} {od15 an15 : Option Addr} {sl15 : Array (Option Value)} {oc15 kV15 dc15 pm15 cd15 ct15 : Value} {a16 : Addr} {od16 an16 : Option Addr} {sl16 : Array (Option Value)} {oc16 kV16 dc16 pm16 cd16 ct16 : Value} {a17 : Addr} {od17 an17 : Option Addr} {sl17 : Array (Option Value)} {oc17 kV17 dc17 pm17 cd17 ct17 : Value} {a18 : Addr} {od18 an18 : Option Addr} {sl18 : Array (Option Value)} {oc18 kV18 dc18 pm18 cd18 ct18 : Value} {a19 : Addr} {od19 an19 : Option Addr} {sl19 : Array (Option Value)} {oc19 kV19 dc19 pm19 cd19 ct19 : Value} {a20 : Addr} {od20 an20 : Option Addr} {sl20 : Array (Option Value)} {oc20 kV20 dc20 pm20 cd20 ct20 : Value} {a21 : Addr} {od21 an21 : Option Addr} {sl21 : Array (Option Value)} {oc21 kV21 dc21 pm21 cd21 ct21 : Value} {a22 : Addr} {od22 an22 : Option Addr} {sl22 : Array (Option Value)} {oc22 kV22 dc22 pm22 cd22 ct22 : Value} {a23 : Addr} {od23 an23 : Option Addr} {sl23 : Array (Option Value)} {oc23 kV23 dc23 pm23 cd23 ct23 : Value} {a24 : Addr} {od24 an24 : Option Addr} {sl24 : Array (Option Value)} {oc24 kV24 dc24 pm24 cd24 ct24 : Value} {t_DEEPEST : Tok} {t_MOST_BENT : Tok}
    (n0 : PySem.W.nsIn K mainGlobals "nearest" = some (some (.ref a0)))
    (l0 : K.lookup a0 = some ⟨oc0, od0, .func (PySem.W.fnOf "nearest" "nearest" (defArgs s_nearest) (defBody s_nearest) (defScope s_nearest) .none kV0 dc0 pm0 an0 cd0 ct0), sl0⟩)
    (c0 : PySem.W.codeIn K cd0 "nearest" = true) (k0 : PySem.W.keepIn K (.ref a0) = true)
    (n1 : PySem.W.nsIn K mainGlobals "sixty_fourths" = some (some (.ref a1)))
    (l1 : K.lookup a1 = some ⟨oc1, od1, .func (PySem.W.fnOf "sixty_fourths" "sixty_fourths" (defArgs s_sixty_fourths) (defBody s_sixty_fourths) (defScope s_sixty_fourths) .none kV1 dc1 pm1 an1 cd1 ct1), sl1⟩)
    (c1 : PySem.W.codeIn K cd1 "sixty_fourths" = true) (k1 : PySem.W.keepIn K (.ref a1) = true)
    (n2 : PySem.W.nsIn K mainGlobals "length" = some (some (.ref a2)))
    (l2 : K.lookup a2 = some ⟨oc2, od2, .func (PySem.W.fnOf "length" "length" (defArgs s_length) (defBody s_length) (defScope s_length) .none kV2 dc2 pm2 an2 cd2 ct2), sl2⟩)
    (c2 : PySem.W.codeIn K cd2 "length" = true) (k2 : PySem.W.keepIn K (.ref a2) = true)
    (n3 : PySem.W.nsIn K mainGlobals "segment_at" = some (some (.ref a3)))
    (l3 : K.lookup a3 = some ⟨oc3, od3, .func (PySem.W.fnOf "segment_at" "segment_at" (defArgs s_segment_at) (defBody s_segment_at) (defScope s_segment_at) .none kV3 dc3 pm3 an3 cd3 ct3), sl3⟩)
    (c3 : PySem.W.codeIn K cd3 "segment_at" = true) (k3 : PySem.W.keepIn K (.ref a3) = true)
    (n4 : PySem.W.nsIn K mainGlobals "grid_point" = some (some (.ref a4)))
    (l4 : K.lookup a4 = some ⟨oc4, od4, .func (PySem.W.fnOf "grid_point" "grid_point" (defArgs s_grid_point) (defBody s_grid_point) (defScope s_grid_point) .none kV4 dc4 pm4 an4 cd4 ct4), sl4⟩)
    (c4 : PySem.W.codeIn K cd4 "grid_point" = true) (k4 : PySem.W.keepIn K (.ref a4) = true)
    (n5 : PySem.W.nsIn K mainGlobals "outline" = some (some (.ref a5)))
    (l5 : K.lookup a5 = some ⟨oc5, od5, .func (PySem.W.fnOf "outline" "outline" (defArgs s_outline) (defBody s_outline) (defScope s_outline) .none kV5 dc5 pm5 an5 cd5 ct5), sl5⟩)
    (c5 : PySem.W.codeIn K cd5 "outline" = true) (k5 : PySem.W.keepIn K (.ref a5) = true)
    (n6 : PySem.W.nsIn K mainGlobals "laid_out_segment" = some (some (.ref a6)))
    (l6 : K.lookup a6 = some ⟨oc6, od6, .func (PySem.W.fnOf "laid_out_segment" "laid_out_segment" (defArgs s_laid_out_segment) (defBody s_laid_out_segment) (defScope s_laid_out_segment) .none kV6 dc6 pm6 an6 cd6 ct6), sl6⟩)
    (c6 : PySem.W.codeIn K cd6 "laid_out_segment" = true) (k6 : PySem.W.keepIn K (.ref a6) = true)
    (n7 : PySem.W.nsIn K mainGlobals "lay_out" = some (some (.ref a7)))
    (l7 : K.lookup a7 = some ⟨oc7, od7, .func (PySem.W.fnOf "lay_out" "lay_out" (defArgs s_lay_out) (defBody s_lay_out) (defScope s_lay_out) .none kV7 dc7 pm7 an7 cd7 ct7), sl7⟩)
    (c7 : PySem.W.codeIn K cd7 "lay_out" = true) (k7 : PySem.W.keepIn K (.ref a7) = true)
    (n8 : PySem.W.nsIn K mainGlobals "is_flat" = some (some (.ref a8)))
    (l8 : K.lookup a8 = some ⟨oc8, od8, .func (PySem.W.fnOf "is_flat" "is_flat" (defArgs s_is_flat) (defBody s_is_flat) (defScope s_is_flat) .none kV8 dc8 pm8 an8 cd8 ct8), sl8⟩)
    (c8 : PySem.W.codeIn K cd8 "is_flat" = true) (k8 : PySem.W.keepIn K (.ref a8) = true)
    (n9 : PySem.W.nsIn K mainGlobals "is_small" = some (some (.ref a9)))
    (l9 : K.lookup a9 = some ⟨oc9, od9, .func (PySem.W.fnOf "is_small" "is_small" (defArgs s_is_small) (defBody s_is_small) (defScope s_is_small) .none kV9 dc9 pm9 an9 cd9 ct9), sl9⟩)
    (c9 : PySem.W.codeIn K cd9 "is_small" = true) (k9 : PySem.W.keepIn K (.ref a9) = true)
    (n10 : PySem.W.nsIn K mainGlobals "middle" = some (some (.ref a10)))
    (l10 : K.lookup a10 = some ⟨oc10, od10, .func (PySem.W.fnOf "middle" "middle" (defArgs s_middle) (defBody s_middle) (defScope s_middle) .none kV10 dc10 pm10 an10 cd10 ct10), sl10⟩)
    (c10 : PySem.W.codeIn K cd10 "middle" = true) (k10 : PySem.W.keepIn K (.ref a10) = true)
    (n11 : PySem.W.nsIn K mainGlobals "_law_cell" = some (some (.ref a11)))
    (l11 : K.lookup a11 = some ⟨oc11, od11, .func (PySem.W.fnOf "_law_cell" "_law_cell" (defArgs s__law_cell) (defBody s__law_cell) (defScope s__law_cell) .none kV11 dc11 pm11 an11 cd11 ct11), sl11⟩)
    (c11 : PySem.W.codeIn K cd11 "_law_cell" = true) (k11 : PySem.W.keepIn K (.ref a11) = true)
    (n12 : PySem.W.nsIn K mainGlobals "_law_stream" = some (some (.ref a12)))
    (l12 : K.lookup a12 = some ⟨oc12, od12, .func (PySem.W.fnOf "_law_stream" "_law_stream" (defArgs s__law_stream) (defBody s__law_stream) (defScope s__law_stream) .none kV12 dc12 pm12 an12 cd12 ct12), sl12⟩)
    (c12 : PySem.W.codeIn K cd12 "_law_stream" = true) (k12 : PySem.W.keepIn K (.ref a12) = true)
    (n13 : PySem.W.nsIn K mainGlobals "_law_next" = some (some (.ref a13)))
    (l13 : K.lookup a13 = some ⟨oc13, od13, .func (PySem.W.fnOf "_law_next" "_law_next" (defArgs s__law_next) (defBody s__law_next) (defScope s__law_next) .none kV13 dc13 pm13 an13 cd13 ct13), sl13⟩)
    (c13 : PySem.W.codeIn K cd13 "_law_next" = true) (k13 : PySem.W.keepIn K (.ref a13) = true)
    (n14 : PySem.W.nsIn K mainGlobals "_law_is_integer" = some (some (.ref a14)))
    (l14 : K.lookup a14 = some ⟨oc14, od14, .func (PySem.W.fnOf "_law_is_integer" "_law_is_integer" (defArgs s__law_is_integer) (defBody s__law_is_integer) (defScope s__law_is_integer) .none kV14 dc14 pm14 an14 cd14 ct14), sl14⟩)
    (c14 : PySem.W.codeIn K cd14 "_law_is_integer" = true) (k14 : PySem.W.keepIn K (.ref a14) = true)
    (n15 : PySem.W.nsIn K mainGlobals "_law_ratio" = some (some (.ref a15)))
    (l15 : K.lookup a15 = some ⟨oc15, od15, .func (PySem.W.fnOf "_law_ratio" "_law_ratio" (defArgs s__law_ratio) (defBody s__law_ratio) (defScope s__law_ratio) .none kV15 dc15 pm15 an15 cd15 ct15), sl15⟩)
    (c15 : PySem.W.codeIn K cd15 "_law_ratio" = true) (k15 : PySem.W.keepIn K (.ref a15) = true)
    (n16 : PySem.W.nsIn K mainGlobals "_law_drawn_number" = some (some (.ref a16)))
    (l16 : K.lookup a16 = some ⟨oc16, od16, .func (PySem.W.fnOf "_law_drawn_number" "_law_drawn_number" (defArgs s__law_drawn_number) (defBody s__law_drawn_number) (defScope s__law_drawn_number) .none kV16 dc16 pm16 an16 cd16 ct16), sl16⟩)
    (c16 : PySem.W.codeIn K cd16 "_law_drawn_number" = true) (k16 : PySem.W.keepIn K (.ref a16) = true)
    (n17 : PySem.W.nsIn K mainGlobals "_law_drawn_point" = some (some (.ref a17)))
    (l17 : K.lookup a17 = some ⟨oc17, od17, .func (PySem.W.fnOf "_law_drawn_point" "_law_drawn_point" (defArgs s__law_drawn_point) (defBody s__law_drawn_point) (defScope s__law_drawn_point) .none kV17 dc17 pm17 an17 cd17 ct17), sl17⟩)
    (c17 : PySem.W.codeIn K cd17 "_law_drawn_point" = true) (k17 : PySem.W.keepIn K (.ref a17) = true)
    (n18 : PySem.W.nsIn K mainGlobals "_law_drawn_path" = some (some (.ref a18)))
    (l18 : K.lookup a18 = some ⟨oc18, od18, .func (PySem.W.fnOf "_law_drawn_path" "_law_drawn_path" (defArgs s__law_drawn_path) (defBody s__law_drawn_path) (defScope s__law_drawn_path) .none kV18 dc18 pm18 an18 cd18 ct18), sl18⟩)
    (c18 : PySem.W.codeIn K cd18 "_law_drawn_path" = true) (k18 : PySem.W.keepIn K (.ref a18) = true)
    (n19 : PySem.W.nsIn K mainGlobals "_law_is_grid_list" = some (some (.ref a19)))
    (l19 : K.lookup a19 = some ⟨oc19, od19, .func (PySem.W.fnOf "_law_is_grid_list" "_law_is_grid_list" (defArgs s__law_is_grid_list) (defBody s__law_is_grid_list) (defScope s__law_is_grid_list) .none kV19 dc19 pm19 an19 cd19 ct19), sl19⟩)
    (c19 : PySem.W.codeIn K cd19 "_law_is_grid_list" = true) (k19 : PySem.W.keepIn K (.ref a19) = true)
    (n20 : PySem.W.nsIn K mainGlobals "_law_middle" = some (some (.ref a20)))
    (l20 : K.lookup a20 = some ⟨oc20, od20, .func (PySem.W.fnOf "_law_middle" "_law_middle" (defArgs s__law_middle) (defBody s__law_middle) (defScope s__law_middle) .none kV20 dc20 pm20 an20 cd20 ct20), sl20⟩)
    (c20 : PySem.W.codeIn K cd20 "_law_middle" = true) (k20 : PySem.W.keepIn K (.ref a20) = true)
    (n21 : PySem.W.nsIn K mainGlobals "_law_bends" = some (some (.ref a21)))
    (l21 : K.lookup a21 = some ⟨oc21, od21, .func (PySem.W.fnOf "_law_bends" "_law_bends" (defArgs s__law_bends) (defBody s__law_bends) (defScope s__law_bends) .none kV21 dc21 pm21 an21 cd21 ct21), sl21⟩)
    (c21 : PySem.W.codeIn K cd21 "_law_bends" = true) (k21 : PySem.W.keepIn K (.ref a21) = true)
    (n22 : PySem.W.nsIn K mainGlobals "_law_lay_out" = some (some (.ref a22)))
    (l22 : K.lookup a22 = some ⟨oc22, od22, .func (PySem.W.fnOf "_law_lay_out" "_law_lay_out" (defArgs s__law_lay_out) (defBody s__law_lay_out) (defScope s__law_lay_out) .none kV22 dc22 pm22 an22 cd22 ct22), sl22⟩)
    (c22 : PySem.W.codeIn K cd22 "_law_lay_out" = true) (k22 : PySem.W.keepIn K (.ref a22) = true)
    (n23 : PySem.W.nsIn K mainGlobals "_law_grid" = some (some (.ref a23)))
    (l23 : K.lookup a23 = some ⟨oc23, od23, .func (PySem.W.fnOf "_law_grid" "_law_grid" (defArgs s__law_grid) (defBody s__law_grid) (defScope s__law_grid) .none kV23 dc23 pm23 an23 cd23 ct23), sl23⟩)
    (c23 : PySem.W.codeIn K cd23 "_law_grid" = true) (k23 : PySem.W.keepIn K (.ref a23) = true)
    (n24 : PySem.W.nsIn K mainGlobals "law" = some (some (.ref a24)))
    (l24 : K.lookup a24 = some ⟨oc24, od24, .func (PySem.W.fnOf "law" "law" (defArgs s_law) (defBody s_law) (defScope s_law) .none kV24 dc24 pm24 an24 cd24 ct24), sl24⟩)
    (c24 : PySem.W.codeIn K cd24 "law" = true) (k24 : PySem.W.keepIn K (.ref a24) = true)
    (z_abs : PySem.W.nsIn K mainGlobals "abs" = some none)
    (z_bool : PySem.W.nsIn K mainGlobals "bool" = some none)
    (z_int : PySem.W.nsIn K mainGlobals "int" = some none)
    (z_isinstance : PySem.W.nsIn K mainGlobals "isinstance" = some none)
    (z_len : PySem.W.nsIn K mainGlobals "len" = some none)
    (z_list : PySem.W.nsIn K mainGlobals "list" = some none)
    (z_range : PySem.W.nsIn K mainGlobals "range" = some none)
    (z_tuple : PySem.W.nsIn K mainGlobals "tuple" = some none)
    (c_DEEPEST : PySem.W.nsIn K mainGlobals "DEEPEST" = some (some (.int (5) t_DEEPEST)))
    (c_MOST_BENT : PySem.W.nsIn K mainGlobals "MOST_BENT" = some (some (.int (16) t_MOST_BENT)))
    : ∃ fd : FuncData, (∀ (s : Shared) (v : Value), BindsTo s fd ⟨[v], []⟩ [("script", v)]) ∧ ∀ base : Heap, K.In base → base.Ns mainGlobals mg → FnOk l.prog w K mg base CX0 12 fa fd ["script"] (sp_law K) := by
  have e := hfa.symm.trans (PySem.W.mg_of X G n24)
  cases e
  have F0 := fun_mk (st := s_nearest) l0 c0 k0
  have b0 := F0.binds (ps := ["a"]) fun _ _ _ _ _ _ us hl => match us, hl with | [_], _ => rfl
  have F1 := fun_mk (st := s_sixty_fourths) l1 c1 k1
  have b1 := F1.binds (ps := ["a"]) fun _ _ _ _ _ _ us hl => match us, hl with | [_], _ => rfl
  have F2 := fun_mk (st := s_length) l2 c2 k2
  have b2 := F2.binds (ps := ["path"]) fun _ _ _ _ _ _ us hl => match us, hl with | [_], _ => rfl
  have F3 := fun_mk (st := s_segment_at) l3 c3 k3
  have b3 := F3.binds (ps := ["path", "n"]) fun _ _ _ _ _ _ us hl => match us, hl with | [_, _], _ => rfl
  have F4 := fun_mk (st := s_grid_point) l4 c4 k4
  have b4 := F4.binds (ps := ["point"]) fun _ _ _ _ _ _ us hl => match us, hl with | [_], _ => rfl
  have F5 := fun_mk (st := s_outline) l5 c5 k5
  have b5 := F5.binds (ps := ["path"]) fun _ _ _ _ _ _ us hl => match us, hl with | [_], _ => rfl
  have F6 := fun_mk (st := s_laid_out_segment) l6 c6 k6
  have b6 := F6.binds (ps := ["a", "segment", "b"]) fun _ _ _ _ _ _ us hl => match us, hl with | [_, _, _], _ => rfl
  have F7 := fun_mk (st := s_lay_out) l7 c7 k7
  have b7 := F7.binds (ps := ["a", "b", "c", "d", "depth"]) fun _ _ _ _ _ _ us hl => match us, hl with | [_, _, _, _, _], _ => rfl
  have F8 := fun_mk (st := s_is_flat) l8 c8 k8
  have b8 := F8.binds (ps := ["a", "b", "c"]) fun _ _ _ _ _ _ us hl => match us, hl with | [_, _, _], _ => rfl
  have F9 := fun_mk (st := s_is_small) l9 c9 k9
  have b9 := F9.binds (ps := ["bend"]) fun _ _ _ _ _ _ us hl => match us, hl with | [_], _ => rfl
  have F10 := fun_mk (st := s_middle) l10 c10 k10
  have b10 := F10.binds (ps := ["p", "q"]) fun _ _ _ _ _ _ us hl => match us, hl with | [_, _], _ => rfl
  have F11 := fun_mk (st := s__law_cell) l11 c11 k11
  have b11 := F11.binds (ps := ["script", "k"]) fun _ _ _ _ _ _ us hl => match us, hl with | [_, _], _ => rfl
  have F12 := fun_mk (st := s__law_stream) l12 c12 k12
  have b12 := F12.binds (ps := ["cell"]) fun _ _ _ _ _ _ us hl => match us, hl with | [_], _ => rfl
  have F13 := fun_mk (st := s__law_next) l13 c13 k13
  have b13 := F13.binds (ps := ["stream", "size"]) fun _ _ _ _ _ _ us hl => match us, hl with | [_, _], _ => rfl
  have F14 := fun_mk (st := s__law_is_integer) l14 c14 k14
  have b14 := F14.binds (ps := ["actual"]) fun _ _ _ _ _ _ us hl => match us, hl with | [_], _ => rfl
  have F15 := fun_mk (st := s__law_ratio) l15 c15 k15
  have b15 := F15.binds (ps := ["n", "d"]) fun _ _ _ _ _ _ us hl => match us, hl with | [_, _], _ => rfl
  have F16 := fun_mk (st := s__law_drawn_number) l16 c16 k16
  have b16 := F16.binds (ps := ["stream", "mode"]) fun _ _ _ _ _ _ us hl => match us, hl with | [_, _], _ => rfl
  have F17 := fun_mk (st := s__law_drawn_point) l17 c17 k17
  have b17 := F17.binds (ps := ["stream", "mode"]) fun _ _ _ _ _ _ us hl => match us, hl with | [_, _], _ => rfl
  have F18 := fun_mk (st := s__law_drawn_path) l18 c18 k18
  have b18 := F18.binds (ps := ["stream"]) fun _ _ _ _ _ _ us hl => match us, hl with | [_], _ => rfl
  have F19 := fun_mk (st := s__law_is_grid_list) l19 c19 k19
  have b19 := F19.binds (ps := ["actual"]) fun _ _ _ _ _ _ us hl => match us, hl with | [_], _ => rfl
  have F20 := fun_mk (st := s__law_middle) l20 c20 k20
  have b20 := F20.binds (ps := ["p", "q"]) fun _ _ _ _ _ _ us hl => match us, hl with | [_, _], _ => rfl
  have F21 := fun_mk (st := s__law_bends) l21 c21 k21
  have b21 := F21.binds (ps := ["p", "q", "r"]) fun _ _ _ _ _ _ us hl => match us, hl with | [_, _, _], _ => rfl
  have F22 := fun_mk (st := s__law_lay_out) l22 c22 k22
  have b22 := F22.binds (ps := ["a", "b", "c", "d", "depth"]) fun _ _ _ _ _ _ us hl => match us, hl with | [_, _, _, _, _], _ => rfl
  have F23 := fun_mk (st := s__law_grid) l23 c23 k23
  have b23 := F23.binds (ps := ["point"]) fun _ _ _ _ _ _ us hl => match us, hl with | [_], _ => rfl
  have F24 := fun_mk (st := s_law) l24 c24 k24
  have b24 := F24.binds (ps := ["script"]) fun _ _ _ _ _ _ us hl => match us, hl with | [_], _ => rfl
  let A : Nat → Addr := fun | 0 => a0 | 1 => a1 | 2 => a2 | 3 => a3 | 4 => a4 | 5 => a5 | 6 => a6 | 7 => a7 | 8 => a8 | 9 => a9 | 10 => a10 | 11 => a11 | 12 => a12 | 13 => a13 | 14 => a14 | 15 => a15 | 16 => a16 | 17 => a17 | 18 => a18 | 19 => a19 | 20 => a20 | 21 => a21 | 22 => a22 | 23 => a23 | 24 => fa | _ => 0
  let D : Nat → FuncData := fun | 0 => PySem.W.fnOf "nearest" "nearest" (defArgs s_nearest) (defBody s_nearest) (defScope s_nearest) .none kV0 dc0 pm0 an0 cd0 ct0 | 1 => PySem.W.fnOf "sixty_fourths" "sixty_fourths" (defArgs s_sixty_fourths) (defBody s_sixty_fourths) (defScope s_sixty_fourths) .none kV1 dc1 pm1 an1 cd1 ct1 | 2 => PySem.W.fnOf "length" "length" (defArgs s_length) (defBody s_length) (defScope s_length) .none kV2 dc2 pm2 an2 cd2 ct2 | 3 => PySem.W.fnOf "segment_at" "segment_at" (defArgs s_segment_at) (defBody s_segment_at) (defScope s_segment_at) .none kV3 dc3 pm3 an3 cd3 ct3 | 4 => PySem.W.fnOf "grid_point" "grid_point" (defArgs s_grid_point) (defBody s_grid_point) (defScope s_grid_point) .none kV4 dc4 pm4 an4 cd4 ct4 | 5 => PySem.W.fnOf "outline" "outline" (defArgs s_outline) (defBody s_outline) (defScope s_outline) .none kV5 dc5 pm5 an5 cd5 ct5 | 6 => PySem.W.fnOf "laid_out_segment" "laid_out_segment" (defArgs s_laid_out_segment) (defBody s_laid_out_segment) (defScope s_laid_out_segment) .none kV6 dc6 pm6 an6 cd6 ct6 | 7 => PySem.W.fnOf "lay_out" "lay_out" (defArgs s_lay_out) (defBody s_lay_out) (defScope s_lay_out) .none kV7 dc7 pm7 an7 cd7 ct7 | 8 => PySem.W.fnOf "is_flat" "is_flat" (defArgs s_is_flat) (defBody s_is_flat) (defScope s_is_flat) .none kV8 dc8 pm8 an8 cd8 ct8 | 9 => PySem.W.fnOf "is_small" "is_small" (defArgs s_is_small) (defBody s_is_small) (defScope s_is_small) .none kV9 dc9 pm9 an9 cd9 ct9 | 10 => PySem.W.fnOf "middle" "middle" (defArgs s_middle) (defBody s_middle) (defScope s_middle) .none kV10 dc10 pm10 an10 cd10 ct10 | 11 => PySem.W.fnOf "_law_cell" "_law_cell" (defArgs s__law_cell) (defBody s__law_cell) (defScope s__law_cell) .none kV11 dc11 pm11 an11 cd11 ct11 | 12 => PySem.W.fnOf "_law_stream" "_law_stream" (defArgs s__law_stream) (defBody s__law_stream) (defScope s__law_stream) .none kV12 dc12 pm12 an12 cd12 ct12 | 13 => PySem.W.fnOf "_law_next" "_law_next" (defArgs s__law_next) (defBody s__law_next) (defScope s__law_next) .none kV13 dc13 pm13 an13 cd13 ct13 | 14 => PySem.W.fnOf "_law_is_integer" "_law_is_integer" (defArgs s__law_is_integer) (defBody s__law_is_integer) (defScope s__law_is_integer) .none kV14 dc14 pm14 an14 cd14 ct14 | 15 => PySem.W.fnOf "_law_ratio" "_law_ratio" (defArgs s__law_ratio) (defBody s__law_ratio) (defScope s__law_ratio) .none kV15 dc15 pm15 an15 cd15 ct15 | 16 => PySem.W.fnOf "_law_drawn_number" "_law_drawn_number" (defArgs s__law_drawn_number) (defBody s__law_drawn_number) (defScope s__law_drawn_number) .none kV16 dc16 pm16 an16 cd16 ct16 | 17 => PySem.W.fnOf "_law_drawn_point" "_law_drawn_point" (defArgs s__law_drawn_point) (defBody s__law_drawn_point) (defScope s__law_drawn_point) .none kV17 dc17 pm17 an17 cd17 ct17 | 18 => PySem.W.fnOf "_law_drawn_path" "_law_drawn_path" (defArgs s__law_drawn_path) (defBody s__law_drawn_path) (defScope s__law_drawn_path) .none kV18 dc18 pm18 an18 cd18 ct18 | 19 => PySem.W.fnOf "_law_is_grid_list" "_law_is_grid_list" (defArgs s__law_is_grid_list) (defBody s__law_is_grid_list) (defScope s__law_is_grid_list) .none kV19 dc19 pm19 an19 cd19 ct19 | 20 => PySem.W.fnOf "_law_middle" "_law_middle" (defArgs s__law_middle) (defBody s__law_middle) (defScope s__law_middle) .none kV20 dc20 pm20 an20 cd20 ct20 | 21 => PySem.W.fnOf "_law_bends" "_law_bends" (defArgs s__law_bends) (defBody s__law_bends) (defScope s__law_bends) .none kV21 dc21 pm21 an21 cd21 ct21 | 22 => PySem.W.fnOf "_law_lay_out" "_law_lay_out" (defArgs s__law_lay_out) (defBody s__law_lay_out) (defScope s__law_lay_out) .none kV22 dc22 pm22 an22 cd22 ct22 | 23 => PySem.W.fnOf "_law_grid" "_law_grid" (defArgs s__law_grid) (defBody s__law_grid) (defScope s__law_grid) .none kV23 dc23 pm23 an23 cd23 ct23 | _ => PySem.W.fnOf "law" "law" (defArgs s_law) (defBody s_law) (defScope s_law) .none kV24 dc24 pm24 an24 cd24 ct24
  have T : Txt K mg A D :=
    {F_nearest := F0,
     m_nearest := PySem.W.mg_of X G n0,
     b_nearest := b0,
     F_sixty_fourths := F1,
     m_sixty_fourths := PySem.W.mg_of X G n1,
     b_sixty_fourths := b1,
     F_length := F2,
     m_length := PySem.W.mg_of X G n2,
     b_length := b2,
     F_segment_at := F3,
     m_segment_at := PySem.W.mg_of X G n3,
     b_segment_at := b3,
     F_grid_point := F4,
     m_grid_point := PySem.W.mg_of X G n4,
     b_grid_point := b4,
     F_outline := F5,
     m_outline := PySem.W.mg_of X G n5,
     b_outline := b5,
     F_laid_out_segment := F6,
     m_laid_out_segment := PySem.W.mg_of X G n6,
     b_laid_out_segment := b6,
     F_lay_out := F7,
     m_lay_out := PySem.W.mg_of X G n7,
     b_lay_out := b7,
     F_is_flat := F8,
     m_is_flat := PySem.W.mg_of X G n8,
     b_is_flat := b8,
     F_is_small := F9,
     m_is_small := PySem.W.mg_of X G n9,
     b_is_small := b9,
     F_middle := F10,
     m_middle := PySem.W.mg_of X G n10,
     b_middle := b10,
     F__law_cell := F11,
     m__law_cell := PySem.W.mg_of X G n11,
     b__law_cell := b11,
     F__law_stream := F12,
     m__law_stream := PySem.W.mg_of X G n12,
     b__law_stream := b12,
     F__law_next := F13,
     m__law_next := PySem.W.mg_of X G n13,
     b__law_next := b13,
     F__law_is_integer := F14,
     m__law_is_integer := PySem.W.mg_of X G n14,
     b__law_is_integer := b14,
     F__law_ratio := F15,
     m__law_ratio := PySem.W.mg_of X G n15,
     b__law_ratio := b15,
     F__law_drawn_number := F16,
     m__law_drawn_number := PySem.W.mg_of X G n16,
     b__law_drawn_number := b16,
     F__law_drawn_point := F17,
     m__law_drawn_point := PySem.W.mg_of X G n17,
     b__law_drawn_point := b17,
     F__law_drawn_path := F18,
     m__law_drawn_path := PySem.W.mg_of X G n18,
     b__law_drawn_path := b18,
     F__law_is_grid_list := F19,
     m__law_is_grid_list := PySem.W.mg_of X G n19,
     b__law_is_grid_list := b19,
     F__law_middle := F20,
     m__law_middle := PySem.W.mg_of X G n20,
     b__law_middle := b20,
     F__law_bends := F21,
     m__law_bends := PySem.W.mg_of X G n21,
     b__law_bends := b21,
     F__law_lay_out := F22,
     m__law_lay_out := PySem.W.mg_of X G n22,
     b__law_lay_out := b22,
     F__law_grid := F23,
     m__law_grid := PySem.W.mg_of X G n23,
     b__law_grid := b23,
     F_law := F24,
     m_law := PySem.W.mg_of X G n24,
     b_law := b24,
     z_abs := PySem.W.mg_none_of X G z_abs,
     z_bool := PySem.W.mg_none_of X G z_bool,
     z_int := PySem.W.mg_none_of X G z_int,
     z_isinstance := PySem.W.mg_none_of X G z_isinstance,
     z_len := PySem.W.mg_none_of X G z_len,
     z_list := PySem.W.mg_none_of X G z_list,
     z_range := PySem.W.mg_none_of X G z_range,
     z_tuple := PySem.W.mg_none_of X G z_tuple,
     c_DEEPEST := ⟨_, PySem.W.mg_of X G c_DEEPEST, _, rfl⟩,
     c_MOST_BENT := ⟨_, PySem.W.mg_of X G c_MOST_BENT, _, rfl⟩}
  exact ⟨_, fun s v => .of_eq rfl, fun base _ _ => ok_law T⟩
end G
open PySem PySem.W PyProof.Rows
set_option maxRecDepth 100000 in
set_option maxHeartbeats 0 in
theorem PySem.Challenge.cw_fontwinding_k21_outline_of_a_path_holds : PySem.Challenge.rw_fontwinding_k21_outline_of_a_path.Holds := by
  w_on; o_law; k_head; (case hw => w_witness2)
  k_fill
  refine L2.walk_of (l := PySem.Challenge.rw_fontwinding_k21_outline_of_a_path) (n := 63) (k := 12) (x := "script") (CX := fun _ => L2.CX0) (sp := fun w => G.sp_law _) rfl (by decide) rfl ⟨rfl, by decide, by decide⟩ (fun w h Y => PySem.W.kIn_of Y) ?F (fun _ _ a ns hl _ hS => ⟨a, ns, rfl, hS, hl, fun _ => rfl⟩) (fun _ _ _ _ _ h => h)
  case F =>
    intro w mg fa h KX G0 hmg
    refine' G.all_mk KX G0 hmg ?n0 ?l0 ?c0 ?k0 ?n1 ?l1 ?c1 ?k1 ?n2 ?l2 ?c2 ?k2 ?n3 ?l3 ?c3 ?k3 ?n4 ?l4 ?c4 ?k4 ?n5 ?l5 ?c5 ?k5 ?n6 ?l6 ?c6 ?k6 ?n7 ?l7 ?c7 ?k7 ?n8 ?l8 ?c8 ?k8 ?n9 ?l9 ?c9 ?k9 ?n10 ?l10 ?c10 ?k10 ?n11 ?l11 ?c11 ?k11 ?n12 ?l12 ?c12 ?k12 ?n13 ?l13 ?c13 ?k13 ?n14 ?l14 ?c14 ?k14 ?n15 ?l15 ?c15 ?k15 ?n16 ?l16 ?c16 ?k16 ?n17 ?l17 ?c17 ?k17 ?n18 ?l18 ?c18 ?k18 ?n19 ?l19 ?c19 ?k19 ?n20 ?l20 ?c20 ?k20 ?n21 ?l21 ?c21 ?k21 ?n22 ?l22 ?c22 ?k22 ?n23 ?l23 ?c23 ?k23 ?n24 ?l24 ?c24 ?k24 ?z_abs ?z_bool ?z_int ?z_isinstance ?z_len ?z_list ?z_range ?z_tuple ?c_DEEPEST ?c_MOST_BENT
    (case n0 => k_is)
    (case l0 => k_is)
    (case c0 => k_is)
    (case k0 => k_is)
    (case n1 => k_is)
    (case l1 => k_is)
    (case c1 => k_is)
    (case k1 => k_is)
    (case n2 => k_is)
    (case l2 => k_is)
    (case c2 => k_is)
    (case k2 => k_is)
    (case n3 => k_is)
    (case l3 => k_is)
    (case c3 => k_is)
    (case k3 => k_is)
    (case n4 => k_is)
    (case l4 => k_is)
    (case c4 => k_is)
    (case k4 => k_is)
    (case n5 => k_is)
    (case l5 => k_is)
    (case c5 => k_is)
    (case k5 => k_is)
    (case n6 => k_is)
    (case l6 => k_is)
    (case c6 => k_is)
    (case k6 => k_is)
    (case n7 => k_is)
    (case l7 => k_is)
    (case c7 => k_is)
    (case k7 => k_is)
    (case n8 => k_is)
    (case l8 => k_is)
    (case c8 => k_is)
    (case k8 => k_is)
    (case n9 => k_is)
    (case l9 => k_is)
    (case c9 => k_is)
    (case k9 => k_is)
    (case n10 => k_is)
    (case l10 => k_is)
    (case c10 => k_is)
    (case k10 => k_is)
    (case n11 => k_is)
    (case l11 => k_is)
    (case c11 => k_is)
    (case k11 => k_is)
    (case n12 => k_is)
    (case l12 => k_is)
    (case c12 => k_is)
    (case k12 => k_is)
    (case n13 => k_is)
    (case l13 => k_is)
    (case c13 => k_is)
    (case k13 => k_is)
    (case n14 => k_is)
    (case l14 => k_is)
    (case c14 => k_is)
    (case k14 => k_is)
    (case n15 => k_is)
    (case l15 => k_is)
    (case c15 => k_is)
    (case k15 => k_is)
    (case n16 => k_is)
    (case l16 => k_is)
    (case c16 => k_is)
    (case k16 => k_is)
    (case n17 => k_is)
    (case l17 => k_is)
    (case c17 => k_is)
    (case k17 => k_is)
    (case n18 => k_is)
    (case l18 => k_is)
    (case c18 => k_is)
    (case k18 => k_is)
    (case n19 => k_is)
    (case l19 => k_is)
    (case c19 => k_is)
    (case k19 => k_is)
    (case n20 => k_is)
    (case l20 => k_is)
    (case c20 => k_is)
    (case k20 => k_is)
    (case n21 => k_is)
    (case l21 => k_is)
    (case c21 => k_is)
    (case k21 => k_is)
    (case n22 => k_is)
    (case l22 => k_is)
    (case c22 => k_is)
    (case k22 => k_is)
    (case n23 => k_is)
    (case l23 => k_is)
    (case c23 => k_is)
    (case k23 => k_is)
    (case n24 => k_is)
    (case l24 => k_is)
    (case c24 => k_is)
    (case k24 => k_is)
    (case z_abs => k_is)
    (case z_bool => k_is)
    (case z_int => k_is)
    (case z_isinstance => k_is)
    (case z_len => k_is)
    (case z_list => k_is)
    (case z_range => k_is)
    (case z_tuple => k_is)
    (case c_DEEPEST => k_is)
    (case c_MOST_BENT => k_is)
