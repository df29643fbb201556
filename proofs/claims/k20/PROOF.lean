import PyProof.Rows.All
import Wide.All
import OpenK.AllK
import Wide.FinOn
import HandS.ForMost
import HandS.ForExc
import HandS.Wide
import HandS.Gcd
import HandS.IsInst
import HandS.ExcIs
import HandS.TryMany
import HandS.Evl
import HandS.Style
import PySem.Challenge.RW_fontwinding_k20_lay_out_a_curve
set_option Elab.async false
set_option linter.all false
set_option maxRecDepth 100000
set_option maxHeartbeats 4000000
namespace Z
open PySem PySem.Spec PyProof.Rows L2

/-! ### operators -/
section
variable {X : Cx}
def CFd (_ j : Int) : Prop := j ≠ 0 ∧ j.natAbs.log2 < 9000
theorem op_fdivZ : OpR X (binaryOp .FloorDiv) (rI CFd fun i j => .int (i.fdiv j)) := opI fun i j _ _ _ _ _ hc q => floordiv_int hc.1 q (.inl (PyProof.noPylong_of_log2 hc.2))
theorem pe_globE {x : Str} {pos : Pos} {v : V} (h : ∃ u, X.mg x = some u ∧ RelV v u) (hg : Gl X x := by rfl) (hdb : (x == ("__debug__" : Str)) = false := by decide) : PE X (.Name x pos) (tC v) := by
  obtain ⟨u, h1, h2⟩ := h
  exact pe_glob hg h1 h2 hdb
theorem pe_globR {x : Str} {pos : Pos} {a : Addr} (h : X.mg x = some (.ref a)) (hg : Gl X x := by rfl) (hdb : (x == ("__debug__" : Str)) = false := by decide) : PE X (.Name x pos) (tC (.ref a)) := pe_glob hg h rfl hdb
end
/-- an own error class over ValueError -/
structure ExcX (K : PySem.W.Frag) (mg : Str → Option Value) (x : Str) (C : Addr) : Prop where
  g : mg x = some (.ref C)
  q : PySem.W.excIn K C [.type "ValueError", .type "Exception", .type "BaseException", .type "object"] "ValueError.__new__" = true
  k : PySem.W.keepIn K (.ref C) = true
  t : PySem.W.typeIn K (.ref C) = some (.type "type")
  c : ExcC K C
  v : PySem.W.subIn K (.ref C) (.type "ValueError") = some true
section
variable {X : Cx} {C D : Addr} {K : PySem.W.Frag} {mg : Str → Option Value} {x y : Str} {b : Bool}
theorem pmk {m : Str} {j : Nat} {p p2 pos : Pos} (E : ExcX X.K X.mg x C) (hg : Gl X x) (hdb : (x == ("__debug__" : Str)) = false := by decide) :
    PMk X (.Call (.Name x p) [.Constant (.str m) j p2] [] pos) (fun _ H Q => Q (.ref C) none H) := pmk_own PySem.F.excBase_ValueError E.q E.g E.k (raises_own E.c.hs E.t) hg hdb
theorem exm (E : ExcX K mg x C) (h : PySem.W.subIn K (.ref D) (.ref C) = some b) : PySem.W.exmOne K (.ref D) (.ref C) = some b := PySem.W.exm_ref E.c.hs E.c.hd E.t h
theorem kit_own (E : ExcX K mg x C) (h : PySem.W.subIn K (.ref D) (.ref C) = some b) (hs : PySem.W.subIn K (.ref C) (.ref C) = some true) : PySem.W.kitOne K (.ref D) (.ref C) = some b := by
  unfold PySem.W.kitOne
  by_cases e : D = C
  · subst e
    rw [hs] at h
    cases h
    rw [if_pos (by simp)]
  · rw [if_neg (by simpa using e)]
    unfold PySem.W.kitCls
    obtain ⟨cd, hc, _⟩ := PySem.W.any_some E.c.hd
    have e2 : ((PySem.W.clsIn K C).isSome && PySem.W.typeIn K (.ref C) == some (.type "type")) = true := by rw [hc, E.t] <;> rfl
    show (if _ then _ else _) = _
    rw [if_pos e2, h]
theorem kit_ve (E : ExcX K mg x D) : PySem.W.kitOne K (.ref D) (.type "ValueError") = some true := by
  unfold PySem.W.kitOne
  rw [if_neg (by simp)]
  unfold PySem.W.kitCls
  show (if _ then _ else _) = _
  rw [if_pos (by decide +kernel), E.v]
/-- isinstance of the error that a suite holds -/
def rIsEx (K : PySem.W.Frag) (cls : Value) (d : Option Addr) (a : Addr) : List V → Hp → VK → Prop := fun xs H Q => ∃ D, cls = .ref D ∧ d = none ∧ ExcC K D ∧ rIsE K D a xs H Q
theorem call_isE {a : Addr} {oe : Obj} {cls : Value} {d : Option Addr} {pn : List (Addr × Obj)} (hz : Zc cls d oe) (hf : ∃ vs, oe.data = .fields vs) : CallR (X.suite a ((a, oe) :: pn)) (.builtin "isinstance") (rIsEx X.K cls d a) := by
  intro pins s σ H xs us Q I r h
  obtain ⟨D, e1, e2, c, h⟩ := h
  subst e1
  subst e2
  exact L2.call_isE c hz hf pins s σ H xs us Q I r h
end

/-! ### heaps -/
theorem same_upd {H : Hp} {p : Addr} {o : HO} (h : H p = none) : Same H (upd H p o) := fun b x e => by
  rw [upd_ne (ne_of_none e h)]
  exact e
theorem Same.seqT {K : PySem.W.Frag} {H H' : Hp} {a : Addr} {xs : List V} (e : Same H H') (h : SqT K H a xs) : SqT K H' a xs := by
  rcases h with (h | ⟨o, h⟩) | h
  · exact .inl (.inl (e _ _ h))
  · exact .inl (.inr ⟨o, e _ _ h⟩)
  · exact .inr h
theorem seqT {K : PySem.W.Frag} {H H' : Hp} {a : Addr} {xs : List V} (e : Same H H') (h : SqT K H a xs) : SqT K H' a xs := Same.seqT e h
theorem sz {n : Nat} (h : n ≤ 1000) : n ≤ sizeLine := Nat.le_trans h (by decide)

/-! ### readings, step by step -/
def NewT (Q : VK) : List V → Hp → Prop := fun xs H1 => xs.length ≤ sizeLine ∧ ∀ p, H1 p = none → Q (.ref p) (upd H1 p (.tup xs))
def NewL (Q : VK) : List V → Hp → Prop := fun xs H1 => xs.length ≤ sizeLine ∧ ∀ p, H1 p = none → Q (.ref p) (upd H1 p (.lst xs))
section
variable {σ : L2.St} {H : Hp} {n : L2.St → Hp → Prop} {r : VK} {b c : L2.St → Hp → Prop} {t u : TS} {te ta tb : TE} {tt tu : TT} {Q : VK} {QB : Bool → Hp → Prop} {v w x y : V} {i j : Int} {K : PySem.W.Frag}
theorem z_seq (h : t ⟨u ⟨n, r, b, c⟩, r, b, c⟩ σ H) : tSeq t u ⟨n, r, b, c⟩ σ H := h
theorem z_asg {k : Nat} (h : te σ H fun x H1 => n (σ.set k (some x)) H1) : tAsg te (gName k) ⟨n, r, b, c⟩ σ H := h
theorem z_asgS {to ti : TE} {st : TSet} (h : te σ H fun v H0 => to σ H0 fun o H1 => ti σ H1 fun k H2 => st o k v H2 fun H3 => n σ H3) : tAsg te (gSub to ti st) ⟨n, r, b, c⟩ σ H := h
theorem z_drop (h : te σ H fun _ H1 => n σ H1) : tDrop te ⟨n, r, b, c⟩ σ H := h
theorem z_ret (h : te σ H r) : tRet te ⟨n, r, b, c⟩ σ H := h
theorem z_retN (h : r .non H) : tRetN ⟨n, r, b, c⟩ σ H := h
theorem z_next (h : n σ H) : tNext ⟨n, r, b, c⟩ σ H := h
theorem z_brk (h : b σ H) : tBreak ⟨n, r, b, c⟩ σ H := h
theorem z_cont (h : c σ H) : tCont ⟨n, r, b, c⟩ σ H := h
theorem z_ifs (h : tt σ H fun k H1 => if k = true then t ⟨n, r, b, c⟩ σ H1 else u ⟨n, r, b, c⟩ σ H1) : tIfS tt t u ⟨n, r, b, c⟩ σ H := h
theorem z_par {p q : Nat} {tl : TA} (h : tl σ H fun vs H1 => ∃ v w, vs = [v, w] ∧ n ((σ.set p (some v)).set q (some w)) H1) : tPar p q tl ⟨n, r, b, c⟩ σ H := h
theorem z_two {R : V → V → Prop} (h : R v w) : ∃ v' w', [v, w] = [v', w'] ∧ R v' w' := ⟨v, w, rfl, h⟩
theorem z_aug {k : Nat} {ti : TIp} (h : σ[k]? = some (some x)) (q : te σ H fun y H1 => ti x y H1 fun z H2 => n (σ.set k (some z)) H2) : tAug k te ti ⟨n, r, b, c⟩ σ H := ⟨x, h, q⟩
theorem z_ipI {f : Int → Int → Int} (q : Q (.int (f i j)) H) : ipI f (.int i) (.int j) H Q := ⟨i, j, rfl, rfl, q⟩
theorem z_var {k : Nat} (h : σ[k]? = some (some v)) (q : Q v H) : tVar k σ H Q := ⟨v, h, q⟩
theorem z_c (q : Q v H) : tC v σ H Q := q
theorem z_op {g : R2} (h : ta σ H fun x H1 => tb σ H1 fun y H2 => g x y H2 Q) : tOp g ta tb σ H Q := h
theorem z_un {g : V → Hp → VK → Prop} (h : ta σ H fun x H1 => g x H1 Q) : tUn g ta σ H Q := h
theorem z_I0 {g : Int → Int → V} (q : Q (g i j) H) : rI0 g (.int i) (.int j) H Q := ⟨i, j, rfl, rfl, q⟩
theorem z_I {C : Int → Int → Prop} {g : Int → Int → V} (hc : C i j) (q : Q (g i j) H) : rI C g (.int i) (.int j) H Q := ⟨i, j, rfl, rfl, hc, q⟩
theorem z_U {g : Int → V} (q : Q (g i) H) : rU g (.int i) H Q := ⟨i, rfl, q⟩
theorem z_eqI (q : Q (.bl (decide (i = j))) H) : rEq (.int i) (.int j) H Q := ⟨rfl, by rw [show decide (V.int i = V.int j) = decide (i = j) by simp]; exact q⟩
theorem z_neI (q : Q (.bl (decide (¬ i = j))) H) : rNe (.int i) (.int j) H Q := ⟨rfl, by rw [show (!decide (V.int i = V.int j)) = decide (¬ i = j) by simp]; exact q⟩
theorem z_eq (h : scal x y = true) (q : Q (.bl (decide (x = y))) H) : rEq x y H Q := ⟨h, q⟩
theorem z_test (h : te σ H fun x H1 => ∃ k, x = .bl k ∧ QB k H1) : tTest te σ H QB := h
theorem z_tB (h : te σ H fun x H1 => ∃ k, x = .bl k ∧ QB k H1) : tB te σ H QB := h
theorem z_bl {k : Bool} {R : Bool → Prop} (q : R k) : ∃ k', V.bl k = V.bl k' ∧ R k' := ⟨k, rfl, q⟩
theorem z_notT (h : tt σ H fun k H1 => QB (!k) H1) : tNot tt σ H QB := h
theorem z_andT (h : tt σ H fun k H1 => if k = true then tu σ H1 QB else QB false H1) : tAnd tt tu σ H QB := h
theorem z_orT (h : tt σ H fun k H1 => if k = true then QB true H1 else tu σ H1 QB) : tOr tt tu σ H QB := h
theorem z_andV (h : ta σ H fun x H1 => ∃ k, x = .bl k ∧ if k = true then tb σ H1 Q else Q (.bl false) H1) : tAndV ta tb σ H Q := h
theorem z_orV (h : ta σ H fun x H1 => ∃ k, x = .bl k ∧ if k = true then Q (.bl true) H1 else tb σ H1 Q) : tOrV ta tb σ H Q := h
theorem z_notV (h : ta σ H fun x H1 => ∃ k, x = .bl k ∧ Q (.bl (!k)) H1) : tNotV ta σ H Q := h
theorem z_ifE (h : tt σ H fun k H1 => if k = true then ta σ H1 Q else tb σ H1 Q) : tIf tt ta tb σ H Q := h
theorem z_chain {g g' : R2} {tc : TE} (h : ta σ H fun x H1 => tb σ H1 fun y H2 => g x y H2 fun z H3 => ∃ k, z = .bl k ∧ (if k = true then tc σ H3 fun w' H4 => g' y w' H4 Q else Q (.bl false) H3)) : tChain g g' ta tb tc σ H Q := h
theorem z_nil {R : List V → Hp → Prop} (q : R [] H) : tNil σ H R := q
theorem z_cons {tr : TA} {R : List V → Hp → Prop} (h : ta σ H fun x H1 => tr σ H1 fun xs H2 => R (x :: xs) H2) : tCons ta tr σ H R := h
theorem z_tup {tl : TA} (h : tl σ H (NewT Q)) : tTup tl σ H Q := h
theorem z_lst {tl : TA} (h : tl σ H (NewL Q)) : tLst tl σ H Q := h
theorem z_newT {xs : List V} (hl : xs.length ≤ 1000) (q : ∀ p H', H p = none → Same H H' → H' p = some (.tup xs) → Q (.ref p) H') : NewT Q xs H := ⟨sz hl, fun p hp => q p _ hp (same_upd hp) upd_same⟩
theorem z_newL {xs : List V} (hl : xs.length ≤ 1000) (q : ∀ p H', H p = none → Same H H' → H' p = some (.lst xs) → Q (.ref p) H') : NewL Q xs H := ⟨sz hl, fun p hp => q p _ hp (same_upd hp) upd_same⟩
theorem z_cb {g : List V → Hp → VK → Prop} {tl : TA} (h : tl σ H fun vs H1 => g vs H1 Q) : tCB g tl σ H Q := h
theorem z_call {sp : Sp} {E : XK} {tl : TA} (h : tl σ H fun vs H1 => sp vs H1 Q E) : tCall sp [] E tl σ H Q := by
  unfold tCall
  simpa only [List.append_nil] using h
theorem z_callS {sp : Sp} {E : L2.St → XK} {tl : TA} (h : tl σ H fun vs H1 => sp vs H1 Q (E σ)) : tCallS sp E tl σ H Q := h
theorem z_ixL {p : Addr} {xs : List V} (h : SqL K H p xs) (ha : atI xs i = some v) (q : Q v H) : rIxL K (.ref p) (.int i) H Q := ⟨p, xs, i, v, rfl, rfl, h, ha, q⟩
theorem z_ixT {p : Addr} {xs : List V} (h : SqT K H p xs) (ha : atI xs i = some v) (q : Q v H) : rIxT K (.ref p) (.int i) H Q := ⟨p, xs, i, v, rfl, rfl, h, ha, q⟩
theorem z_setL {p : Addr} {xs : List V} {k : Nat} {R : Hp → Prop} (h : H p = some (.lst xs)) (hk : ixN xs.length i = some k) (q : R (upd H p (.lst (xs.set k v)))) : rSetL (.ref p) (.int i) v H R := ⟨p, xs, i, k, rfl, rfl, h, hk, q⟩
theorem z_if {p : Prop} [Decidable p] {A B : Prop} (h1 : p → A) (h2 : ¬ p → B) : if decide p = true then A else B := by
  by_cases h : p
  · rw [if_pos (decide_eq_true h)]
    exact h1 h
  · rw [if_neg (by simpa using h)]
    exact h2 h
theorem z_ifB {k : Bool} {A B : Prop} (h1 : k = true → A) (h2 : k = false → B) : if k = true then A else B := by
  cases k with
  | true => exact h1 rfl
  | false => exact h2 rfl
/-- and, or, not of a test whose answer is known, the heap as it was -/
theorem z_andK {k k' : Bool} (h : k = true → ∀ R : Bool → Hp → Prop, R k' H → tu σ H R) (q : QB (k && k') H) : if k = true then tu σ H QB else QB false H := by
  cases k with
  | true => exact h rfl QB q
  | false => exact q
theorem z_orK {k k' : Bool} (h : k = false → ∀ R : Bool → Hp → Prop, R k' H → tu σ H R) (q : QB (k || k') H) : if k = true then QB true H else tu σ H QB := by
  cases k with
  | true => exact q
  | false => exact h rfl QB q
theorem z_andKV {k k' : Bool} (h : k = true → ∀ R : VK, R (.bl k') H → tb σ H R) (q : Q (.bl (k && k')) H) : if k = true then tb σ H Q else Q (.bl false) H := by
  cases k with
  | true => exact h rfl Q q
  | false => exact q
theorem z_orKV {k k' : Bool} (h : k = false → ∀ R : VK, R (.bl k') H → tb σ H R) (q : Q (.bl (k || k')) H) : if k = true then Q (.bl true) H else tb σ H Q := by
  cases k with
  | true => exact q
  | false => exact h rfl Q q
/-- the second comparison of a chain -/
theorem z_chK {k k' : Bool} {tc : TE} {g' : R2} (h : k = true → ∀ R : VK, R (.bl k') H → tc σ H fun w' H4 => g' y w' H4 R) (q : Q (.bl (k && k')) H) :
    if k = true then tc σ H fun w' H4 => g' y w' H4 Q else Q (.bl false) H := by
  cases k with
  | true => exact h rfl Q q
  | false => exact q
theorem z_ty {x : V} {t : String} {T : String} {k : Bool} {H : Hp} {Q : VK} (h : TyX K H x (.type t)) (e : kitB t T = some k) (q : Q (.bl k) H) : rIsi K [x, .ty T] H Q := ⟨x, .ty T, .type t, .type T, k, rfl, .ty T, h, kit_ty e, q⟩
end
end Z
namespace Z
open PySem PySem.Spec PyProof.Rows L2
theorem pe_powc {X : Cx} {a b v : Int} {j1 j2 : Nat} {p1 p2 pos : Pos} (h0 : CPow a b) (hv : a ^ b.toNat = v) : PE X (.BinOp (.Constant (.int a) j1 p1) .Pow (.Constant (.int b) j2 p2) pos) (tC (.int v)) := by
  subst hv
  exact ⟨fun pins s σ H Q I h => (pe_op op_pow pe_int pe_int).run pins s σ H Q I ⟨a, b, rfl, rfl, h0, h⟩⟩
def rInt1 : List V → Hp → VK → Prop := fun xs H Q => (∃ i, xs = [.int i] ∧ Q (.int i) H) ∨ ∃ k, xs = [.bl k] ∧ Q (.int (if k then 1 else 0)) H
def rAbs : List V → Hp → VK → Prop := fun xs H Q => ∃ i, xs = [.int i] ∧ Q (.int (if i < 0 then -i else i)) H
def rLen (K : PySem.W.Frag) : List V → Hp → VK → Prop := fun xs H Q => ∃ p ys, xs = [.ref p] ∧ (SqL K H p ys ∨ SqT K H p ys) ∧ Q (.int ys.length) H
theorem c_int {X : Cx} : CallR X (.type "int") rInt1 := call_int1
theorem c_abs {X : Cx} : CallR X (.builtin "abs") rAbs := call_abs
theorem c_len {X : Cx} : CallR X (.builtin "len") (rLen X.K) := call_len_seq
section
variable {H : Hp} {Q : VK} {i j : Int} {v : V} {R : Prop}
theorem z_int1 (q : Q (.int i) H) : rInt1 [.int i] H Q := .inl ⟨i, rfl, q⟩
theorem z_int1b {k : Bool} (q : Q (.int (if k then 1 else 0)) H) : rInt1 [.bl k] H Q := .inr ⟨k, rfl, q⟩
theorem z_abs (q : Q (.int (if i < 0 then -i else i)) H) : rAbs [.int i] H Q := ⟨i, rfl, q⟩
theorem z_gcd (q : Q (.int ((Nat.gcd i.natAbs j.natAbs : Nat) : Int)) H) : rGcd [.int i, .int j] H Q := ⟨i, j, rfl, q⟩
theorem z_lenL {K : PySem.W.Frag} {p : Addr} {xs : List V} (h : SqL K H p xs) (q : Q (.int (xs.length : Int)) H) : rLen K [.ref p] H Q := ⟨p, xs, rfl, .inl h, q⟩
theorem z_lenT {K : PySem.W.Frag} {p : Addr} {xs : List V} (h : SqT K H p xs) (q : Q (.int (xs.length : Int)) H) : rLen K [.ref p] H Q := ⟨p, xs, rfl, .inr h, q⟩
theorem z_isII {K : PySem.W.Frag} (q : Q (.bl true) H) : rIsi K [.int i, .ty "int"] H Q := z_ty (.base (.int i)) (by decide +kernel) q
theorem z_isIB {K : PySem.W.Frag} (q : Q (.bl false) H) : rIsi K [.int i, .ty "bool"] H Q := z_ty (.base (.int i)) (by decide +kernel) q
theorem z_isBB {K : PySem.W.Frag} {k : Bool} (q : Q (.bl true) H) : rIsi K [.bl k, .ty "bool"] H Q := z_ty (.base (.bl k)) (by decide +kernel) q
theorem z_isTT {K : PySem.W.Frag} {p : Addr} {xs : List V} (h : H p = some (.tup xs)) (q : Q (.bl true) H) : rIsi K [.ref p, .ty "tuple"] H Q := z_ty (.base (.tup h)) (by decide +kernel) q
theorem z_isLL {K : PySem.W.Frag} {p : Addr} {xs : List V} (h : H p = some (.lst xs)) (q : Q (.bl true) H) : rIsi K [.ref p, .ty "list"] H Q := z_ty (.base (.lst h)) (by decide +kernel) q
theorem z_new {xs : List V} {F : Addr → Prop} (h : xs.length ≤ 1000) (q : ∀ p, H p = none → F p) : xs.length ≤ sizeLine ∧ ∀ p, H p = none → F p := ⟨sz h, q⟩
end
end Z
namespace Z
open PySem PySem.Spec PyProof.Rows L2
section
variable {σ : L2.St} {H : Hp} {n : L2.St → Hp → Prop} {r : VK} {b c : L2.St → Hp → Prop} {tb : TS} {K : PySem.W.Frag}
/-- for k in range(m) -/
theorem z_forR1 {ta : TA} {k : Nat} (m : Nat) (hm : m < 2 ^ 62) (ha : ∀ R : List V → Hp → Prop, R [.int (m : Int)] H → ta σ H R) (Pv : Nat → L2.St → Hp → Prop) (h0 : Pv 0 σ H)
    (hs : ∀ i σ H, i < m → Pv i σ H → tb ⟨Pv (i + 1), r, n, Pv (i + 1)⟩ (σ.set k (some (.int (i : Int)))) H) (hd : ∀ σ H, Pv m σ H → n σ H) : tFor (iRng1 ta) (gName k) tb ⟨n, r, b, c⟩ σ H := by
  refine ha _ ⟨(m : Int), rfl, by omega, by omega, ?_⟩
  refine for_range (lo := 0) (n := (m : Int).toNat) Pv h0 (fun i σ' H' hi p => ?_) (fun σ' H' p => hd σ' H' (by simpa using p))
  have e : (0 : Int) + (i : Int) = (i : Int) := Int.zero_add _
  show tb _ (σ'.set k (some (.int ((0 : Int) + (i : Int))))) H'
  rw [e]
  exact hs i σ' H' (by simpa using hi) p
/-- for k in range(lo, hi) -/
theorem z_forR2 {ta : TA} {k : Nat} (lo : Int) (m : Nat) (hl : -(2 ^ 61) ≤ lo ∧ lo < 2 ^ 61) (hm : m < 2 ^ 61) (ha : ∀ R : List V → Hp → Prop, R [.int lo, .int (lo + (m : Int))] H → ta σ H R) (Pv : Nat → L2.St → Hp → Prop) (h0 : Pv 0 σ H)
    (hs : ∀ i σ H, i < m → Pv i σ H → tb ⟨Pv (i + 1), r, n, Pv (i + 1)⟩ (σ.set k (some (.int (lo + (i : Int))))) H) (hd : ∀ σ H, Pv m σ H → n σ H) : tFor (iRng2 ta) (gName k) tb ⟨n, r, b, c⟩ σ H := by
  refine ha _ ⟨lo, lo + (m : Int), rfl, by omega, ?_⟩
  have en : (lo + (m : Int) - lo).toNat = m := by omega
  rw [en]
  exact for_range (lo := lo) (n := m) Pv h0 hs hd
/-- for x in a list, in a tuple -/
theorem z_forL {tl : TE} {g : TG} {a : Addr} {xs : List V} (ha : ∀ R : VK, R (.ref a) H → tl σ H R) (hx : SqL K H a xs) (Pv : Nat → L2.St → Hp → Prop) (h0 : Pv 0 σ H) (hl : ∀ i σ H, i ≤ xs.length → Pv i σ H → SqL K H a xs)
    (hs : ∀ i x σ H, xs[i]? = some x → Pv i σ H → g x σ H fun σ2 H2 => tb ⟨Pv (i + 1), r, n, Pv (i + 1)⟩ σ2 H2) (hd : ∀ σ H, Pv xs.length σ H → n σ H) : tFor (iList K tl) g tb ⟨n, r, b, c⟩ σ H :=
  ha _ ⟨a, rfl, ⟨xs, hx⟩, for_list Pv h0 hl hs hd⟩
theorem z_forT {tl : TE} {g : TG} {a : Addr} {xs : List V} (ha : ∀ R : VK, R (.ref a) H → tl σ H R) (hx : SqT K H a xs) (Pv : Nat → L2.St → Hp → Prop) (h0 : Pv 0 σ H) (hl : ∀ i σ H, i ≤ xs.length → Pv i σ H → SqT K H a xs)
    (hs : ∀ i x σ H, xs[i]? = some x → Pv i σ H → g x σ H fun σ2 H2 => tb ⟨Pv (i + 1), r, n, Pv (i + 1)⟩ σ2 H2) (hd : ∀ σ H, Pv xs.length σ H → n σ H) : tFor (iTup K tl) g tb ⟨n, r, b, c⟩ σ H :=
  ha _ ⟨a, rfl, ⟨xs, hx⟩, for_tup Pv h0 hl hs hd⟩
theorem z_gName {k : Nat} {v : V} {R : L2.St → Hp → Prop} (q : R (σ.set k (some v)) H) : gName k v σ H R := q
end
end Z
namespace Z
section
variable {A B : Prop}
theorem z_ifT (q : A) : if true = true then A else B := by
  rw [if_pos rfl]
  exact q
theorem z_ifF (q : B) : if false = true then A else B := by
  rw [if_neg Bool.false_ne_true]
  exact q
theorem z_ifNF (q : A) : if (!false) = true then A else B := z_ifT q
theorem z_ifNT (q : B) : if (!true) = true then A else B := z_ifF q
theorem z_ifN {p : Prop} [Decidable p] (h1 : ¬ p → A) (h2 : p → B) : if (!decide p) = true then A else B := by
  by_cases h : p
  · rw [if_neg (by simpa using h)]
    exact h2 h
  · rw [if_pos (by simpa using h)]
    exact h1 h
end
end Z
namespace Z
theorem z_ifYes {A B : Prop} {k : Bool} (h : k = true) (q : A) : if k = true then A else B := by
  rw [if_pos h]
  exact q
theorem z_ifNo {A B : Prop} {k : Bool} (h : k = false) (q : B) : if k = true then A else B := by
  rw [if_neg (by rw [h]; exact Bool.false_ne_true)]
  exact q
end Z
namespace Z
open PySem PySem.Spec PyProof.Rows L2
theorem z_exc {K : PySem.W.Frag} {cv cls : Value} {i : Nat} {ts : Addr → Value → Option Addr → TS} {Wout : WX} {n : L2.St → Hp → Prop} {r : VK} {b c : L2.St → Hp → Prop} {d : Option Addr} {σ : L2.St} {H : Hp} (e : PySem.W.exmOne K cls cv = some true)
    (h : ∀ a, H a = none → ts a cls d ⟨fun σ' H' => n (σ'.set i none) H', r, fun σ' H' => b (σ'.set i none) H', fun σ' H' => c (σ'.set i none) H'⟩ (σ.set i (some (.ref a))) H) : WE (wAs K cv i ts Wout ⟨n, r, b, c⟩) σ cls d H :=
  ⟨true, e, fun _ a ha => h a ha, fun z => Bool.noConfusion z⟩
theorem z_excO {K : PySem.W.Frag} {cv cls : Value} {ts : Addr → Value → Option Addr → TS} {Wout : WX} {D : Ends} {d : Option Addr} {σ : L2.St} {H : Hp} (e : PySem.W.exmOne K cls cv = some true)
    (h : ∀ a, H a = none → ts a cls d D σ H) : WE (wOnly K cv ts Wout D) σ cls d H :=
  ⟨true, e, fun _ a ha => h a ha, fun z => Bool.noConfusion z⟩
theorem z_isEr {K : PySem.W.Frag} {a C D : Addr} {k : Bool} {H : Hp} {Q : VK} (x : ExcC K D) (e : PySem.W.kitOne K (.ref D) (.ref C) = some k) (q : Q (.bl k) H) : rIsEx K (.ref D) none a [.ref a, .ref C] H Q :=
  ⟨D, rfl, rfl, x, .ref C, .ref C, k, rfl, fun u h => h, e, q⟩
theorem z_isEt {K : PySem.W.Frag} {a D : Addr} {t : String} {k : Bool} {H : Hp} {Q : VK} (x : ExcC K D) (e : PySem.W.kitOne K (.ref D) (.type t) = some k) (q : Q (.bl k) H) : rIsEx K (.ref D) none a [.ref a, .ty t] H Q :=
  ⟨D, rfl, rfl, x, .ty t, .type t, k, rfl, fun u h => h, e, q⟩
/-- two lists, tuples of flat things compared -/
theorem z_eqD {K : PySem.W.Frag} {x y : V} {d e : PyData} {H : Hp} {Q : VK} (h1 : Dp K H x d) (h2 : Dp K H y e) (s1 : SeqAt.shaped d = true) (s2 : SeqAt.shaped e = true) (q : Q (.bl (PyData.eqv d e)) H) : rEqD K x y H Q := ⟨d, e, h1, h2, s1, s2, q⟩
end Z
namespace Z
open PySem PySem.Spec PyProof.Rows L2
theorem z_eqSame {K : PySem.W.Frag} {x y : V} {d : PyData} {H : Hp} {Q : VK} (h1 : Dp K H x d) (h2 : Dp K H y d) (s : SeqAt.shaped d = true) (q : Q (.bl true) H) : rEqD K x y H Q :=
  ⟨d, d, h1, h2, s, s, by rw [SeqAt.eqv_refl d (SeqAt.canLay_of_shaped s)]; exact q⟩
theorem dpT2 {K : PySem.W.Frag} {H : Hp} {p : Addr} {n d : Int} (h : H p = some (.tup [.int n, .int d])) : Dp K H (.ref p) (.tuple [.int n, .int d]) := .tup (.inl (.inl h)) (.cons (.int n) (.cons (.int d) .nil))
theorem dpB3 {K : PySem.W.Frag} {H : Hp} {p : Addr} {a b c : Bool} (h : H p = some (.lst [.bl a, .bl b, .bl c])) : Dp K H (.ref p) (.list [.bool a, .bool b, .bool c]) := .lst (.inl (.inl h)) (.cons (.bl a) (.cons (.bl b) (.cons (.bl c) .nil)))
end Z
namespace Z
open PySem PySem.Spec PyProof.Rows L2
theorem z_cut {t u : TS} {n : L2.St → Hp → Prop} {r : VK} {b c : L2.St → Hp → Prop} {σ : L2.St} {H : Hp} (Mid : L2.St → Hp → Prop) (h : t ⟨Mid, r, b, c⟩ σ H) (k : ∀ σ' H', Mid σ' H' → u ⟨n, r, b, c⟩ σ' H') : Evl.tCut t u ⟨n, r, b, c⟩ σ H := ⟨Mid, h, k⟩
end Z
namespace Z
open PySem PySem.Spec PyProof.Rows L2
section
variable {σ : L2.St} {H : Hp} {n : L2.St → Hp → Prop} {r : VK} {b c : L2.St → Hp → Prop} {te : TE} {K : PySem.W.Frag} {a : Addr} {xs : List V} {gs : TGs} {m : Nat} {v : V}
theorem z_asgT (h : te σ H fun x H1 => ∃ a xs, x = .ref a ∧ SqT K H1 a xs ∧ xs.length = m ∧ gs xs σ H1 n) : tAsg te (gTup K m gs) ⟨n, r, b, c⟩ σ H := h
theorem z_asgL (h : te σ H fun x H1 => ∃ a xs, x = .ref a ∧ SqL K H1 a xs ∧ xs.length = m ∧ gs xs σ H1 n) : tAsg te (gLst K m gs) ⟨n, r, b, c⟩ σ H := h
theorem z_up (h : SqT K H a xs) (hm : xs.length = m) (q : gs xs σ H n) : ∃ a' xs', V.ref a = .ref a' ∧ SqT K H a' xs' ∧ xs'.length = m ∧ gs xs' σ H n := ⟨a, xs, rfl, h, hm, q⟩
theorem z_upL (h : SqL K H a xs) (hm : xs.length = m) (q : gs xs σ H n) : ∃ a' xs', V.ref a = .ref a' ∧ SqL K H a' xs' ∧ xs'.length = m ∧ gs xs' σ H n := ⟨a, xs, rfl, h, hm, q⟩
theorem z_gT (h : SqT K H a xs) (hm : xs.length = m) (q : gs xs σ H n) : gTup K m gs (.ref a) σ H n := ⟨a, xs, rfl, h, hm, q⟩
theorem z_gcons {t : TG} {u : TGs} {R : L2.St → Hp → Prop} (h : t v σ H fun σ' H' => u xs σ' H' R) : gCons t u (v :: xs) σ H R := ⟨v, xs, rfl, h⟩
theorem z_gnil {R : L2.St → Hp → Prop} (h : R σ H) : gNil [] σ H R := ⟨rfl, h⟩
end
end Z
namespace Z
open PySem PySem.Spec PyProof.Rows L2
section
variable {K : PySem.W.Frag} {Wout : WX} {D : Ends} {c cls : Value} {ts : Addr → Value → Option Addr → TS} {l : List (Value × (Addr → Value → Option Addr → TS))} {σ : L2.St} {H : Hp} {d : Option Addr}
theorem z_many1 (e : PySem.W.exmOne K cls c = some true) (h : ∀ a, H a = none → ts a cls d D σ H) : WE (wMany K Wout D ((c, ts) :: l)) σ cls d H := ⟨true, e, fun _ a ha => h a ha, fun z => Bool.noConfusion z⟩
theorem z_many0 (e : PySem.W.exmOne K cls c = some false) (h : WE (wMany K Wout D l) σ cls d H) : WE (wMany K Wout D ((c, ts) :: l)) σ cls d H := ⟨false, e, fun z => Bool.noConfusion z, fun _ => h⟩
theorem z_eqS {x : Str} {Q : VK} (q : Q (.bl true) H) : rEq (.str x) (.str x) H Q := ⟨rfl, by rw [decide_eq_true rfl]; exact q⟩
end
end Z
/-! ### data: what a value stands for -/
namespace Z
open PySem PySem.Spec PyProof.Rows L2
section
variable {K : PySem.W.Frag} {H H' : Hp} {v : V} {d d1 d2 d3 d4 d5 d6 : PyData}
mutual
theorem dp_mono (s : Same H H') : ∀ {d : PyData} {v : V}, Dp K H v d → Dp K H' v d
  | _, _, .non => .non
  | _, _, .bl b => .bl b
  | _, _, .int i => .int i
  | _, _, .str x => .str x
  | _, _, .lst h a => .lst (s.seq h) (dp_monoA s a)
  | _, _, .tup h a => .tup (seqT s h) (dp_monoA s a)
theorem dp_monoA (s : Same H H') : ∀ {ds : List PyData} {vs : List V}, DpAll K H vs ds → DpAll K H' vs ds
  | _, _, .nil => .nil
  | _, _, .cons h a => .cons (dp_mono s h) (dp_monoA s a)
end
mutual
def tupOnly : PyData → Bool
  | .list _ => false
  | .dict _ => false
  | .tuple ds => tupOnlyA ds
  | .none => true
  | .bool _ => true
  | .int _ => true
  | .str _ => true
def tupOnlyA : List PyData → Bool
  | [] => true
  | d :: ds => tupOnly d && tupOnlyA ds
end
def Kp (p : Addr) (H H' : Hp) : Prop := ∀ b o, b ≠ p → H b = some o → H' b = some o
theorem seqT_kp {p a : Addr} {xs ys : List V} (k : Kp p H H') (hp : H p = some (.lst xs)) (h : SqT K H a ys) : SqT K H' a ys := by
  rcases h with (h | ⟨o, h⟩) | h
  · exact .inl (.inl (k _ _ (ne_of h hp (by intro z; cases z)) h))
  · exact .inl (.inr ⟨o, k _ _ (ne_of h hp (by intro z; cases z)) h⟩)
  · exact .inr h
mutual
theorem dp_kp {p : Addr} {xs : List V} (k : Kp p H H') (hp : H p = some (.lst xs)) : ∀ {d : PyData} {v : V}, tupOnly d = true → Dp K H v d → Dp K H' v d
  | _, _, _, .non => .non
  | _, _, _, .bl b => .bl b
  | _, _, _, .int i => .int i
  | _, _, _, .str x => .str x
  | _, _, t, .lst h a => by simp [tupOnly] at t
  | _, _, t, .tup h a => .tup (seqT_kp k hp h) (dp_kpA k hp (by simpa [tupOnly] using t) a)
theorem dp_kpA {p : Addr} {xs : List V} (k : Kp p H H') (hp : H p = some (.lst xs)) : ∀ {ds : List PyData} {vs : List V}, tupOnlyA ds = true → DpAll K H vs ds → DpAll K H' vs ds
  | _, _, _, .nil => .nil
  | _, _, t, .cons h a => by
    have t' : (tupOnly _ && tupOnlyA _) = true := t
    rw [Bool.and_eq_true] at t'
    exact .cons (dp_kp k hp t'.1 h) (dp_kpA k hp t'.2 a)
end
theorem dp_int {i : Int} (h : Dp K H v (.int i)) : v = .int i := by
  cases h
  rfl
theorem dp_non (h : Dp K H v .none) : v = .non := by
  cases h
  rfl
theorem dp_bool {b : Bool} (h : Dp K H v (.bool b)) : v = .bl b := by
  cases h
  rfl
theorem dp_str {b : Str} (h : Dp K H v (.str b)) : v = .str b := by
  cases h
  rfl
theorem dp_tup {ds : List PyData} (h : Dp K H v (.tuple ds)) : ∃ p vs, v = .ref p ∧ SqT K H p vs ∧ DpAll K H vs ds := by
  cases h with
  | tup h a => exact ⟨_, _, rfl, h, a⟩
theorem dpa_nil {vs : List V} (h : DpAll K H vs []) : vs = [] := by
  cases h
  rfl
theorem dpa_cons {vs : List V} {ds : List PyData} (h : DpAll K H vs (d :: ds)) : ∃ v r, vs = v :: r ∧ Dp K H v d ∧ DpAll K H r ds := by
  cases h with
  | cons a b => exact ⟨_, _, rfl, a, b⟩
theorem dp_t1 (h : Dp K H v (.tuple [d1])) : ∃ p v1, v = .ref p ∧ SqT K H p [v1] ∧ Dp K H v1 d1 := by
  obtain ⟨p, vs, e, hS, a⟩ := dp_tup h
  obtain ⟨v1, _, rfl, h1, a⟩ := dpa_cons a
  obtain rfl := dpa_nil a
  exact ⟨p, v1, e, hS, h1⟩
theorem dp_t2 (h : Dp K H v (.tuple [d1, d2])) : ∃ p v1 v2, v = .ref p ∧ SqT K H p [v1, v2] ∧ Dp K H v1 d1 ∧ Dp K H v2 d2 := by
  obtain ⟨p, vs, e, hS, a⟩ := dp_tup h
  obtain ⟨v1, _, rfl, h1, a⟩ := dpa_cons a
  obtain ⟨v2, _, rfl, h2, a⟩ := dpa_cons a
  obtain rfl := dpa_nil a
  exact ⟨p, v1, v2, e, hS, h1, h2⟩
theorem dp_t3 (h : Dp K H v (.tuple [d1, d2, d3])) : ∃ p v1 v2 v3, v = .ref p ∧ SqT K H p [v1, v2, v3] ∧ Dp K H v1 d1 ∧ Dp K H v2 d2 ∧ Dp K H v3 d3 := by
  obtain ⟨p, vs, e, hS, a⟩ := dp_tup h
  obtain ⟨v1, _, rfl, h1, a⟩ := dpa_cons a
  obtain ⟨v2, _, rfl, h2, a⟩ := dpa_cons a
  obtain ⟨v3, _, rfl, h3, a⟩ := dpa_cons a
  obtain rfl := dpa_nil a
  exact ⟨p, v1, v2, v3, e, hS, h1, h2, h3⟩
theorem dp_t6 (h : Dp K H v (.tuple [d1, d2, d3, d4, d5, d6])) : ∃ p v1 v2 v3 v4 v5 v6, v = .ref p ∧ SqT K H p [v1, v2, v3, v4, v5, v6] ∧ Dp K H v1 d1 ∧ Dp K H v2 d2 ∧ Dp K H v3 d3 ∧ Dp K H v4 d4 ∧ Dp K H v5 d5 ∧ Dp K H v6 d6 := by
  obtain ⟨p, vs, e, hS, a⟩ := dp_tup h
  obtain ⟨v1, _, rfl, h1, a⟩ := dpa_cons a
  obtain ⟨v2, _, rfl, h2, a⟩ := dpa_cons a
  obtain ⟨v3, _, rfl, h3, a⟩ := dpa_cons a
  obtain ⟨v4, _, rfl, h4, a⟩ := dpa_cons a
  obtain ⟨v5, _, rfl, h5, a⟩ := dpa_cons a
  obtain ⟨v6, _, rfl, h6, a⟩ := dpa_cons a
  obtain rfl := dpa_nil a
  exact ⟨p, v1, v2, v3, v4, v5, v6, e, hS, h1, h2, h3, h4, h5, h6⟩
theorem dp_mk {p : Addr} {vs : List V} {ds : List PyData} (h : H p = some (.tup vs)) (a : DpAll K H vs ds) : Dp K H (.ref p) (.tuple ds) := .tup (.inl (.inl h)) a
end
/-! ### numbers -/
def qD (r : Rat) : PyData := .tuple [.int r.num, .int (r.den : Int)]
theorem dp_q {K : PySem.W.Frag} {H : Hp} {v : V} {r : Rat} (h : Dp K H v (qD r)) : ∃ p, v = .ref p ∧ SqT K H p [.int r.num, .int (r.den : Int)] := by
  obtain ⟨p, v1, v2, e, hS, h1, h2⟩ := dp_t2 h
  rw [dp_int h1, dp_int h2] at hS
  exact ⟨p, e, hS⟩
theorem dp_mkq {K : PySem.W.Frag} {H : Hp} {p : Addr} {r : Rat} (h : H p = some (.tup [.int r.num, .int (r.den : Int)])) : Dp K H (.ref p) (qD r) := dp_mk h (.cons (.int _) (.cons (.int _) .nil))
theorem dp_seqq {K : PySem.W.Frag} {H : Hp} {p : Addr} {r : Rat} (h : SqT K H p [.int r.num, .int (r.den : Int)]) : Dp K H (.ref p) (qD r) := .tup h (.cons (.int _) (.cons (.int _) .nil))
/-- numerator and denominator at most so great -/
def Bd (r : Rat) (p q : Nat) : Prop := r.num.natAbs ≤ p ∧ r.den ≤ q
theorem bd_divInt {n d : Int} (h : d ≠ 0) : Bd (Rat.divInt n d) n.natAbs d.natAbs := by
  unfold Bd
  rw [Rat.num_divInt, Rat.den_divInt, if_neg h]
  refine ⟨Nat.le_trans (Int.natAbs_ediv_le_natAbs _ _) ?_, Nat.div_le_self _ _⟩
  rw [Int.natAbs_mul]
  have : d.sign.natAbs ≤ 1 := by
    rcases Int.lt_trichotomy d 0 with z | z | z
    · rw [Int.sign_eq_neg_one_of_neg z]; decide
    · exact absurd z h
    · rw [Int.sign_eq_one_of_pos z]; decide
  calc d.sign.natAbs * n.natAbs ≤ 1 * n.natAbs := Nat.mul_le_mul_right _ this
    _ = n.natAbs := Nat.one_mul _
theorem q_self (r : Rat) : Rat.divInt r.num (r.den : Int) = r := Rat.num_divInt_den r
end Z
namespace Z
open PySem PySem.Spec PyProof.Rows L2
def gd (n d : Int) : Int := ((Nat.gcd n.natAbs d.natAbs : Nat) : Int)
def rn (n d : Int) : Int := (if d < 0 then -n else n) / gd n d
def rd (n d : Int) : Int := (if d < 0 then -d else d) / gd n d
theorem rn_q {n d : Int} (h : d ≠ 0) : rn n d = (Rat.divInt n d).num := by
  rw [Rat.num_divInt]
  unfold rn gd
  have e : d.gcd n = Nat.gcd n.natAbs d.natAbs := Nat.gcd_comm _ _
  rw [e]
  congr 1
  split
  · rename_i z
    rw [Int.sign_eq_neg_one_of_neg z]
    omega
  · rename_i z
    rw [Int.sign_eq_one_of_pos (by omega)]
    omega
theorem rd_q {n d : Int} (h : d ≠ 0) : rd n d = ((Rat.divInt n d).den : Int) := by
  rw [Rat.den_divInt, if_neg h]
  unfold rd gd
  have e : d.gcd n = Nat.gcd n.natAbs d.natAbs := Nat.gcd_comm _ _
  rw [e]
  rw [Int.natCast_ediv]
  congr 1
  split <;> omega
def lim : Int := 1000000000000000000
def fitsQ (r : Rat) : Prop := -lim ≤ r.num ∧ r.num ≤ lim ∧ (r.den : Int) ≤ lim
theorem bd_add {a b : Rat} {p q p' q' : Nat} (h : Bd a p q) (h' : Bd b p' q') : Bd (a + b) (p * q' + p' * q) (q * q') := by
  have ha := a.den_nz
  have hb := b.den_nz
  have e : a + b = Rat.divInt (a.num * b.den + b.num * a.den) ((a.den : Int) * b.den) := by
    rw [← Rat.divInt_add_divInt _ _ (by omega) (by omega), Rat.num_divInt_den, Rat.num_divInt_den]
  rw [e]
  have hd : ((a.den : Int) * b.den) ≠ 0 := Int.mul_ne_zero (by omega) (by omega)
  have k := bd_divInt (n := a.num * b.den + b.num * a.den) hd
  refine ⟨Nat.le_trans k.1 (Nat.le_trans (Int.natAbs_add_le _ _) ?_), Nat.le_trans k.2 ?_⟩
  · rw [Int.natAbs_mul, Int.natAbs_mul]
    exact Nat.add_le_add (Nat.mul_le_mul h.1 h'.2) (Nat.mul_le_mul h'.1 h.2)
  · rw [Int.natAbs_mul]
    exact Nat.mul_le_mul h.2 h'.2
theorem bd_mul {a b : Rat} {p q p' q' : Nat} (h : Bd a p q) (h' : Bd b p' q') : Bd (a * b) (p * p') (q * q') := by
  have ha := a.den_nz
  have hb := b.den_nz
  have e : a * b = Rat.divInt (a.num * b.num) ((a.den : Int) * b.den) := by
    rw [← Rat.divInt_mul_divInt, Rat.num_divInt_den, Rat.num_divInt_den]
  rw [e]
  have hd : ((a.den : Int) * b.den) ≠ 0 := Int.mul_ne_zero (by omega) (by omega)
  have k := bd_divInt (n := a.num * b.num) hd
  refine ⟨Nat.le_trans k.1 ?_, Nat.le_trans k.2 ?_⟩
  · rw [Int.natAbs_mul]
    exact Nat.mul_le_mul h.1 h'.1
  · rw [Int.natAbs_mul]
    exact Nat.mul_le_mul h.2 h'.2
theorem bd_neg {a : Rat} {p q : Nat} (h : Bd a p q) : Bd (-a) p q := by
  unfold Bd
  rw [Rat.neg_num, Rat.neg_den, Int.natAbs_neg]
  exact h
theorem bd_sub {a b : Rat} {p q p' q' : Nat} (h : Bd a p q) (h' : Bd b p' q') : Bd (a - b) (p * q' + p' * q) (q * q') := by
  rw [Rat.sub_eq_add_neg]
  exact bd_add h (bd_neg h')
theorem q_div (a b : Rat) (h : b ≠ 0) : a / b = Rat.divInt (a.num * b.den) ((a.den : Int) * b.num) := by
  rw [Rat.div_def, ← Rat.num_divInt_den b, Rat.inv_divInt]
  conv => lhs; lhs; rw [← Rat.num_divInt_den a]
  rw [Rat.divInt_mul_divInt, Rat.num_divInt_den]
theorem bd_div {a b : Rat} {p q p' q' : Nat} (hb : b ≠ 0) (h : Bd a p q) (h' : Bd b p' q') : Bd (a / b) (p * q') (q * p') := by
  have ha := a.den_nz
  rw [q_div a b hb]
  have hn : b.num ≠ 0 := fun z => hb (Rat.num_eq_zero.mp z)
  have hd : ((a.den : Int) * b.num) ≠ 0 := Int.mul_ne_zero (by omega) hn
  have k := bd_divInt (n := a.num * b.den) hd
  refine ⟨Nat.le_trans k.1 ?_, Nat.le_trans k.2 ?_⟩
  · rw [Int.natAbs_mul]
    exact Nat.mul_le_mul h.1 h'.2
  · rw [Int.natAbs_mul]
    exact Nat.mul_le_mul h.2 h'.1
theorem Bd.le {a : Rat} {p q p' q' : Nat} (h : Bd a p q) (h1 : p ≤ p') (h2 : q ≤ q') : Bd a p' q' := ⟨Nat.le_trans h.1 h1, Nat.le_trans h.2 h2⟩
theorem Bd.fits {a : Rat} {p q : Nat} (h : Bd a p q) (h1 : p ≤ 1000000000000000000) (h2 : q ≤ 1000000000000000000) : fitsQ a := by
  have a1 := h.1
  have a2 := h.2
  unfold fitsQ lim
  omega
theorem q_add (a b : Rat) : a + b = Rat.divInt (a.num * b.den + b.num * a.den) ((a.den : Int) * b.den) := by
  have ha := a.den_nz
  have hb := b.den_nz
  rw [← Rat.divInt_add_divInt _ _ (by omega) (by omega), Rat.num_divInt_den, Rat.num_divInt_den]
theorem q_sub (a b : Rat) : a - b = Rat.divInt (a.num * b.den - b.num * a.den) ((a.den : Int) * b.den) := by
  have ha := a.den_nz
  have hb := b.den_nz
  rw [← Rat.divInt_sub_divInt _ _ (by omega) (by omega), Rat.num_divInt_den, Rat.num_divInt_den]
theorem q_mul (a b : Rat) : a * b = Rat.divInt (a.num * b.num) ((a.den : Int) * b.den) := by
  rw [← Rat.divInt_mul_divInt, Rat.num_divInt_den, Rat.num_divInt_den]
theorem q_dd (a b : Rat) : ((a.den : Int) * b.den) ≠ 0 := by
  have ha := a.den_nz
  have hb := b.den_nz
  exact Int.mul_ne_zero (by omega) (by omega)
end Z
namespace Z
open PySem PySem.Spec PyProof.Rows L2
theorem tyx_T {K : PySem.W.Frag} {H : Hp} {a : Addr} {xs : List V} (h : SqT K H a xs) : TyX K H (.ref a) (.type "tuple") := by
  rcases h with (h | ⟨o, h⟩) | ⟨o, its, n, h, c, _⟩
  · exact .base (.tup h)
  · exact .fTuple h
  · exact .kTuple h c
theorem z_isT {K : PySem.W.Frag} {H : Hp} {Q : VK} {p : Addr} {xs : List V} (h : SqT K H p xs) (q : Q (.bl true) H) : rIsi K [.ref p, .ty "tuple"] H Q := z_ty (tyx_T h) (by decide +kernel) q
end Z
namespace Z
open PySem PySem.Spec PyProof.Rows L2
/-- a tuple of the module's own -/
theorem dpk {K : PySem.W.Frag} {H : Hp} {a : Addr} {od : Option Addr} {its : List Value} {n : Nat} {sl : Array (Option Value)} {vs : List V} {ds : List PyData} (h : K.lookup a = some ⟨.type "tuple", od, .seq its.toArray n, sl⟩)
    (hs : its.length ≤ 1000) (r : Vals vs its) (d : DpAll K H vs ds) : Dp K H (.ref a) (.tuple ds) :=
  .tup (.inr ⟨_, its.toArray, n, h, rfl, rfl, by rw [List.size_toArray]; exact sz hs, by simpa using r⟩) d
/-- a tuple and a tuple -/
theorem z_catT {K : PySem.W.Frag} {H : Hp} {Q : VK} {p q : Addr} {xs ys : List V} (h1 : SqT K H p xs) (h2 : SqT K H q ys) (hx : xs ≠ []) (hl : xs.length + ys.length ≤ 1000) (hy : ys ≠ [])
    (k : ∀ p H', H p = none → Same H H' → H' p = some (.tup (xs ++ ys)) → Q (.ref p) H') : rCatT K (.ref p) (.ref q) H Q := by
  refine ⟨p, q, xs, ys, rfl, rfl, h1, h2, hx, sz hl, fun z => absurd z hy, fun _ a ha => k a _ ha (same_upd ha) upd_same⟩
end Z
namespace Z
open PySem PySem.Spec PyProof.Rows L2
def rTupOf (K : PySem.W.Frag) : List V → Hp → VK → Prop := fun xs H Q => ∃ p ys, xs = [.ref p] ∧ ((SqL K H p ys ∧ ∀ l, H l = none → Q (.ref l) (upd H l (.tup ys))) ∨ (SqT K H p ys ∧ Q (.ref p) H))
def rListOf (K : PySem.W.Frag) : List V → Hp → VK → Prop := fun xs H Q => ∃ p ys, xs = [.ref p] ∧ (SqL K H p ys ∨ SqT K H p ys) ∧ ∀ l, H l = none → Q (.ref l) (upd H l (.lst ys))
theorem c_tupOf {X : Cx} : CallR X (.type "tuple") (rTupOf X.K) := call_tuple_of
theorem c_listOf {X : Cx} : CallR X (.type "list") (rListOf X.K) := call_list_of
section
variable {K : PySem.W.Frag} {H : Hp} {Q : VK} {p : Addr} {xs : List V} {σ : L2.St}
theorem z_tupOf (h : SqL K H p xs) (q : ∀ a H', H a = none → Same H H' → H' a = some (.tup xs) → Q (.ref a) H') : rTupOf K [.ref p] H Q := ⟨p, xs, rfl, .inl ⟨h, fun l hl => q l _ hl (same_upd hl) upd_same⟩⟩
theorem z_tupOfT (h : SqT K H p xs) (q : Q (.ref p) H) : rTupOf K [.ref p] H Q := ⟨p, xs, rfl, .inr ⟨h, q⟩⟩
theorem z_listOf (h : SqL K H p xs) (q : ∀ a H', H a = none → Same H H' → H' a = some (.lst xs) → Q (.ref a) H') : rListOf K [.ref p] H Q := ⟨p, xs, rfl, .inl h, fun l hl => q l _ hl (same_upd hl) upd_same⟩
theorem z_listOfT (h : SqT K H p xs) (q : ∀ a H', H a = none → Same H H' → H' a = some (.lst xs) → Q (.ref a) H') : rListOf K [.ref p] H Q := ⟨p, xs, rfl, .inr h, fun l hl => q l _ hl (same_upd hl) upd_same⟩
theorem z_yes {QB : Bool → Hp → Prop} (q : QB true H) : tYes σ H QB := q
/-- [e for k in range(m)] -/
theorem z_lcR1 {ta : TA} {k : Nat} {te : TE} {vs : List Nat} (m : Nat) (hm : m ≤ 1000) (ha : ∀ R : List V → Hp → Prop, R [.int (m : Int)] H → ta σ H R) (hw : ∀ x, wipe ((wipe σ vs).set k (some x)) vs = wipe σ vs) (Pv : Nat → Addr → List V → Hp → Prop)
    (h0 : ∀ D H', H D = none → Same H H' → H' D = some (.lst []) → Pv 0 D [] H')
    (hs : ∀ i D acc H', i < m → acc.length = i → H' D = some (.lst acc) → Pv i D acc H' → te ((wipe σ vs).set k (some (.int (i : Int)))) H' fun y H4 => H4 D = some (.lst acc) ∧ Pv (i + 1) D (acc ++ [y]) (upd H4 D (.lst (acc ++ [y]))))
    (mono : ∀ σ' H' Q Q', (∀ y H4, Q y H4 → Q' y H4) → te σ' H' Q → te σ' H' Q')
    (hd : ∀ D acc H', acc.length = m → H' D = some (.lst acc) → Pv m D acc H' → Q (.ref D) H') : tLc (iRng1 ta) (gName k) tYes te vs σ H Q := by
  refine ha _ ⟨(m : Int), rfl, by omega, by omega, fun D hD => ?_⟩
  refine lc_range (lo := 0) (n := (m : Int).toNat) (fun i H' => ∃ acc, acc.length = i ∧ H' D = some (.lst acc) ∧ Pv i D acc H') ⟨[], rfl, upd_same, h0 D _ hD (same_upd hD) upd_same⟩ (fun i H' hi ⟨acc, hl, hH, p⟩ => ?_) (fun H' ⟨acc, hl, hH, p⟩ => hd D acc H' (by simpa using hl) hH (by simpa using p))
  have e : (0 : Int) + (i : Int) = (i : Int) := Int.zero_add _
  show wipe ((wipe σ vs).set k (some (.int ((0 : Int) + (i : Int))))) vs = wipe σ vs ∧ _
  refine ⟨hw _, ?_⟩
  refine z_yes ?_
  refine z_ifT ?_
  rw [e]
  have hi' : i < m := by simpa using hi
  exact mono _ _ _ _ (fun y H4 ⟨e1, e2⟩ => ⟨acc, e1, Nat.lt_of_lt_of_le (show acc.length < 1000 by omega) (by decide), acc ++ [y], by simp [hl], upd_same, e2⟩) (hs i D acc H' (by simpa using hi) hl hH p)
end
end Z
namespace Z
open PySem PySem.Spec PyProof.Rows L2
section
variable {K : PySem.W.Frag} {H : Hp} {Q : VK} {p : Addr} {xs : List V} {σ : L2.St} {i : Int} {RO : Option Int → Hp → Prop} {te : TE} {tl th : TO}
theorem z_sl {g : V → Option Int → Option Int → Hp → VK → Prop} (h : te σ H fun x H1 => tl σ H1 fun l H2 => th σ H2 fun u H3 => g x l u H3 Q) : tSl g te tl th σ H Q := h
theorem z_noPart (q : RO none H) : tNoPart σ H RO := q
theorem z_part (h : te σ H fun x H1 => ∃ i, x = .int i ∧ RO (some i) H1) : tPart te σ H RO := h
theorem z_partI (q : RO (some i) H) : ∃ i', V.int i = .int i' ∧ RO (some i') H := ⟨i, rfl, q⟩
theorem z_slL {lo hi : Option Int} {ys : List V} (h : SqL K H p xs) (e : cutV xs lo hi = ys) (q : ∀ a H', H a = none → Same H H' → H' a = some (.lst ys) → Q (.ref a) H') : rSlL K (.ref p) lo hi H Q := by
  subst e
  exact ⟨p, xs, rfl, h, fun a ha => q a _ ha (same_upd ha) upd_same⟩
end
end Z
namespace Z
open PySem PySem.Spec PyProof.Rows L2
theorem z_slT {K : PySem.W.Frag} {H : Hp} {Q : VK} {p : Addr} {xs ys : List V} {lo hi : Option Int} (h : SqT K H p xs) (hn : ¬ (HT.sIx xs.length 0 lo = 0 ∧ HT.sIx xs.length xs.length hi = xs.length)) (e : cutV xs lo hi = ys)
    (q : ∀ a H', H a = none → Same H H' → H' a = some (.tup ys) → Q (.ref a) H') : rSlT K (.ref p) lo hi H Q := by
  subst e
  exact ⟨p, xs, rfl, h, hn, fun a ha => q a _ ha (same_upd ha) upd_same⟩
theorem eqv_q (a b : Rat) : PyData.eqv (qD a) (qD b) = decide (a = b) := by
  show (a.num == b.num && ((a.den : Int) == (b.den : Int) && true)) = decide (a = b)
  by_cases h : a = b
  · subst h
    simp
  · rw [decide_eq_false h]
    by_cases h1 : a.num = b.num
    · have h2 : ¬ (a.den : Int) = b.den := fun z => h (Rat.ext h1 (by omega))
      simp [h2]
    · simp [h1]
theorem shaped_q (a : Rat) : SeqAt.shaped (qD a) = true := rfl
theorem z_eqQ {K : PySem.W.Frag} {x y : V} {a b : Rat} {H : Hp} {Q : VK} (h1 : Dp K H x (qD a)) (h2 : Dp K H y (qD b)) (q : Q (.bl (decide (a = b))) H) : rEqD K x y H Q := ⟨qD a, qD b, h1, h2, shaped_q a, shaped_q b, by rw [eqv_q]; exact q⟩
theorem z_neQ {K : PySem.W.Frag} {x y : V} {a b : Rat} {H : Hp} {Q : VK} (h1 : Dp K H x (qD a)) (h2 : Dp K H y (qD b)) (q : Q (.bl (decide (¬ a = b))) H) : rNeD K x y H Q := ⟨qD a, qD b, h1, h2, shaped_q a, shaped_q b, by
  rw [eqv_q, show (!decide (a = b)) = decide (¬ a = b) by simp]
  exact q⟩
theorem z_neSame {K : PySem.W.Frag} {x y : V} {d : PyData} {H : Hp} {Q : VK} (h1 : Dp K H x d) (h2 : Dp K H y d) (s : SeqAt.shaped d = true) (q : Q (.bl false) H) : rNeD K x y H Q :=
  ⟨d, d, h1, h2, s, s, by rw [SeqAt.eqv_refl d (SeqAt.canLay_of_shaped s)]; exact q⟩
end Z
namespace Z
open PySem PySem.Spec PyProof.Rows L2
def rIsN : R2 := fun x y H Q => y = .non ∧ Q (.bl (decide (x = .non))) H
def rNotN : R2 := fun x y H Q => y = .non ∧ Q (.bl (!decide (x = .non))) H
theorem op_isN1 {X : Cx} : OpR X (compareOp .Is) rIsN := op_isN
theorem op_notN1 {X : Cx} : OpR X (compareOp .IsNot) rNotN := op_notN
section
variable {σ : L2.St} {H : Hp} {n : L2.St → Hp → Prop} {r : VK} {b c : L2.St → Hp → Prop} {tb : TS} {K : PySem.W.Frag} {Q : VK} {p : Addr} {v y : V} {xs : List V}
theorem z_isNN (q : Q (.bl true) H) : rIsN .non .non H Q := ⟨rfl, by simpa using q⟩
theorem z_isNR (q : Q (.bl false) H) : rIsN (.ref p) .non H Q := ⟨rfl, by simpa using q⟩
theorem z_notNN (q : Q (.bl false) H) : rNotN .non .non H Q := ⟨rfl, by simpa using q⟩
theorem z_notNR (q : Q (.bl true) H) : rNotN (.ref p) .non H Q := ⟨rfl, by simpa using q⟩
theorem z_bmL {r : V → List V → Hp → VK → Prop} {to : TE} {t : TA} (ho : ∀ R : VK, R (.ref p) H → to σ H R) (hp : H p = some (.lst xs)) (h : t σ H fun vs H2 => r (.ref p) vs H2 Q) : tBM K "list" r to t σ H Q :=
  ho _ ⟨.inl ⟨rfl, _, .inl (.inl hp)⟩, h⟩
theorem z_append (hp : H p = some (.lst xs)) (hl : xs.length < 1000) (q : Q .non (upd H p (.lst (xs ++ [y])))) : rAppend (.ref p) [y] H Q := ⟨p, xs, y, rfl, rfl, hp, Nat.lt_of_lt_of_le hl (by decide), q⟩
/-- the list that a for goes over, made on the way -/
def ForL (K : PySem.W.Frag) (g : TG) (tb : TS) (n : L2.St → Hp → Prop) (r : VK) (b c : L2.St → Hp → Prop) (σ : L2.St) : VK := fun x H1 => tFor (iList K (tC x)) g tb ⟨n, r, b, c⟩ σ H1
theorem z_forE {tl : TE} {g : TG} (h : tl σ H (ForL K g tb n r b c σ)) : tFor (iList K tl) g tb ⟨n, r, b, c⟩ σ H := h
/-- [e for x in l], where e answers at once -/
theorem z_lcM {tl : TE} {k : Nat} {te : TE} {vs : List Nat} {a : Addr} {xs ws : List V} (hlen : ws.length = xs.length) (hm : xs.length ≤ 1000) (ha : ∀ R : VK, R (.ref a) H → tl σ H R) (hx : H a = some (.lst xs)) (hw : ∀ x, wipe ((wipe σ vs).set k (some x)) vs = wipe σ vs)
    (body : ∀ (i : Nat) (x w : V) (H' : Hp), xs[i]? = some x → ws[i]? = some w → Same H H' → ∀ R : VK, R w H' → te ((wipe σ vs).set k (some x)) H' R)
    (hd : ∀ D H', H D = none → Same H H' → H' D = some (.lst ws) → Q (.ref D) H') : tLc (iList K tl) (gName k) tYes te vs σ H Q := by
  refine ha _ ⟨a, rfl, ⟨xs, .inl (.inl hx)⟩, fun D hD => ?_⟩
  have hDa : a ≠ D := ne_of_none hx hD
  refine lc_list (xs := xs) (fun i H' => Same H H' ∧ H' D = some (.lst (ws.take i)) ∧ H' a = some (.lst xs)) ⟨same_upd hD, upd_same, by rw [upd_ne hDa]; exact hx⟩ (fun i H' _ h => .inl (.inl h.2.2)) (fun i x H' hi ⟨s, hH, h3⟩ => ?_) (fun H' ⟨s, hH, _⟩ => hd D H' hD s (by rw [hH, ← hlen, List.take_length]))
  show wipe ((wipe σ vs).set k (some x)) vs = wipe σ vs ∧ _
  refine ⟨hw _, ?_⟩
  refine z_yes ?_
  refine z_ifT ?_
  have hi' : i < xs.length := by
    rcases Nat.lt_or_ge i xs.length with h | h
    · exact h
    · rw [List.getElem?_eq_none h] at hi
      cases hi
  have hiw : i < ws.length := by omega
  have hw' : ws[i]? = some ws[i] := List.getElem?_eq_getElem hiw
  refine body i x _ H' hi hw' s _ ?_
  refine ⟨_, hH, Nat.lt_of_lt_of_le (show (ws.take i).length < 1000 by rw [List.length_take]; omega) (by decide), fun q x' e => ?_, ?_, ?_⟩
  · have hq : q ≠ D := ne_of_none e hD
    rw [upd_ne hq]
    exact s _ _ e
  · rw [upd_same, List.take_add_one, hw']
    rfl
  · rw [upd_ne hDa]
    exact h3
end
/-! ### numbers over a common denominator -/
def Zb (r : Rat) (N M : Nat) : Prop := ∃ k : Int, r * (N : Rat) = (k : Rat) ∧ k.natAbs ≤ M
theorem zb_add {a b : Rat} {N M M' : Nat} (h : Zb a N M) (h' : Zb b N M') : Zb (a + b) N (M + M') := by
  obtain ⟨k, e, l⟩ := h
  obtain ⟨k', e', l'⟩ := h'
  exact ⟨k + k', by rw [Rat.add_mul, e, e', Rat.intCast_add], by omega⟩
theorem zb_neg {a : Rat} {N M : Nat} (h : Zb a N M) : Zb (-a) N M := by
  obtain ⟨k, e, l⟩ := h
  exact ⟨-k, by rw [Rat.neg_mul, e, Rat.intCast_neg], by omega⟩
theorem zb_sub {a b : Rat} {N M M' : Nat} (h : Zb a N M) (h' : Zb b N M') : Zb (a - b) N (M + M') := by
  rw [Rat.sub_eq_add_neg]
  exact zb_add h (zb_neg h')
theorem zb_mul {a b : Rat} {N N' M M' : Nat} (h : Zb a N M) (h' : Zb b N' M') : Zb (a * b) (N * N') (M * M') := by
  obtain ⟨k, e, l⟩ := h
  obtain ⟨k', e', l'⟩ := h'
  refine ⟨k * k', ?_, by rw [Int.natAbs_mul]; exact Nat.mul_le_mul l l'⟩
  rw [Rat.natCast_mul, Rat.intCast_mul, ← e, ← e']
  grind
theorem zb_up {a : Rat} {N M : Nat} (c : Nat) (h : Zb a N M) : Zb a (N * c) (M * c) := by
  obtain ⟨k, e, l⟩ := h
  refine ⟨k * (c : Int), ?_, by rw [Int.natAbs_mul]; exact Nat.mul_le_mul l (by omega)⟩
  rw [Rat.natCast_mul, Rat.intCast_mul, ← e, Rat.intCast_natCast]
  grind
theorem Zb.le {a : Rat} {N M M' : Nat} (h : Zb a N M) (l : M ≤ M') : Zb a N M' := by
  obtain ⟨k, e, l'⟩ := h
  exact ⟨k, e, Nat.le_trans l' l⟩
theorem Zb.bd {a : Rat} {N M : Nat} (h : Zb a N M) (h0 : N ≠ 0) : Bd a M N := by
  obtain ⟨k, e, l⟩ := h
  have hN : (N : Rat) ≠ 0 := fun z => h0 (by exact_mod_cast z)
  have e2 : a = Rat.divInt k (N : Int) := by
    rw [Rat.divInt_eq_div, ← e, Rat.intCast_natCast]
    grind
  rw [e2]
  exact (bd_divInt (by omega)).le l (by omega)
theorem zb_divInt {n d : Int} {N M c : Nat} (hd : d ≠ 0) (hN : (N : Int) = d * (c : Int)) (hl : n.natAbs * c ≤ M) : Zb (Rat.divInt n d) N M := by
  refine ⟨n * (c : Int), ?_, by rw [Int.natAbs_mul]; exact hl⟩
  have hd' : (d : Rat) ≠ 0 := fun z => hd (by exact_mod_cast z)
  have e : (N : Rat) = (d : Rat) * (c : Rat) := by
    rw [← Rat.intCast_natCast N, hN, Rat.intCast_mul, Rat.intCast_natCast]
  rw [Rat.divInt_eq_div, e, Rat.intCast_mul, Rat.intCast_natCast]
  grind
theorem zb_of {r : Rat} {p q N M : Nat} (h : Bd r p q) (hN : ∀ d, d ≤ q → d ≠ 0 → d ∣ N) (hl : p * N ≤ M) : Zb r N M := by
  obtain ⟨c, hc⟩ := hN r.den h.2 r.den_nz
  have hd := r.den_nz
  have e := zb_divInt (n := r.num) (d := (r.den : Int)) (N := N) (M := M) (c := c) (by omega) (by exact_mod_cast hc) (Nat.le_trans (Nat.mul_le_mul h.1 (show c ≤ N by rw [hc]; exact Nat.le_mul_of_pos_left _ (by omega))) hl)
  rwa [Rat.num_divInt_den] at e
end Z

namespace Z
open PySem PySem.Spec PyProof.Rows L2
def RevQ (K : PySem.W.Frag) (Q : VK) : VK := fun x H1 => ∃ a xs, x = .ref a ∧ SqL K H1 a xs ∧ ∀ p, H1 p = none → Q (.ref p) (upd H1 p (.lst xs.reverse))
section
variable {K : PySem.W.Frag} {H : Hp} {Q : VK} {p q : Addr} {xs ys : List V} {y : V} {σ : L2.St}
theorem z_revL {te : TE} (h : te σ H (RevQ K Q)) : tRevL K te σ H Q := h
theorem z_revE (h : SqL K H p xs) (k : ∀ a H', H a = none → Same H H' → H' a = some (.lst xs.reverse) → Q (.ref a) H') : RevQ K Q (.ref p) H :=
  ⟨p, xs, rfl, h, fun l hl => k l _ hl (same_upd hl) upd_same⟩
theorem z_pop (hp : H p = some (.lst (xs ++ [y]))) (k : Q y (upd H p (.lst xs))) : rPop (.ref p) [] H Q :=
  ⟨p, xs ++ [y], y, rfl, rfl, hp, by simp, by simpa using k⟩
theorem z_cat (h1 : H p = some (.lst xs)) (h2 : H q = some (.lst ys)) (hl : xs.length + ys.length ≤ 1000) (k : ∀ a H', H a = none → Same H H' → H' a = some (.lst (xs ++ ys)) → Q (.ref a) H') : rCat (.ref p) (.ref q) H Q :=
  ⟨p, q, xs, ys, rfl, rfl, h1, h2, sz hl, fun a ha => k a _ ha (same_upd ha) upd_same⟩
theorem z_extend (h1 : H p = some (.lst xs)) (h2 : H q = some (.lst ys)) (hl : xs.length + ys.length ≤ 1000) (k : Q .non (upd H p (.lst (xs ++ ys)))) : rExtend (.ref p) [.ref q] H Q :=
  ⟨p, q, xs, ys, rfl, rfl, h1, h2, sz hl, k⟩
theorem z_bm0L {r : V → List V → Hp → VK → Prop} {to : TE} (ho : ∀ R : VK, R (.ref p) H → to σ H R) (hp : H p = some (.lst xs)) (h : r (.ref p) [] H Q) : tBM0 K "list" r to σ H Q :=
  ho _ ⟨.inl ⟨rfl, _, .inl (.inl hp)⟩, h⟩
end
end Z

namespace G
open PySem PySem.Spec PyProof.Rows L2 Z
def topS (i : Nat) : Stmt := PySem.Challenge.pw_fontwinding_k20_lay_out_a_curve.main.body.getD i (.Pass ⟨0, 0, 0, 0⟩)
abbrev s_lay_out : Stmt := topS 3
abbrev s_is_flat : Stmt := topS 4
abbrev s_is_small : Stmt := topS 5
abbrev s_middle : Stmt := topS 6
abbrev s__law_cell : Stmt := topS 8
abbrev s__law_stream : Stmt := topS 9
abbrev s__law_next : Stmt := topS 10
abbrev s__law_coordinate : Stmt := topS 11
abbrev s__law_outline : Stmt := topS 12
abbrev s__law_is_integer : Stmt := topS 13
abbrev s__law_is_grid_list : Stmt := topS 14
abbrev s__law_middle : Stmt := topS 15
abbrev s__law_bends : Stmt := topS 16
abbrev s__law_lay_out : Stmt := topS 17
abbrev s_law : Stmt := topS 18
theorem sc_lay_out : FnScope ["a", "b", "c", "d", "depth", "e", "f", "g", "h", "k", "m"] ["a", "b", "c", "d", "depth"] (defScope s_lay_out) := ⟨rfl, rfl, rfl, by decide +kernel, rfl, by decide +kernel, by decide +kernel⟩
theorem sc_is_flat : FnScope ["a", "b", "c"] ["a", "b", "c"] (defScope s_is_flat) := ⟨rfl, rfl, rfl, by decide +kernel, rfl, by decide +kernel, by decide +kernel⟩
theorem sc_is_small : FnScope ["bend"] ["bend"] (defScope s_is_small) := ⟨rfl, rfl, rfl, by decide +kernel, rfl, by decide +kernel, by decide +kernel⟩
theorem sc_middle : FnScope ["p", "q"] ["p", "q"] (defScope s_middle) := ⟨rfl, rfl, rfl, by decide +kernel, rfl, by decide +kernel, by decide +kernel⟩
theorem sc__law_cell : FnScope ["script", "k"] ["script", "k"] (defScope s__law_cell) := ⟨rfl, rfl, rfl, by decide +kernel, rfl, by decide +kernel, by decide +kernel⟩
theorem sc__law_stream : FnScope ["cell"] ["cell"] (defScope s__law_stream) := ⟨rfl, rfl, rfl, by decide +kernel, rfl, by decide +kernel, by decide +kernel⟩
theorem sc__law_next : FnScope ["stream", "size", "drawn", "mixed"] ["stream", "size"] (defScope s__law_next) := ⟨rfl, rfl, rfl, by decide +kernel, rfl, by decide +kernel, by decide +kernel⟩
theorem sc__law_coordinate : FnScope ["stream", "mode"] ["stream", "mode"] (defScope s__law_coordinate) := ⟨rfl, rfl, rfl, by decide +kernel, rfl, by decide +kernel, by decide +kernel⟩
theorem sc__law_outline : FnScope ["stream", "count", "modes", "mode", "points", "k", "x", "y", "same"] ["stream", "count", "modes"] (defScope s__law_outline) := ⟨rfl, rfl, rfl, by decide +kernel, rfl, by decide +kernel, by decide +kernel⟩
theorem sc__law_is_integer : FnScope ["actual"] ["actual"] (defScope s__law_is_integer) := ⟨rfl, rfl, rfl, by decide +kernel, rfl, by decide +kernel, by decide +kernel⟩
theorem sc__law_is_grid_list : FnScope ["actual", "point"] ["actual"] (defScope s__law_is_grid_list) := ⟨rfl, rfl, rfl, by decide +kernel, rfl, by decide +kernel, by decide +kernel⟩
theorem sc__law_middle : FnScope ["p", "q"] ["p", "q"] (defScope s__law_middle) := ⟨rfl, rfl, rfl, by decide +kernel, rfl, by decide +kernel, by decide +kernel⟩
theorem sc__law_bends : FnScope ["p", "q", "r", "x", "y"] ["p", "q", "r"] (defScope s__law_bends) := ⟨rfl, rfl, rfl, by decide +kernel, rfl, by decide +kernel, by decide +kernel⟩
theorem sc__law_lay_out : FnScope ["a", "b", "c", "d", "depth", "waiting", "found", "step", "e", "f", "g", "h", "k", "m"] ["a", "b", "c", "d", "depth"] (defScope s__law_lay_out) := ⟨rfl, rfl, rfl, by decide +kernel, rfl, by decide +kernel, by decide +kernel⟩
theorem sc_law : FnScope ["script", "stream", "points", "depth", "bend", "x", "steps", "actual", "expected"] ["script"] (defScope s_law) := ⟨rfl, rfl, rfl, by decide +kernel, rfl, by decide +kernel, by decide +kernel⟩
structure Txt (K : PySem.W.Frag) (mg : Str → Option Value) (A : Nat → Addr) (D : Nat → FuncData) : Prop where
  F_lay_out : Fun K "lay_out" "lay_out" s_lay_out (A 0) (D 0)
  m_lay_out : mg "lay_out" = some (.ref (A 0))
  b_lay_out : Binds K (D 0) ["a", "b", "c", "d", "depth"] []
  F_is_flat : Fun K "is_flat" "is_flat" s_is_flat (A 1) (D 1)
  m_is_flat : mg "is_flat" = some (.ref (A 1))
  b_is_flat : Binds K (D 1) ["a", "b", "c"] []
  F_is_small : Fun K "is_small" "is_small" s_is_small (A 2) (D 2)
  m_is_small : mg "is_small" = some (.ref (A 2))
  b_is_small : Binds K (D 2) ["bend"] []
  F_middle : Fun K "middle" "middle" s_middle (A 3) (D 3)
  m_middle : mg "middle" = some (.ref (A 3))
  b_middle : Binds K (D 3) ["p", "q"] []
  F__law_cell : Fun K "_law_cell" "_law_cell" s__law_cell (A 4) (D 4)
  m__law_cell : mg "_law_cell" = some (.ref (A 4))
  b__law_cell : Binds K (D 4) ["script", "k"] []
  F__law_stream : Fun K "_law_stream" "_law_stream" s__law_stream (A 5) (D 5)
  m__law_stream : mg "_law_stream" = some (.ref (A 5))
  b__law_stream : Binds K (D 5) ["cell"] []
  F__law_next : Fun K "_law_next" "_law_next" s__law_next (A 6) (D 6)
  m__law_next : mg "_law_next" = some (.ref (A 6))
  b__law_next : Binds K (D 6) ["stream", "size"] []
  F__law_coordinate : Fun K "_law_coordinate" "_law_coordinate" s__law_coordinate (A 7) (D 7)
  m__law_coordinate : mg "_law_coordinate" = some (.ref (A 7))
  b__law_coordinate : Binds K (D 7) ["stream", "mode"] []
  F__law_outline : Fun K "_law_outline" "_law_outline" s__law_outline (A 8) (D 8)
  m__law_outline : mg "_law_outline" = some (.ref (A 8))
  b__law_outline : Binds K (D 8) ["stream", "count", "modes"] []
  F__law_is_integer : Fun K "_law_is_integer" "_law_is_integer" s__law_is_integer (A 9) (D 9)
  m__law_is_integer : mg "_law_is_integer" = some (.ref (A 9))
  b__law_is_integer : Binds K (D 9) ["actual"] []
  F__law_is_grid_list : Fun K "_law_is_grid_list" "_law_is_grid_list" s__law_is_grid_list (A 10) (D 10)
  m__law_is_grid_list : mg "_law_is_grid_list" = some (.ref (A 10))
  b__law_is_grid_list : Binds K (D 10) ["actual"] []
  F__law_middle : Fun K "_law_middle" "_law_middle" s__law_middle (A 11) (D 11)
  m__law_middle : mg "_law_middle" = some (.ref (A 11))
  b__law_middle : Binds K (D 11) ["p", "q"] []
  F__law_bends : Fun K "_law_bends" "_law_bends" s__law_bends (A 12) (D 12)
  m__law_bends : mg "_law_bends" = some (.ref (A 12))
  b__law_bends : Binds K (D 12) ["p", "q", "r"] []
  F__law_lay_out : Fun K "_law_lay_out" "_law_lay_out" s__law_lay_out (A 13) (D 13)
  m__law_lay_out : mg "_law_lay_out" = some (.ref (A 13))
  b__law_lay_out : Binds K (D 13) ["a", "b", "c", "d", "depth"] []
  F_law : Fun K "law" "law" s_law (A 14) (D 14)
  m_law : mg "law" = some (.ref (A 14))
  b_law : Binds K (D 14) ["script"] []
  z_bool : mg "bool" = none
  z_int : mg "int" = none
  z_isinstance : mg "isinstance" = none
  z_len : mg "len" = none
  z_list : mg "list" = none
  z_range : mg "range" = none
  z_tuple : mg "tuple" = none
  c_DEEPEST : ∃ u, mg "DEEPEST" = some u ∧ RelV (.int (5)) u
  c_MOST_BENT : ∃ u, mg "MOST_BENT" = some u ∧ RelV (.int (16)) u
local macro_rules | `(tactic| walk_at "z1") => `(tactic| first
  | with_reducible refine z_seq ?_
  | with_reducible refine z_asg ?_
  | with_reducible refine z_asgS ?_
  | with_reducible refine z_ifs ?_
  | ((with_reducible refine' z_var ?h ?_); case h => with_unfolding_all exact rfl)
  | with_reducible refine z_c ?_
  | with_reducible refine z_op ?_
  | with_reducible refine z_un ?_
  | with_reducible refine z_I0 ?_
  | ((with_reducible refine z_I ?h ?_); case h => first | (exact Or.inr ⟨by decide, by decide⟩) | (exact Or.inl ⟨by decide, by decide⟩) | (show (0 : Int) < _; first | assumption | omega))
  | with_reducible refine z_U ?_
  | with_reducible refine z_eqI ?_
  | with_reducible refine z_neI ?_
  | with_reducible refine z_test ?_
  | with_reducible refine z_tB ?_
  | with_reducible refine z_bl ?_
  | with_reducible refine z_notT ?_
  | with_reducible refine z_andT ?_
  | with_reducible refine z_orT ?_
  | with_reducible refine z_andV ?_
  | with_reducible refine z_orV ?_
  | with_reducible refine z_notV ?_
  | with_reducible refine z_ifE ?_
  | with_reducible refine z_ifT ?_
  | with_reducible refine z_ifF ?_
  | with_reducible refine z_ifNT ?_
  | with_reducible refine z_ifNF ?_
  | with_reducible refine z_chain ?_
  | with_reducible refine z_nil ?_
  | with_reducible refine z_cons ?_
  | with_reducible refine z_tup ?_
  | with_reducible refine z_lst ?_
  | with_reducible refine z_cb ?_
  | with_reducible refine z_call ?_
  | with_reducible refine z_callS ?_
  | with_reducible refine z_int1 ?_
  | with_reducible refine z_int1b ?_
  | with_reducible refine z_abs ?_
  | with_reducible refine z_gcd ?_
  | with_reducible refine z_ret ?_
  | with_reducible refine z_retN ?_
  | with_reducible refine z_drop ?_
  | with_reducible refine z_next ?_
  | with_reducible refine z_brk ?_
  | with_reducible refine z_cont ?_
  | with_reducible refine z_par ?_
  | with_reducible refine z_two ?_
  | with_reducible refine z_asgT ?_
  | with_reducible refine z_sl ?_
  | with_reducible refine z_noPart ?_
  | with_reducible refine z_part ?_
  | with_reducible refine z_partI ?_
  | with_reducible refine z_gName ?_
  | with_reducible refine z_gcons ?_
  | with_reducible refine z_gnil ?_
  | ((with_reducible refine' z_up ?h ?hm ?_); (case h => walk_at "sq"); (case hm => exact rfl))
  | ((with_reducible refine' z_gT ?h ?hm ?_); (case h => walk_at "sq"); (case hm => exact rfl))
  | with_reducible refine z_isII ?_
  | with_reducible refine z_isNN ?_
  | with_reducible refine z_isNR ?_
  | with_reducible refine z_notNN ?_
  | with_reducible refine z_notNR ?_
  | with_reducible refine z_isIB ?_
  | with_reducible refine z_isBB ?_
  | ((with_reducible refine' z_isT ?h ?_); (case h => walk_at "sq"))
  | ((with_reducible refine' z_isLL ?h ?_); case h => assumption)
  | ((with_reducible refine z_newT ?h ?_); case h => exact Nat.le_of_ble_eq_true rfl)
  | ((with_reducible refine z_newL ?h ?_); case h => exact Nat.le_of_ble_eq_true rfl)
  | ((with_reducible refine' z_ixL ?h ?h2 ?_); (case h => walk_at "sq"); (case h2 => exact rfl))
  | ((with_reducible refine' z_ixT ?h ?h2 ?_); (case h => walk_at "sq"); (case h2 => exact rfl))
  | ((with_reducible refine' z_lenL ?h ?_); case h => walk_at "sq")
  | ((with_reducible refine' z_lenT ?h ?_); case h => walk_at "sq")
  | ((with_reducible refine z_ifYes ?h ?_); (case h => exact rfl))
  | ((with_reducible refine z_ifNo ?h ?_); (case h => exact rfl)))
local macro_rules | `(tactic| walk_at "sq") => `(tactic| first | assumption | exact Or.inl (Or.inl (by assumption)) | exact Or.inl (Or.inl upd_same))
local macro_rules | `(tactic| walk_at "z") => `(tactic| repeat (walk_at "z1"))
/-! ### promises -/
def sp__law_cell (K : PySem.W.Frag) : Sp := fun vs H Q _ => ∃ (l : Addr) (ns : List Int) (j : Nat), vs = [.ref l, .int (j : Int)] ∧ SqL K H l (ns.map V.int) ∧ ∀ v, Q (.int v) H
/-- a stream: three ints, whatever they are -/
def IsStm (H : Hp) (p : Addr) : Prop := ∃ a b m : Int, H p = some (.lst [.int a, .int b, .int m])
def sp__law_stream : Sp := fun vs H Q _ => ∃ c : Int, vs = [.int c] ∧ ∀ p H' a b m, H p = none → Same H H' → H' p = some (.lst [.int a, .int b, .int m]) → Q (.ref p) H'
def sp__law_next : Sp := fun vs H Q _ => ∃ (p : Addr) (z : Int), vs = [.ref p, .int z] ∧ IsStm H p ∧ 0 < z ∧ z.natAbs < 2 ^ 1000 ∧ ∀ v a b m, 0 ≤ v → v < z → Q (.int v) (upd H p (.lst [.int a, .int b, .int m]))
section
theorem ok__law_cell {P : Program} {w : World} {K : PySem.W.Frag} {mg : Str → Option Value} {base : Heap} {A : Nat → Addr} {D : Nat → FuncData} (T : Txt K mg A D) : FnOk P w K mg base (L2.CX P w) 1 (A 4) (D 4) ["script", "k"] (sp__law_cell K) := by
  refine T.F__law_cell.okX sc__law_cell (fun vs H Q E h => ?_) (fun cdv A' outer s H vs Q E hr h => ?_)
  · obtain ⟨l, ns, j, rfl, _⟩ := h
    rfl
  obtain ⟨l, ns, j, rfl, hS, q⟩ := h
  refine ⟨_, (pss_cons (ps_if (pt_cmpR op_lt (pv 1) (pe_callB Z.c_len (by rfl) T.z_len (by decide +kernel) (pa_cons (pv 0) pa_nil)) (nomark _))
  (pss_one (ps_ret (pe_ix ix_list (pv 0) (pv 1) (fun _ _ => rfl))))
  pss_nil)
  (pss_one (ps_ret pe_int))), ?_⟩
  walk_at "z"
  refine z_if (fun hj => ?_) (fun _ => ?_)
  · walk_at "z"
    rw [List.length_map] at hj
    have hj' : j < ns.length := by omega
    refine z_ixL hS (v := .int ns[j]) (atI_nat (by rw [List.getElem?_map, List.getElem?_eq_getElem hj']; rfl)) (q _)
  · walk_at "z"
    exact q 0
theorem ok__law_stream {P : Program} {w : World} {K : PySem.W.Frag} {mg : Str → Option Value} {base : Heap} {A : Nat → Addr} {D : Nat → FuncData} (T : Txt K mg A D) : FnOk P w K mg base (L2.CX P w) 1 (A 5) (D 5) ["cell"] sp__law_stream := by
  refine T.F__law_stream.okX sc__law_stream (fun vs H Q E h => ?_) (fun cdv A' outer s H vs Q E hr h => ?_)
  · obtain ⟨c, rfl, _⟩ := h
    rfl
  obtain ⟨c, rfl, q⟩ := h
  refine ⟨_, (pss_cons (ps_if (pt_cmpR op_ge (pv 0) (Z.pe_powc (v := 1000000000000000000) ⟨by decide, by decide, by decide⟩ (by decide)) (nomark _))
  (pss_one (ps_ret (pe_lst (pa_cons (pv 0) (pa_cons pe_int (pa_cons (pe_op op_mod (pe_callTy Z.c_int (by rfl) T.z_int (by decide +kernel) (pa_cons (pv 0) pa_nil)) pe_int) pa_nil))))))
  pss_nil)
  (pss_one (ps_ret (pe_lst (pa_cons pe_int (pa_cons pe_int (pa_cons (pe_op op_mod (pe_callTy Z.c_int (by rfl) T.z_int (by decide +kernel) (pa_cons (pv 0) pa_nil)) pe_int) pa_nil))))))), ?_⟩
  walk_at "z"
  refine z_if (fun hj => ?_) (fun _ => ?_)
  · walk_at "z"
    exact fun p H' hp s h => q p H' _ _ _ hp s h
  · walk_at "z"
    exact fun p H' hp s h => q p H' _ _ _ hp s h
theorem ok__law_next {P : Program} {w : World} {K : PySem.W.Frag} {mg : Str → Option Value} {base : Heap} {A : Nat → Addr} {D : Nat → FuncData} (T : Txt K mg A D) : FnOk P w K mg base (L2.CX P w) 1 (A 6) (D 6) ["stream", "size"] sp__law_next := by
  refine T.F__law_next.okX sc__law_next (fun vs H Q E h => ?_) (fun cdv A' outer s H vs Q E hr h => ?_)
  · obtain ⟨p, z, rfl, _⟩ := h
    rfl
  obtain ⟨p, z, rfl, ⟨a, b, m, hp⟩, hz, hz2, q⟩ := h
  refine ⟨_, (pss_cons (ps_if (pt_cmpR op_gt (pe_ix ix_list (pv 0) pe_int (fun _ _ => rfl)) pe_int (nomark _))
  (pss_cons (ps_set (i := 2) sc__law_next.nd rfl (.inl rfl) (pe_op op_mod (pe_callTy Z.c_int (by rfl) T.z_int (by decide +kernel) (pa_cons (pe_ix ix_list (pv 0) pe_int (fun _ _ => rfl)) pa_nil)) (pv 1)))
  (pss_cons (ps_asg (pe_op op_fdivW (pe_ix ix_list (pv 0) pe_int (fun _ _ => rfl)) (pv 1)) (pg_sub (pv 0) pe_int set_list))
  (pss_one (ps_ret (pv 2)))))
  pss_nil)
  (pss_cons (ps_asg (pe_op op_add (pe_ix ix_list (pv 0) pe_int (fun _ _ => rfl)) pe_int) (pg_sub (pv 0) pe_int set_list))
  (pss_cons (ps_set (i := 3) sc__law_next.nd rfl (.inl rfl) (pe_op op_mod (pe_callTy Z.c_int (by rfl) T.z_int (by decide +kernel) (pa_cons (pe_op op_add (pe_op op_mul (pe_ix ix_list (pv 0) pe_int (fun _ _ => rfl)) pe_int) (pe_op op_mul (pe_ix ix_list (pv 0) pe_int (fun _ _ => rfl)) pe_int)) pa_nil)) pe_int))
  (pss_cons (ps_set (i := 3) sc__law_next.nd rfl (.inl rfl) (pe_op op_mod (pe_callTy Z.c_int (by rfl) T.z_int (by decide +kernel) (pa_cons (pe_op op_add (pe_op op_mulW (pv 3) (pv 3)) (pe_op op_mul (pe_ix ix_list (pv 0) pe_int (fun _ _ => rfl)) pe_int)) pa_nil)) pe_int))
  (pss_cons (ps_set (i := 3) sc__law_next.nd rfl (.inl rfl) (pe_op op_mod (pe_callTy Z.c_int (by rfl) T.z_int (by decide +kernel) (pa_cons (pe_op op_add (pe_op op_mul (pv 3) pe_int) (pe_ix ix_list (pv 0) pe_int (fun _ _ => rfl))) pa_nil)) pe_int))
  (pss_one (ps_ret (pe_op op_mod (pe_callTy Z.c_int (by rfl) T.z_int (by decide +kernel) (pa_cons (pv 3) pa_nil)) (pv 1))))))))), ?_⟩
  walk_at "z"
  refine z_if (fun hj => ?_) (fun _ => ?_)
  · walk_at "z"
    refine z_I (wide_div hz hz2 (by decide) (by decide)) ?_
    walk_at "z"
    refine z_setL hp rfl ?_
    walk_at "z"
    exact q _ _ _ _ (Int.emod_nonneg _ (by omega)) (Int.emod_lt_of_pos _ hz)
  · walk_at "z"
    refine z_setL hp rfl ?_
    have hp1 : (upd H p (HO.lst ([V.int a, V.int b, V.int m].set (Int.toNat 1) (V.int (b + 1))))) p = some (.lst [V.int a, V.int (b + 1), V.int m]) := upd_same
    walk_at "z"
    refine z_I ?_ ?_
    · exact wide_mul (a := 32) (b := 32) (by omega) (by omega) (by decide) (by decide) (by decide)
    walk_at "z"
    exact q _ _ _ _ (Int.emod_nonneg _ (by omega)) (Int.emod_lt_of_pos _ hz)
end
def sp__law_is_integer : Sp := fun vs H Q _ => ∃ i, vs = [.int i] ∧ Q (.bl true) H
section
theorem ok__law_is_integer {P : Program} {w : World} {K : PySem.W.Frag} {mg : Str → Option Value} {base : Heap} {A : Nat → Addr} {D : Nat → FuncData} (T : Txt K mg A D) : FnOk P w K mg base (L2.CX P w) 1 (A 9) (D 9) ["actual"] sp__law_is_integer := by
  refine T.F__law_is_integer.okX sc__law_is_integer (fun vs H Q E h => ?_) (fun cdv A' outer s H vs Q E hr h => ?_)
  · obtain ⟨i, rfl, _⟩ := h
    rfl
  obtain ⟨i, rfl, q⟩ := h
  refine ⟨_, (pss_one (ps_ret (pe_and (pe_callB call_isi (by rfl) T.z_isinstance (by decide +kernel) (pa_cons (pv 0) (pa_cons (pe_bltn (v := .ty "int") (by rfl) T.z_int (by decide +kernel) rfl) pa_nil))) (pe_one (pe_not (pe_callB call_isi (by rfl) T.z_isinstance (by decide +kernel) (pa_cons (pv 0) (pa_cons (pe_bltn (v := .ty "bool") (by rfl) T.z_bool (by decide +kernel) rfl) pa_nil)))))))), ?_⟩
  walk_at "z"
  exact q
end
theorem isI {i : Int} {H : Hp} {Q : VK} {E : XK} (q : Q (.bl true) H) : sp__law_is_integer [.int i] H Q E := ⟨i, rfl, q⟩
local macro_rules | `(tactic| walk_at "z1") => `(tactic| with_reducible refine isI ?_)

/-! ### numbers in lowest terms -/
theorem gd_pos {n d : Int} (h : d ≠ 0) : 0 < gd n d := by
  unfold gd
  have : 0 < Nat.gcd n.natAbs d.natAbs := Nat.gcd_pos_of_pos_right _ (by omega)
  omega
theorem gd_dvd_l (n d : Int) : gd n d ∣ n := by
  unfold gd
  exact Int.dvd_trans (Int.natCast_dvd_natCast.mpr (Nat.gcd_dvd_left _ _)) (Int.natAbs_dvd_self)
theorem gd_dvd_r (n d : Int) : gd n d ∣ d := by
  unfold gd
  exact Int.dvd_trans (Int.natCast_dvd_natCast.mpr (Nat.gcd_dvd_right _ _)) (Int.natAbs_dvd_self)
theorem rd_pos {n d : Int} (h : d ≠ 0) : 0 < rd n d := by
  have g := gd_pos (n := n) h
  obtain ⟨k, hk⟩ := gd_dvd_r n d
  unfold rd
  split
  · rename_i hd
    have e : -d = gd n d * (-k) := by rw [Int.mul_neg, ← hk]
    rw [e, Int.mul_ediv_cancel_left _ (by omega)]
    have : ¬ 0 ≤ k := fun z => by have := Int.mul_nonneg (Int.le_of_lt g) z; omega
    omega
  · rename_i hd
    have e : d / gd n d = k := Int.ediv_eq_of_eq_mul_right (by omega) hk
    rw [e]
    have : ¬ k ≤ 0 := fun z => by have := Int.mul_nonpos_of_nonneg_of_nonpos (Int.le_of_lt g) z; omega
    omega
/-- what the program divides: by the negative of the common divisor where d is negative -/
theorem fdiv_neg {n g : Int} (hg : 0 < g) (h : g ∣ n) : Int.fdiv n (-g) = -n / g := by
  obtain ⟨k, rfl⟩ := h
  rw [show g * k = (-g) * (-k) by rw [Int.neg_mul_neg], Int.mul_fdiv_cancel_left _ (by omega), Int.neg_mul_neg, show -(g * k) = g * (-k) by rw [Int.mul_neg], Int.mul_ediv_cancel_left _ (by omega)]
theorem fdiv_pos {n g : Int} (hg : 0 < g) : Int.fdiv n g = n / g := Int.fdiv_eq_ediv_of_nonneg _ (by omega)
theorem gd_log {n d : Int} {k : Nat} (h : d ≠ 0) (hd : d.natAbs < 2 ^ k) : (gd n d).natAbs < 2 ^ k := by
  have : Nat.gcd n.natAbs d.natAbs ≤ d.natAbs := Nat.gcd_le_right _ (by omega)
  unfold gd
  omega
theorem cfd {j : Int} (h : j ≠ 0) (hj : j.natAbs < 2 ^ 1000) : CFd 0 j := ⟨h, Nat.lt_of_lt_of_le (PySem.Flt.log2_lt_of (by decide) hj) (by decide)⟩
theorem lt4 {a : Nat} (h : a < 2 ^ 400) : a < 2 ^ 1000 := Nat.lt_of_lt_of_le h (Nat.pow_le_pow_right (by decide) (by decide))
theorem lt1000 {a : Nat} (h : a < 2 ^ 100) : a < 2 ^ 1000 := Nat.lt_of_lt_of_le h (Nat.pow_le_pow_right (by decide) (by decide))



/-! ### the draws of a law: the heap H0 stands, a stream stands at p -/
structure Sd (H0 H : Hp) (p : Addr) : Prop where
  same : Same H0 H
  fresh : H0 p = none
  stm : IsStm H p
theorem Sd.mk0 {H H' : Hp} {p : Addr} {a b m : Int} (h : H p = none) (s : Same H H') (e : H' p = some (.lst [.int a, .int b, .int m])) : Sd H H' p := ⟨s, h, a, b, m, e⟩
theorem Sd.mono {H0 H H' : Hp} {p : Addr} (S : Sd H0 H p) (s : Same H H') : Sd H0 H' p := by
  obtain ⟨a, b, m, e⟩ := S.stm
  exact ⟨S.same.trans s, S.fresh, a, b, m, s _ _ e⟩
theorem nx {H0 H : Hp} {p : Addr} {z : Int} {Q : VK} {E : XK} (S : Sd H0 H p) (hz : 0 < z) (hz2 : z.natAbs < 2 ^ 1000) (q : ∀ v H', 0 ≤ v → v < z → Sd H0 H' p → (∀ b, b ≠ p → H' b = H b) → Q (.int v) H') : sp__law_next [.ref p, .int z] H Q E := by
  refine ⟨p, z, rfl, S.stm, hz, hz2, fun v a b m h0 h1 => q v _ h0 h1 ⟨fun c o e => ?_, S.fresh, a, b, m, upd_same⟩ fun b hb => upd_ne hb⟩
  rw [upd_ne (ne_of_none e S.fresh)]
  exact S.same c o e
theorem Sd.ext {H0 H : Hp} {p q : Addr} {o : HO} (S : Sd H0 H p) (h : H q = none) : Sd H0 (upd H q o) p := by
  obtain ⟨a, b, m, hp⟩ := S.stm
  exact ⟨S.same.trans (same_upd h), S.fresh, a, b, m, by rw [upd_ne (ne_of_none hp h)]; exact hp⟩
theorem kp_refl {p : Addr} {H : Hp} : Kp p H H := fun _ _ _ e => e
theorem _root_.Z.Kp.trans' {p : Addr} {H H1 H2 : Hp} (a : Kp p H H1) (b : Kp p H1 H2) : Kp p H H2 := fun c o h e => b c o h (a c o h e)
theorem kp_eq {p : Addr} {H H' : Hp} (k : ∀ b, b ≠ p → H' b = H b) : Kp p H H' := fun b o h e => by
  rw [k b h]
  exact e
theorem kp_of {p : Addr} {H H' : Hp} (s : Same H H') : Kp p H H' := fun b x _ e => s b x e
theorem Sd.ne {H0 H : Hp} {p q : Addr} {xs : List V} (S : Sd H0 H p) (h : H q = some (.tup xs)) : q ≠ p := by
  obtain ⟨_, _, _, e⟩ := S.stm
  exact ne_of h e (by intro z; cases z)
theorem Sd.ne0 {H0 H : Hp} {p q : Addr} (S : Sd H0 H p) (h : H q = none) : q ≠ p := by
  obtain ⟨_, _, _, e⟩ := S.stm
  exact Ne.symm (ne_of_none e h)
theorem lt400 {a : Nat} (h : a < 2 ^ 100) : a < 2 ^ 400 := Nat.lt_of_lt_of_le h (Nat.pow_le_pow_right (by decide) (by decide))
theorem kp_sd {H0 H H' : Hp} {p : Addr} {K : PySem.W.Frag} {v : V} {d : PyData} (S : Sd H0 H p) (k : Kp p H H') (t : tupOnly d = true) (h : Dp K H v d) : Dp K H' v d := by
  obtain ⟨a, b, m, e⟩ := S.stm
  exact dp_kp k e t h
/-! ### the four operations, and comparing -/






/-! ### grid points -/
abbrev GP := Int × Int
def gD (z : GP) : PyData := .tuple [.int z.1, .int z.2]
/-- both parts within N -/
def Gb (N : Nat) (z : GP) : Prop := z.1.natAbs ≤ N ∧ z.2.natAbs ≤ N
theorem Gb.le {N M : Nat} {z : GP} (h : Gb N z) (l : N ≤ M) : Gb M z := ⟨Nat.le_trans h.1 l, Nat.le_trans h.2 l⟩
theorem dp_g {K : PySem.W.Frag} {H : Hp} {v : V} {z : GP} (h : Dp K H v (gD z)) : ∃ p, v = .ref p ∧ SqT K H p [.int z.1, .int z.2] := by
  obtain ⟨p, v1, v2, e, hS, h1, h2⟩ := dp_t2 h
  rw [dp_int h1, dp_int h2] at hS
  exact ⟨p, e, hS⟩
theorem dp_mkg {K : PySem.W.Frag} {H : Hp} {p : Addr} {x y : Int} (h : H p = some (.tup [.int x, .int y])) : Dp K H (.ref p) (gD (x, y)) := dp_mk h (.cons (.int _) (.cons (.int _) .nil))
theorem dp_seqg {K : PySem.W.Frag} {H : Hp} {p : Addr} {x y : Int} (h : SqT K H p [.int x, .int y]) : Dp K H (.ref p) (gD (x, y)) := .tup h (.cons (.int _) (.cons (.int _) .nil))
/-- values that stand for grid points -/
def Gs (K : PySem.W.Frag) (H : Hp) : List V → List GP → Prop
  | [], [] => True
  | v :: vs, z :: zs => Dp K H v (gD z) ∧ Gs K H vs zs
  | _, _ => False
section
variable {K : PySem.W.Frag} {H H' : Hp}
theorem Gs.len : ∀ {vs : List V} {zs : List GP}, Gs K H vs zs → vs.length = zs.length
  | [], [], _ => rfl
  | _ :: _, _ :: _, h => congrArg (· + 1) (Gs.len h.2)
theorem Gs.mono (s : Same H H') : ∀ {vs : List V} {zs : List GP}, Gs K H vs zs → Gs K H' vs zs
  | [], [], _ => trivial
  | _ :: _, _ :: _, h => ⟨dp_mono s h.1, Gs.mono s h.2⟩
theorem Gs.kp {p : Addr} {xs : List V} (k : Kp p H H') (hp : H p = some (.lst xs)) : ∀ {vs : List V} {zs : List GP}, Gs K H vs zs → Gs K H' vs zs
  | [], [], _ => trivial
  | _ :: _, _ :: _, h => ⟨dp_kp k hp rfl h.1, Gs.kp k hp h.2⟩
theorem Gs.app : ∀ {vs ws : List V} {zs us : List GP}, Gs K H vs zs → Gs K H ws us → Gs K H (vs ++ ws) (zs ++ us)
  | [], _, [], _, _, k => k
  | _ :: _, _, _ :: _, _, h, k => ⟨h.1, Gs.app h.2 k⟩
theorem Gs.get {vs : List V} {zs : List GP} {i : Nat} {z : GP} (h : Gs K H vs zs) (e : zs[i]? = some z) : ∃ v, vs[i]? = some v ∧ Dp K H v (gD z) := by
  induction vs generalizing zs i with
  | nil =>
    cases zs with
    | nil => simp at e
    | cons => exact h.elim
  | cons w ws ih =>
    cases zs with
    | nil => exact h.elim
    | cons u us =>
      cases i with
      | zero =>
        cases e
        exact ⟨w, rfl, h.1⟩
      | succ i => exact ih h.2 (by simpa using e)
theorem Gs.getv {vs : List V} {zs : List GP} {i : Nat} {v : V} (h : Gs K H vs zs) (e : vs[i]? = some v) : ∃ z, zs[i]? = some z ∧ Dp K H v (gD z) := by
  have hi : i < vs.length := (List.getElem?_eq_some_iff.mp e).1
  obtain ⟨w, hw, d⟩ := h.get (z := zs[i]'(by rw [← h.len]; exact hi)) (List.getElem?_eq_getElem _)
  rw [e] at hw
  cases hw
  exact ⟨_, List.getElem?_eq_getElem _, d⟩
theorem Gs.data : ∀ {vs : List V} {zs : List GP}, Gs K H vs zs → DpAll K H vs (zs.map gD)
  | [], [], _ => .nil
  | _ :: _, _ :: _, h => .cons h.1 (Gs.data h.2)
theorem gs_nil : Gs K H [] [] := trivial
theorem gs_one {v : V} {z : GP} (h : Dp K H v (gD z)) : Gs K H [v] [z] := ⟨h, trivial⟩
end
/-! ### drawn outlines -/
def sp__law_coordinate : Sp := fun vs H Q _ => ∃ (p : Addr) (H0 : Hp) (m : Int), vs = [.ref p, .int m] ∧ Sd H0 H p ∧ ∀ (v : Int) (H' : Hp), v.natAbs ≤ 500000000000 → Sd H0 H' p → (∀ b, b ≠ p → H' b = H b) → Q (.int v) H'
section
theorem ok__law_coordinate {P : Program} {w : World} {K : PySem.W.Frag} {mg : Str → Option Value} {base : Heap} {A : Nat → Addr} {D : Nat → FuncData} (T : Txt K mg A D) : FnOk P w K mg base (L2.CX P w) 2 (A 7) (D 7) ["stream", "mode"] sp__law_coordinate := by
  refine T.F__law_coordinate.okX sc__law_coordinate (fun vs H Q E h => ?_) (fun cdv A' outer s H vs Q E hr h => ?_)
  · obtain ⟨p, H0, m, rfl, _⟩ := h
    rfl
  obtain ⟨p, H0, m, rfl, S, q⟩ := h
  refine ⟨_, (pss_cons (ps_if (pt_cmpR op_eq (pv 1) pe_int (nomark _))
  (pss_one (ps_ret (pe_op op_sub (pe_op op_mul pe_int (pe_call (ok__law_next T) (hr.mono (by decide)) (by rfl) T.m__law_next T.F__law_next.kp T.b__law_next .nil (passes_call (takes_of rfl rfl rfl rfl) (fun _ _ _ _ h => h)) (pa_cons (pv 0) (pa_cons pe_int pa_nil)))) pe_int)))
  pss_nil)
  (pss_cons (ps_if (pt_cmpR op_eq (pv 1) pe_int (nomark _))
  (pss_one (ps_ret (pe_op op_sub (pe_call (ok__law_next T) (hr.mono (by decide)) (by rfl) T.m__law_next T.F__law_next.kp T.b__law_next .nil (passes_call (takes_of rfl rfl rfl rfl) (fun _ _ _ _ h => h)) (pa_cons (pv 0) (pa_cons pe_int pa_nil))) pe_int)))
  pss_nil)
  (pss_cons (ps_if (pt_cmpR op_eq (pv 1) pe_int (nomark _))
  (pss_one (ps_ret (pe_op op_sub (pe_call (ok__law_next T) (hr.mono (by decide)) (by rfl) T.m__law_next T.F__law_next.kp T.b__law_next .nil (passes_call (takes_of rfl rfl rfl rfl) (fun _ _ _ _ h => h)) (pa_cons (pv 0) (pa_cons pe_int pa_nil))) pe_int)))
  pss_nil)
  (pss_cons (ps_if (pt_cmpR op_eq (pv 1) pe_int (nomark _))
  (pss_one (ps_ret (pe_op op_sub (pe_op op_mul pe_int (pe_call (ok__law_next T) (hr.mono (by decide)) (by rfl) T.m__law_next T.F__law_next.kp T.b__law_next .nil (passes_call (takes_of rfl rfl rfl rfl) (fun _ _ _ _ h => h)) (pa_cons (pv 0) (pa_cons pe_int pa_nil)))) pe_int)))
  pss_nil)
  (pss_one (ps_ret (pe_op op_sub (pe_call (ok__law_next T) (hr.mono (by decide)) (by rfl) T.m__law_next T.F__law_next.kp T.b__law_next .nil (passes_call (takes_of rfl rfl rfl rfl) (fun _ _ _ _ h => h)) (pa_cons (pv 0) (pa_cons (Z.pe_powc (v := 1000000000000) ⟨by decide, by decide, by decide⟩ (by decide)) pa_nil))) (pe_op op_mul pe_int (Z.pe_powc (v := 100000000000) ⟨by decide, by decide, by decide⟩ (by decide)))))))))), ?_⟩
  walk_at "z"
  refine z_if (fun _ => ?_) (fun _ => ?_)
  · walk_at "z"
    refine nx S (by decide) (lt1000 (by decide)) fun v H1 v0 v1 S1 e1 => ?_
    walk_at "z"
    exact q _ _ (by omega) S1 e1
  walk_at "z"
  refine z_if (fun _ => ?_) (fun _ => ?_)
  · walk_at "z"
    refine nx S (by decide) (lt1000 (by decide)) fun v H1 v0 v1 S1 e1 => ?_
    walk_at "z"
    exact q _ _ (by omega) S1 e1
  walk_at "z"
  refine z_if (fun _ => ?_) (fun _ => ?_)
  · walk_at "z"
    refine nx S (by decide) (lt1000 (by decide)) fun v H1 v0 v1 S1 e1 => ?_
    walk_at "z"
    exact q _ _ (by omega) S1 e1
  walk_at "z"
  refine z_if (fun _ => ?_) (fun _ => ?_)
  · walk_at "z"
    refine nx S (by decide) (lt1000 (by decide)) fun v H1 v0 v1 S1 e1 => ?_
    walk_at "z"
    exact q _ _ (by omega) S1 e1
  · walk_at "z"
    refine nx S (by decide) (lt1000 (by decide)) fun v H1 v0 v1 S1 e1 => ?_
    walk_at "z"
    exact q _ _ (by omega) S1 e1
end
/-- a drawn outline: count points, then the first one again -/
def Drawn (zs : List GP) (n : Nat) : Prop := zs.length = n + 1 ∧ (∀ z ∈ zs, Gb 500000000000 z) ∧ zs[n]? = zs[0]?
def sp__law_outline (K : PySem.W.Frag) : Sp := fun vs H Q _ => ∃ (p : Addr) (H0 : Hp) (n : Nat) (m : Int), vs = [.ref p, .int (n : Int), .int m] ∧ Sd H0 H p ∧ 1 ≤ n ∧ n ≤ 100 ∧ 0 < m ∧ m < 100 ∧
  ∀ (q : Addr) (ws : List V) (zs : List GP) (H' : Hp), H q = none → H' q = some (.lst ws) → Gs K H' ws zs → Drawn zs n → Sd H0 H' p → Kp p H H' → Q (.ref q) H'
theorem nat_idx {xs : List V} {k : Nat} {v : V} (h : xs[k]? = some v) : atI xs (k : Int) = some v := atI_nat h
section
theorem ok__law_outline {P : Program} {w : World} {K : PySem.W.Frag} {mg : Str → Option Value} {base : Heap} {A : Nat → Addr} {D : Nat → FuncData} (T : Txt K mg A D) : FnOk P w K mg base (L2.CX P w) 3 (A 8) (D 8) ["stream", "count", "modes"] (sp__law_outline K) := by
  refine T.F__law_outline.okX sc__law_outline (fun vs H Q E h => ?_) (fun cdv A' outer s H vs Q E hr h => ?_)
  · obtain ⟨p, H0, n, m, rfl, _⟩ := h
    rfl
  obtain ⟨p, H0, n, m, rfl, S, hn, hn2, hm, hm2, q⟩ := h
  refine ⟨_, (pss_cons (ps_set (i := 3) sc__law_outline.nd rfl (.inl rfl) (pe_call (ok__law_next T) (hr.mono (by decide)) (by rfl) T.m__law_next T.F__law_next.kp T.b__law_next .nil (passes_call (takes_of rfl rfl rfl rfl) (fun _ _ _ _ h => h)) (pa_cons (pv 0) (pa_cons (pv 2) pa_nil))))
  (pss_cons (ps_set (i := 4) sc__law_outline.nd rfl (.inl rfl) (pe_lst pa_nil))
  (pss_cons (ps_for (passes_of rfl) rfl (pi_range1 (by rfl) T.z_range (pa_cons (pv 1) pa_nil)) (pg_name (i := 5) sc__law_outline.nd rfl (.inl rfl))
  (pss_cons (ps_set (i := 6) sc__law_outline.nd rfl (.inl rfl) (pe_call (ok__law_coordinate T) (hr.mono (by decide)) (by rfl) T.m__law_coordinate T.F__law_coordinate.kp T.b__law_coordinate .nil (passes_call (takes_of rfl rfl rfl rfl) (fun _ _ _ _ h => h)) (pa_cons (pv 0) (pa_cons (pv 3) pa_nil))))
  (pss_cons (ps_set (i := 7) sc__law_outline.nd rfl (.inl rfl) (pe_call (ok__law_coordinate T) (hr.mono (by decide)) (by rfl) T.m__law_coordinate T.F__law_coordinate.kp T.b__law_coordinate .nil (passes_call (takes_of rfl rfl rfl rfl) (fun _ _ _ _ h => h)) (pa_cons (pv 0) (pa_cons (pv 3) pa_nil))))
  (pss_cons (ps_set (i := 8) sc__law_outline.nd rfl (.inl rfl) (pe_call (ok__law_next T) (hr.mono (by decide)) (by rfl) T.m__law_next T.F__law_next.kp T.b__law_next .nil (passes_call (takes_of rfl rfl rfl rfl) (fun _ _ _ _ h => h)) (pa_cons (pv 0) (pa_cons pe_int pa_nil))))
  (Evl.pss_cut (ps_if (PW.pt (pw_and (pt_cmpR op_gt (pv 5) pe_int (nomark _)) (pw_and1 (pt_cmpR op_lt (pv 8) pe_int (nomark _)))))
  (pss_one (ps_set (i := 7) sc__law_outline.nd rfl (.inl rfl) (pe_ix ix_tup (pe_ix ix_list (pv 4) (pe_op op_sub (pv 5) pe_int) (fun _ _ => rfl)) pe_int (fun _ _ => rfl))))
  pss_nil)
  (Evl.pss_cut (ps_if (PW.pt (pw_or (PW.pt (pw_and (pt_cmpR op_gt (pv 5) pe_int (nomark _)) (pw_and1 (pt_cmpR op_eq (pv 8) pe_int (nomark _))))) (pw_or1 (PW.pt (pw_and (pt_cmpR op_gt (pv 5) pe_int (nomark _)) (pw_and1 (pt_cmpR op_eq (pv 8) pe_int (nomark _))))))))
  (pss_one (ps_set (i := 6) sc__law_outline.nd rfl (.inl rfl) (pe_ix ix_tup (pe_ix ix_list (pv 4) (pe_op op_sub (pv 5) pe_int) (fun _ _ => rfl)) pe_int (fun _ _ => rfl))))
  pss_nil)
  (pss_one (ps_expr (pe_bm PySem.F.plainAttrs_list PySem.F.slot_list_append PySem.F.type_list_append mt_append (pv 4) (pa_cons (pe_tup (pa_cons (pv 6) (pa_cons (pv 7) pa_nil))) pa_nil))))))))))
  (pss_cons (ps_expr (pe_bm PySem.F.plainAttrs_list PySem.F.slot_list_append PySem.F.type_list_append mt_append (pv 4) (pa_cons (pe_ix ix_list (pv 4) pe_int (fun _ _ => rfl)) pa_nil)))
  (pss_one (ps_ret (pv 4))))))), ?_⟩
  walk_at "z"
  refine nx S hm (lt1000 (Nat.lt_of_le_of_lt (show m.natAbs ≤ 100 by omega) (by decide))) fun mo H1 _ _ S1 e1 => ?_
  walk_at "z"
  intro l H2 f2 s2 h2
  have S2 := S1.mono s2
  have hlp : l ≠ p := fun z => by
    obtain ⟨_, _, _, e⟩ := S1.stm
    rw [z, e] at f2
    cases f2
  have hHl : H l = none := by
    rw [← e1 l hlp]
    exact f2
  have k2 : Kp p H H2 := (kp_eq e1).trans' (kp_of s2)
  have hl0 : H0 l = none := by
    cases z : H0 l with
    | none => rfl
    | some o => rw [S1.same _ _ z] at f2; cases f2
  walk_at "z"
  refine z_forR1 n (by omega) (fun R q => by walk_at "z"; exact q) (fun i σ' H' => Sd H0 H' p ∧ Kp p H H' ∧ ∃ (ws : List V) (zs : List GP) (w1 w2 w3 w4 : Option V), σ' = [some (.ref p), some (.int (n : Int)), some (.int m), some (.int mo), some (.ref l), w1, w2, w3, w4] ∧ H' l = some (.lst ws) ∧ Gs K H' ws zs ∧ zs.length = i ∧ ∀ z ∈ zs, Gb 500000000000 z)
    ⟨S2, k2, [], [], _, _, _, _, rfl, h2, gs_nil, rfl, fun z hz => by simp at hz⟩ ?_ ?_
  · rintro i σ' H3 hi ⟨S3, k3, ws, zs, w1, w2, w3, w4, rfl, hl3, g3, hz, hb⟩
    have hw : ws.length = i := by rw [g3.len, hz]
    walk_at "z"
    refine ⟨p, H0, mo, rfl, S3, fun x H4 bx S4 e4 => ?_⟩
    walk_at "z"
    refine ⟨p, H0, mo, rfl, S4, fun y H5 by' S5 e5 => ?_⟩
    walk_at "z"
    refine nx S5 (by decide) (lt1000 (by decide)) fun sm H6 _ _ S6 e6 => ?_
    obtain ⟨_, _, _, st3⟩ := S3.stm
    have e36 : ∀ b, b ≠ p → H6 b = H3 b := fun b h => ((e6 b h).trans (e5 b h)).trans (e4 b h)
    have k6 : Kp p H3 H6 := kp_eq e36
    have g6 := g3.kp k6 st3
    have hl6 : H6 l = some (.lst ws) := by rw [e36 l hlp]; exact hl3
    have k6' := k3.trans' k6
    clear S4 S5 e4 e5 e6 e36 k6 g3 hl3 st3 S3 k3 S2 S1 S e1 k2 f2 s2 h2
    walk_at "z"
    refine z_cut (fun σ' H' => H' = H6 ∧ ∃ (y : Int), σ' = [some (.ref p), some (.int (n : Int)), some (.int m), some (.int mo), some (.ref l), some (.int (i : Int)), some (.int x), some (.int y), some (.int sm)] ∧ y.natAbs ≤ 500000000000) ?_ ?_
    · walk_at "z"
      refine z_if (fun c => ?_) (fun c => ?_)
      · walk_at "z"
        refine z_if (fun c2 => ?_) (fun c2 => ?_)
        · obtain ⟨v, hv, dv⟩ := g6.get (i := i - 1) (z := zs[i - 1]'(by omega)) (List.getElem?_eq_getElem _)
          have bv := hb _ (List.getElem_mem (h := show i - 1 < zs.length by omega))
          obtain ⟨pv, rfl, hpv⟩ := dp_g dv
          walk_at "z"
          refine z_ixL (.inl (.inl hl6)) (v := .ref pv) (by rw [show (i : Int) - 1 = ((i - 1 : Nat) : Int) by omega]; exact nat_idx hv) ?_
          walk_at "z"
          exact ⟨rfl, _, rfl, bv.2⟩
        · walk_at "z"
          exact ⟨rfl, _, rfl, by'⟩
      · walk_at "z"
        exact ⟨rfl, _, rfl, by'⟩
    rintro σ' H7 ⟨rfl, y, rfl, by2⟩
    clear by'
    walk_at "z"
    refine z_cut (fun σ' H' => H' = H7 ∧ ∃ (x : Int), σ' = [some (.ref p), some (.int (n : Int)), some (.int m), some (.int mo), some (.ref l), some (.int (i : Int)), some (.int x), some (.int y), some (.int sm)] ∧ x.natAbs ≤ 500000000000) ?_ ?_
    · have prev : (0 : Int) < (i : Int) → ∃ (pv : Addr) (z : GP), atI ws ((i : Int) - 1) = some (.ref pv) ∧ SqT K H7 pv [.int z.1, .int z.2] ∧ Gb 500000000000 z := fun c => by
        obtain ⟨v, hv, dv⟩ := g6.get (i := i - 1) (z := zs[i - 1]'(by omega)) (List.getElem?_eq_getElem _)
        have bv := hb _ (List.getElem_mem (h := show i - 1 < zs.length by omega))
        obtain ⟨pv, rfl, hpv⟩ := dp_g dv
        exact ⟨pv, _, by rw [show (i : Int) - 1 = ((i - 1 : Nat) : Int) by omega]; exact nat_idx hv, hpv, bv⟩
      walk_at "z"
      refine z_if (fun c => ?_) (fun c => ?_)
      · obtain ⟨pv, z, e1, e2, bz⟩ := prev c
        walk_at "z"
        refine z_if (fun c2 => ?_) (fun c2 => ?_)
        · walk_at "z"
          refine z_ixL (.inl (.inl hl6)) e1 ?_
          walk_at "z"
          exact ⟨rfl, _, rfl, bz.1⟩
        · walk_at "z"
          refine z_if (fun c3 => ?_) (fun c3 => absurd c c3)
          walk_at "z"
          refine z_if (fun c4 => ?_) (fun c4 => ?_)
          · walk_at "z"
            refine z_ixL (.inl (.inl hl6)) e1 ?_
            walk_at "z"
            exact ⟨rfl, _, rfl, bz.1⟩
          · walk_at "z"
            exact ⟨rfl, _, rfl, bx⟩
      · walk_at "z"
        refine z_if (fun c3 => absurd c3 c) (fun c3 => ?_)
        walk_at "z"
        exact ⟨rfl, _, rfl, bx⟩
    clear bx
    rintro σ' H8 ⟨rfl, x, rfl, bx⟩
    walk_at "z"
    refine z_bmL (fun R q => by walk_at "z"; exact q) hl6 ?_
    walk_at "z"
    intro p9 H9 f9 s9 h9
    have S9 := S6.mono s9
    have hl9 := s9 _ _ hl6
    walk_at "z"
    refine z_append hl9 (by omega) ?_
    walk_at "z"
    have g9 : Gs K H9 (ws ++ [.ref p9]) (zs ++ [(x, y)]) := (g6.mono s9).app (gs_one (dp_mkg h9))
    obtain ⟨a9, b9, m9, st9⟩ := S9.stm
    have ks : Kp l H9 (upd H9 l (.lst (ws ++ [.ref p9]))) := fun b o hb e => by rw [upd_ne hb]; exact e
    have so : Same H0 (upd H9 l (.lst (ws ++ [.ref p9]))) := fun b o e => by
      rw [upd_ne (fun z => by rw [z, hl0] at e; cases e)]
      exact S9.same b o e
    refine ⟨⟨so, S9.fresh, a9, b9, m9, by rw [upd_ne (Ne.symm hlp)]; exact st9⟩, fun b o hb e => ?_, _, _, _, _, _, _, rfl, upd_same, g9.kp ks hl9, by simp [hz], fun z hz' => ?_⟩
    · rw [upd_ne (fun z => by rw [z, hHl] at e; cases e)]
      exact s9 b o (k6' b o hb e)
    · rcases List.mem_append.mp hz' with z1 | z1
      · exact hb z z1
      · rw [List.mem_singleton.mp z1]
        exact ⟨bx, by2⟩
  · rintro σ' H3 ⟨S3, k3, ws, zs, w1, w2, w3, w4, rfl, hl3, g3, hz, hb⟩
    have hw : ws.length = n := by rw [g3.len, hz]
    walk_at "z"
    refine z_bmL (fun R q => by walk_at "z"; exact q) hl3 ?_
    walk_at "z"
    obtain ⟨z0, hz0⟩ : ∃ z0, zs[0]? = some z0 := ⟨_, List.getElem?_eq_getElem (show 0 < zs.length by omega)⟩
    obtain ⟨v, hv, dv⟩ := g3.get hz0
    refine z_ixL (.inl (.inl hl3)) (nat_idx hv) ?_
    walk_at "z"
    refine z_append hl3 (by omega) ?_
    walk_at "z"
    have g9 : Gs K H3 (ws ++ [v]) (zs ++ [z0]) := g3.app (gs_one dv)
    obtain ⟨a9, b9, m9, st9⟩ := S3.stm
    have ks : Kp l H3 (upd H3 l (.lst (ws ++ [v]))) := fun b o hb e => by rw [upd_ne hb]; exact e
    have so : Same H0 (upd H3 l (.lst (ws ++ [v]))) := fun b o e => by
      rw [upd_ne (fun z => by rw [z, hl0] at e; cases e)]
      exact S3.same b o e
    refine q l _ _ _ hHl upd_same (g9.kp ks hl3) ⟨by simp [hz], fun z hz' => ?_, ?_⟩ ⟨so, S3.fresh, a9, b9, m9, by rw [upd_ne (Ne.symm hlp)]; exact st9⟩ (fun b o hb e => ?_)
    · rcases List.mem_append.mp hz' with z1 | z1
      · exact hb z z1
      · rw [List.mem_singleton.mp z1]
        exact hb _ (List.mem_of_getElem? hz0)
    · rw [List.getElem?_append_right (by omega), List.getElem?_append_left (by omega), hz, Nat.sub_self, hz0]
      rfl
    · rw [upd_ne (fun z => by rw [z, hHl] at e; cases e)]
      exact k3 b o hb e
end
/-- a grid point near an outline -/
def sp__law_near (K : PySem.W.Frag) : Sp := fun vs H Q _ => ∃ (p o : Addr) (H0 : Hp) (ws : List V) (zs : List GP), vs = [.ref p, .ref o] ∧ Sd H0 H p ∧ H0 o = some (.lst ws) ∧ Gs K H ws zs ∧ (∀ z ∈ zs, Gb 500000000000 z) ∧ 1 ≤ ws.length ∧ ws.length ≤ 200 ∧
  ∀ (v : V) (z : GP) (H' : Hp), Dp K H' v (gD z) → Gb 600000000000 z → Sd H0 H' p → Kp p H H' → Q v H'
theorem idx_nat {xs : List V} {j : Int} (h0 : 0 ≤ j) (h1 : j < (xs.length : Int)) : ∃ v, xs[j.toNat]? = some v ∧ atI xs j = some v := by
  have hl : j.toNat < xs.length := by omega
  obtain ⟨v, hv⟩ : ∃ v, xs[j.toNat]? = some v := ⟨_, List.getElem?_eq_getElem hl⟩
  refine ⟨v, hv, ?_⟩
  have := nat_idx hv
  rwa [Int.toNat_of_nonneg h0] at this
section
end
/-- all but p -/
def hide (p : Addr) (H : Hp) : Hp := fun b => if b = p then none else H b
theorem same_hide {p : Addr} {H : Hp} : Same (hide p H) H := fun b o e => by
  unfold hide at e
  split at e
  · cases e
  · exact e
theorem hide_at {p b : Addr} {H : Hp} (h : b ≠ p) : hide p H b = H b := if_neg h
theorem Sd.hid {H0 H : Hp} {p : Addr} (S : Sd H0 H p) : Sd (hide p H) H p := ⟨same_hide, if_pos rfl, S.stm⟩
/-! ### crossings -/
def left (a b : GP) (x y : Int) : Prop := (b.1 - a.1) * (y - a.2) ≤ (x - a.1) * (b.2 - a.2)
instance {a b : GP} {x y : Int} : Decidable (left a b x y) := by unfold left; infer_instance
def crs (a b : GP) (x y : Int) : Int := if a.2 ≤ y ∧ y < b.2 ∧ left a b x y then -1 else if b.2 ≤ y ∧ y < a.2 ∧ left b a x y then 1 else 0
/-- a grid point within 10 ^ 13 -/
abbrev Gm (z : GP) : Prop := Gb 10000000000000 z
theorem gm_sub {a b : Int} (h : a.natAbs ≤ 10000000000000) (k : b.natAbs ≤ 10000000000000) : (a - b).natAbs < 2 ^ 60 := Nat.lt_of_le_of_lt (show (a - b).natAbs ≤ 20000000000000 by omega) (by decide)
theorem gm_mul {a b : Int} (h : a.natAbs < 2 ^ 60) (k : b.natAbs < 2 ^ 60) : CMulW a b := wide_mul h k (by decide) (by decide) (by decide)

theorem nep' {Ha Hb : Hp} {p q : Addr} (h : Hb q = none) (S : Sd Ha Hb p) : q ≠ p := fun z => by
  obtain ⟨_, _, _, e⟩ := S.stm
  rw [← z, h] at e
  cases e
theorem shaped_g (z : GP) : SeqAt.shaped (gD z) = true := rfl
theorem dp_gs {K : PySem.W.Frag} {H : Hp} {p : Addr} {ws : List V} {zs : List GP} (h : H p = some (.lst ws)) (g : Gs K H ws zs) : Dp K H (.ref p) (.list (zs.map gD)) := .lst (.inl (.inl h)) g.data
theorem shaped_gs (zs : List GP) : SeqAt.shaped (.list (zs.map gD)) = true := by
  have h1 : PyData.canLayAll0 (zs.map gD) = true := by
    induction zs with
    | nil => rfl
    | cons z zs ih =>
      show (PyData.canLay0 (gD z) && PyData.canLayAll0 (zs.map gD)) = true
      rw [ih]
      rfl
  have h2 : PyData.depthAll (zs.map gD) ≤ 1 := by
    induction zs with
    | nil => exact Nat.zero_le 1
    | cons z zs ih =>
      have h1' : PyData.canLayAll0 (zs.map gD) = true := by
        have h1 : (PyData.canLay0 (gD z) && PyData.canLayAll0 (zs.map gD)) = true := h1
        exact ((Bool.and_eq_true _ _).mp h1).2
      have := ih h1'
      show max (PyData.depth (gD z)) (PyData.depthAll (zs.map gD)) ≤ 1
      have e : PyData.depth (gD z) = 1 := rfl
      omega
  unfold SeqAt.shaped
  rw [Bool.and_eq_true]
  refine ⟨h1, decide_eq_true ?_⟩
  show PyData.depthAll (zs.map gD) + 1 ≤ 64
  omega
/-! ### curves laid out -/
def small (b : Int) : Bool := decide (-16 ≤ b) && decide (b ≤ 16)
def flat (a b c : GP) : Bool := small (a.1 - 2 * b.1 + c.1) && small (a.2 - 2 * b.2 + c.2)
def mid (p q : GP) : GP := ((p.1 + q.1) / 2, (p.2 + q.2) / 2)
def lay : Nat → GP → GP → GP → GP → List GP
  | 0, _, _, _, d => [d]
  | r + 1, a, b, c, d => if (flat a b c && flat b c d) = true then [d] else
    lay r a (mid a b) (mid (mid a b) (mid b c)) (mid (mid (mid a b) (mid b c)) (mid (mid b c) (mid c d))) ++
    lay r (mid (mid (mid a b) (mid b c)) (mid (mid b c) (mid c d))) (mid (mid b c) (mid c d)) (mid c d) d
theorem lay_len : ∀ (r : Nat) (a b c d : GP), (lay r a b c d).length ≤ 2 ^ r
  | 0, _, _, _, _ => Nat.le_refl 1
  | r + 1, a, b, c, d => by
    unfold lay
    split
    · exact Nat.one_le_two_pow
    · rw [List.length_append, Nat.pow_succ]
      have h1 := lay_len r a (mid a b) (mid (mid a b) (mid b c)) (mid (mid (mid a b) (mid b c)) (mid (mid b c) (mid c d)))
      have h2 := lay_len r (mid (mid (mid a b) (mid b c)) (mid (mid b c) (mid c d))) (mid (mid b c) (mid c d)) (mid c d) d
      omega
theorem pow5 {r : Nat} (h : r ≤ 5) : 2 ^ r ≤ 32 := Nat.pow_le_pow_right (by decide) h
def sp_is_small : Sp := fun vs H Q _ => ∃ b : Int, vs = [.int b] ∧ Q (.bl (small b)) H
def sp_is_flat (K : PySem.W.Frag) : Sp := fun vs H Q _ => ∃ (u v w : V) (a b c : GP), vs = [u, v, w] ∧ Dp K H u (gD a) ∧ Dp K H v (gD b) ∧ Dp K H w (gD c) ∧ Q (.bl (flat a b c)) H
/-- a new grid point is handed back -/
def RetG (K : PySem.W.Frag) (H : Hp) (z : GP) (Q : VK) : Prop := ∀ v H', Same H H' → Dp K H' v (gD z) → Q v H'
def sp_mid (K : PySem.W.Frag) : Sp := fun vs H Q _ => ∃ (u v : V) (p q : GP), vs = [u, v] ∧ Dp K H u (gD p) ∧ Dp K H v (gD q) ∧ RetG K H (mid p q) Q
section
theorem ok_is_small {P : Program} {w : World} {K : PySem.W.Frag} {mg : Str → Option Value} {base : Heap} {A : Nat → Addr} {D : Nat → FuncData} (T : Txt K mg A D) : FnOk P w K mg base (L2.CX P w) 1 (A 2) (D 2) ["bend"] sp_is_small := by
  refine T.F_is_small.okX sc_is_small (fun vs H Q E h => ?_) (fun cdv A' outer s H vs Q E hr h => ?_)
  · obtain ⟨b, rfl, _⟩ := h
    rfl
  obtain ⟨b, rfl, q⟩ := h
  refine ⟨_, (pss_one (ps_ret (pe_chain op_le op_le (pe_un un_neg (Z.pe_globE T.c_MOST_BENT)) (pv 0) (Z.pe_globE T.c_MOST_BENT)))), ?_⟩
  walk_at "z"
  refine z_chK (k' := decide (b ≤ 16)) (fun _ R q => by walk_at "z"; exact q) ?_
  exact q
theorem ok_is_flat {P : Program} {w : World} {K : PySem.W.Frag} {mg : Str → Option Value} {base : Heap} {A : Nat → Addr} {D : Nat → FuncData} (T : Txt K mg A D) : FnOk P w K mg base (L2.CX P w) 2 (A 1) (D 1) ["a", "b", "c"] (sp_is_flat K) := by
  refine T.F_is_flat.okX sc_is_flat (fun vs H Q E h => ?_) (fun cdv A' outer s H vs Q E hr h => ?_)
  · obtain ⟨u, v, w', a, b, c, rfl, _⟩ := h
    rfl
  obtain ⟨_, _, _, a, b, c, rfl, da, db, dc, q⟩ := h
  obtain ⟨pa, rfl, ha⟩ := dp_g da
  obtain ⟨pb, rfl, hb⟩ := dp_g db
  obtain ⟨pc, rfl, hc⟩ := dp_g dc
  refine ⟨_, (pss_one (ps_ret (pe_and (pe_call (ok_is_small T) (hr.mono (by decide)) (by rfl) T.m_is_small T.F_is_small.kp T.b_is_small .nil (passes_call (takes_of rfl rfl rfl rfl) (fun _ _ _ _ h => h)) (pa_cons (pe_op op_add (pe_op op_sub (pe_ix ix_tup (pv 0) pe_int (fun _ _ => rfl)) (pe_op op_mul pe_int (pe_ix ix_tup (pv 1) pe_int (fun _ _ => rfl)))) (pe_ix ix_tup (pv 2) pe_int (fun _ _ => rfl))) pa_nil)) (pe_one (pe_call (ok_is_small T) (hr.mono (by decide)) (by rfl) T.m_is_small T.F_is_small.kp T.b_is_small .nil (passes_call (takes_of rfl rfl rfl rfl) (fun _ _ _ _ h => h)) (pa_cons (pe_op op_add (pe_op op_sub (pe_ix ix_tup (pv 0) pe_int (fun _ _ => rfl)) (pe_op op_mul pe_int (pe_ix ix_tup (pv 1) pe_int (fun _ _ => rfl)))) (pe_ix ix_tup (pv 2) pe_int (fun _ _ => rfl))) pa_nil)))))), ?_⟩
  walk_at "z"
  refine ⟨_, rfl, ?_⟩
  walk_at "z"
  refine z_andKV (k' := small (a.2 - 2 * b.2 + c.2)) (fun _ R q => by
    walk_at "z"
    refine ⟨_, rfl, ?_⟩
    exact q) ?_
  exact q
theorem ok_middle {P : Program} {w : World} {K : PySem.W.Frag} {mg : Str → Option Value} {base : Heap} {A : Nat → Addr} {D : Nat → FuncData} (T : Txt K mg A D) : FnOk P w K mg base (L2.CX P w) 1 (A 3) (D 3) ["p", "q"] (sp_mid K) := by
  refine T.F_middle.okX sc_middle (fun vs H Q E h => ?_) (fun cdv A' outer s H vs Q E hr h => ?_)
  · obtain ⟨u, v, a, b, rfl, _⟩ := h
    rfl
  obtain ⟨_, _, a, b, rfl, da, db, q⟩ := h
  obtain ⟨pa, rfl, ha⟩ := dp_g da
  obtain ⟨pb, rfl, hb⟩ := dp_g db
  refine ⟨_, (pss_one (ps_ret (pe_tup (pa_cons (pe_op op_fdivW (pe_op op_add (pe_ix ix_tup (pv 0) pe_int (fun _ _ => rfl)) (pe_ix ix_tup (pv 1) pe_int (fun _ _ => rfl))) pe_int) (pa_cons (pe_op op_fdivW (pe_op op_add (pe_ix ix_tup (pv 0) pe_int (fun _ _ => rfl)) (pe_ix ix_tup (pv 1) pe_int (fun _ _ => rfl))) pe_int) pa_nil))))), ?_⟩
  walk_at "z"
  refine z_I (wide_div (b := 2) (by decide) (by decide) (by decide) (by decide)) ?_
  walk_at "z"
  refine z_I (wide_div (b := 2) (by decide) (by decide) (by decide) (by decide)) ?_
  walk_at "z"
  intro p9 H9 _ s9 h9
  exact q _ H9 s9 (dp_mkg h9)
end
theorem midq {K : PySem.W.Frag} {H : Hp} {u v : V} {p q : GP} {Q : VK} {E : XK} (h1 : Dp K H u (gD p)) (h2 : Dp K H v (gD q)) (k : RetG K H (mid p q) Q) : sp_mid K [u, v] H Q E := ⟨u, v, p, q, rfl, h1, h2, k⟩
def spL (K : PySem.W.Frag) : Nat → Sp
  | 0 => fun _ _ _ _ => False
  | r + 1 => fun vs H Q _ => ∃ (v1 v2 v3 v4 : V) (a b c d : GP), vs = [v1, v2, v3, v4, .int (5 - (r : Int))] ∧ r ≤ 5 ∧ Dp K H v1 (gD a) ∧ Dp K H v2 (gD b) ∧ Dp K H v3 (gD c) ∧ Dp K H v4 (gD d) ∧
    ∀ p ws H', H p = none → Same H H' → H' p = some (.lst ws) → Gs K H' ws (lay r a b c d) → Q (.ref p) H'
section
theorem ok_lay_all {P : Program} {w : World} {K : PySem.W.Frag} {mg : Str → Option Value} {base : Heap} {A : Nat → Addr} {D : Nat → FuncData} (T : Txt K mg A D) : ∀ n : Nat, FnOk P w K mg base (L2.CX P w) (n + 3) (A 0) (D 0) ["a", "b", "c", "d", "depth"] (spL K n)
  | 0 => T.F_lay_out.okX (k := 2) sc_lay_out (fun vs H Q E h => h.elim) (fun cdv A' outer s H vs Q E hr h => h.elim)
  | r + 1 => by
    have ih := ok_lay_all (P := P) (w := w) (base := base) T r
    refine T.F_lay_out.okX (k := r + 3) sc_lay_out (fun vs H Q E h => ?_) (fun cdv A' outer s H vs Q E hr h => ?_)
    · obtain ⟨v1, v2, v3, v4, a, b, c, d, rfl, _⟩ := h
      rfl
    obtain ⟨v1, v2, v3, v4, a, b, c, d, rfl, r5, d1, d2, d3, d4, q⟩ := h
    have hlen := Nat.le_trans (lay_len r a b c d) (pow5 r5)
    refine ⟨_, (pss_cons (ps_if (PW.pt (pw_or (pt_cmpR op_ge (pv 4) (Z.pe_globE T.c_DEEPEST) (nomark _)) (pw_or1 (PW.pt (pw_and (pt_val (pe_call (ok_is_flat T) (hr.mono (by omega)) (by rfl) T.m_is_flat T.F_is_flat.kp T.b_is_flat .nil (passes_call (takes_of rfl rfl rfl rfl) (fun _ _ _ _ h => h)) (pa_cons (pv 0) (pa_cons (pv 1) (pa_cons (pv 2) pa_nil))))) (pw_and1 (pt_val (pe_call (ok_is_flat T) (hr.mono (by omega)) (by rfl) T.m_is_flat T.F_is_flat.kp T.b_is_flat .nil (passes_call (takes_of rfl rfl rfl rfl) (fun _ _ _ _ h => h)) (pa_cons (pv 1) (pa_cons (pv 2) (pa_cons (pv 3) pa_nil)))))))))))
  (pss_one (ps_ret (pe_lst (pa_cons (pv 3) pa_nil))))
  pss_nil)
  (pss_cons (ps_set (i := 5) sc_lay_out.nd rfl (.inl rfl) (pe_call (ok_middle T) (hr.mono (by omega)) (by rfl) T.m_middle T.F_middle.kp T.b_middle .nil (passes_call (takes_of rfl rfl rfl rfl) (fun _ _ _ _ h => h)) (pa_cons (pv 0) (pa_cons (pv 1) pa_nil))))
  (pss_cons (ps_set (i := 6) sc_lay_out.nd rfl (.inl rfl) (pe_call (ok_middle T) (hr.mono (by omega)) (by rfl) T.m_middle T.F_middle.kp T.b_middle .nil (passes_call (takes_of rfl rfl rfl rfl) (fun _ _ _ _ h => h)) (pa_cons (pv 1) (pa_cons (pv 2) pa_nil))))
  (pss_cons (ps_set (i := 7) sc_lay_out.nd rfl (.inl rfl) (pe_call (ok_middle T) (hr.mono (by omega)) (by rfl) T.m_middle T.F_middle.kp T.b_middle .nil (passes_call (takes_of rfl rfl rfl rfl) (fun _ _ _ _ h => h)) (pa_cons (pv 2) (pa_cons (pv 3) pa_nil))))
  (pss_cons (ps_set (i := 8) sc_lay_out.nd rfl (.inl rfl) (pe_call (ok_middle T) (hr.mono (by omega)) (by rfl) T.m_middle T.F_middle.kp T.b_middle .nil (passes_call (takes_of rfl rfl rfl rfl) (fun _ _ _ _ h => h)) (pa_cons (pv 5) (pa_cons (pv 6) pa_nil))))
  (pss_cons (ps_set (i := 9) sc_lay_out.nd rfl (.inl rfl) (pe_call (ok_middle T) (hr.mono (by omega)) (by rfl) T.m_middle T.F_middle.kp T.b_middle .nil (passes_call (takes_of rfl rfl rfl rfl) (fun _ _ _ _ h => h)) (pa_cons (pv 6) (pa_cons (pv 7) pa_nil))))
  (pss_cons (ps_set (i := 10) sc_lay_out.nd rfl (.inl rfl) (pe_call (ok_middle T) (hr.mono (by omega)) (by rfl) T.m_middle T.F_middle.kp T.b_middle .nil (passes_call (takes_of rfl rfl rfl rfl) (fun _ _ _ _ h => h)) (pa_cons (pv 8) (pa_cons (pv 9) pa_nil))))
  (pss_one (ps_ret (pe_op op_cat (pe_call ih (hr.mono (by omega)) (by rfl) T.m_lay_out T.F_lay_out.kp T.b_lay_out .nil (passes_call (takes_of rfl rfl rfl rfl) (fun _ _ _ _ h => h)) (pa_cons (pv 0) (pa_cons (pv 5) (pa_cons (pv 8) (pa_cons (pv 10) (pa_cons (pe_op op_add (pv 4) pe_int) pa_nil)))))) (pe_call ih (hr.mono (by omega)) (by rfl) T.m_lay_out T.F_lay_out.kp T.b_lay_out .nil (passes_call (takes_of rfl rfl rfl rfl) (fun _ _ _ _ h => h)) (pa_cons (pv 10) (pa_cons (pv 9) (pa_cons (pv 7) (pa_cons (pv 3) (pa_cons (pe_op op_add (pv 4) pe_int) pa_nil)))))))))))))))), ?_⟩
    walk_at "z"
    refine z_orK (k' := flat a b c && flat b c d) (fun _ R q => by
      walk_at "z"
      refine ⟨_, _, _, a, b, c, rfl, d1, d2, d3, ?_⟩
      walk_at "z"
      refine z_andK (k' := flat b c d) (fun _ R q => by
        walk_at "z"
        refine ⟨_, _, _, b, c, d, rfl, d2, d3, d4, ?_⟩
        walk_at "z"
        exact q) q) ?_
    cases r with
    | zero =>
      refine z_ifYes (by simp) ?_
      walk_at "z"
      intro p9 H9 f9 s9 h9
      exact q p9 _ H9 f9 s9 h9 (gs_one (dp_mono s9 d4))
    | succ r =>
      have hd : decide (5 ≤ (5 : Int) - ((r + 1 : Nat) : Int)) = false := decide_eq_false (by omega)
      unfold lay at q hlen
      refine z_ifB (fun cc => ?_) (fun cc => ?_)
      · have cc' : (flat a b c && flat b c d) = true := by
          rcases (Bool.or_eq_true _ _).mp cc with z | z
          · have := of_decide_eq_true z
            omega
          · exact z
        rw [if_pos cc'] at q
        walk_at "z"
        intro p9 H9 f9 s9 h9
        exact q p9 _ H9 f9 s9 h9 (gs_one (dp_mono s9 d4))
      have cc' : ¬ (flat a b c && flat b c d) = true := fun z => by
        rw [z, Bool.or_true] at cc
        cases cc
      rw [if_neg cc'] at q hlen
      rw [List.length_append] at hlen
      walk_at "z"
      refine midq d1 d2 fun ve H1 s1 de => ?_
      walk_at "z"
      refine midq (dp_mono s1 d2) (dp_mono s1 d3) fun vf H2 s2 df => ?_
      walk_at "z"
      have s12 := s1.trans s2
      refine midq (dp_mono s12 d3) (dp_mono s12 d4) fun vg H3 s3 dg => ?_
      walk_at "z"
      refine midq (dp_mono (s2.trans s3) de) (dp_mono s3 df) fun vh H4 s4 dh => ?_
      walk_at "z"
      refine midq (dp_mono (s3.trans s4) df) (dp_mono s4 dg) fun vk H5 s5 dk => ?_
      walk_at "z"
      refine midq (dp_mono s5 dh) dk fun vm H6 s6 dm => ?_
      have s26 := ((s3.trans s4).trans s5).trans s6
      have s16 := (s12.trans s26)
      have e5 : (5 : Int) - ((r + 1 : Nat) : Int) + 1 = 5 - (r : Int) := by omega
      walk_at "z"
      rw [e5]
      refine ⟨_, _, _, _, a, _, _, _, rfl, by omega, dp_mono s16 d1, dp_mono (s2.trans s26) de, dp_mono (s5.trans s6) dh, dm, fun pl wl H7 f7 s7 h7 gl => ?_⟩
      walk_at "z"
      rw [e5]
      refine ⟨_, _, _, _, _, _, _, d, rfl, by omega, dp_mono s7 dm, dp_mono (s6.trans s7) dk, dp_mono (((s4.trans s5).trans s6).trans s7) dg, dp_mono (s16.trans s7) d4, fun pr wr H8 f8 s8 h8 gr => ?_⟩
      have l1 := gl.len
      have l2 := gr.len
      refine z_cat (s8 _ _ h7) h8 (by omega) fun p9 H9 f9 s9 h9 => ?_
      have s17 := (s16.trans s7).trans s8
      refine q p9 _ H9 ?_ (s17.trans s9) h9 ((gl.mono (s8.trans s9)).app (gr.mono s9))
      cases hh : H p9 with
      | none => rfl
      | some o => rw [s17 _ _ hh] at f9; cases f9
def sp_lay_out (K : PySem.W.Frag) : Sp := fun vs H Q E => ∃ n, n ≤ 6 ∧ spL K n vs H Q E
theorem ok_lay_out {P : Program} {w : World} {K : PySem.W.Frag} {mg : Str → Option Value} {base : Heap} {A : Nat → Addr} {D : Nat → FuncData} (T : Txt K mg A D) : FnOk P w K mg base (L2.CX P w) 9 (A 0) (D 0) ["a", "b", "c", "d", "depth"] (sp_lay_out K) where
  len := fun vs H Q E ⟨n, _, h⟩ => (ok_lay_all (P := P) (w := w) (base := base) T n).len vs H Q E h
  run := fun A' outer s H args us vs Q E hr e0 hb r ⟨n, hn, h⟩ => (ok_lay_all (P := P) (w := w) (base := base) T n).run A' outer s H args us vs Q E (hr.mono (by omega)) e0 hb r h
end
/-! ### the law's own laying out -/
def sp__law_is_grid_list (K : PySem.W.Frag) : Sp := fun vs H Q _ => ∃ (p : Addr) (ws : List V) (zs : List GP), vs = [.ref p] ∧ H p = some (.lst ws) ∧ Gs K H ws zs ∧ Q (.bl true) H
section
theorem ok__law_is_grid_list {P : Program} {w : World} {K : PySem.W.Frag} {mg : Str → Option Value} {base : Heap} {A : Nat → Addr} {D : Nat → FuncData} (T : Txt K mg A D) : FnOk P w K mg base (L2.CX P w) 2 (A 10) (D 10) ["actual"] (sp__law_is_grid_list K) := by
  refine T.F__law_is_grid_list.okX sc__law_is_grid_list (fun vs H Q E h => ?_) (fun cdv A' outer s H vs Q E hr h => ?_)
  · obtain ⟨p, ws, zs, rfl, _⟩ := h
    rfl
  obtain ⟨p, ws, zs, rfl, hp, g, q⟩ := h
  refine ⟨_, (pss_cons (ps_if (pt_not (pt_val (pe_callB call_isi (by rfl) T.z_isinstance (by decide +kernel) (pa_cons (pv 0) (pa_cons (pe_bltn (v := .ty "list") (by rfl) T.z_list (by decide +kernel) rfl) pa_nil)))))
  (pss_one (ps_ret pe_bl))
  pss_nil)
  (pss_cons (ps_for (passes_of rfl) rfl (pi_list (pv 0)) (pg_name (i := 1) sc__law_is_grid_list.nd rfl (.inl rfl))
  (pss_cons (ps_if (PW.pt (pw_or (pt_not (pt_val (pe_callB call_isi (by rfl) T.z_isinstance (by decide +kernel) (pa_cons (pv 1) (pa_cons (pe_bltn (v := .ty "tuple") (by rfl) T.z_tuple (by decide +kernel) rfl) pa_nil))))) (pw_or1 (pt_cmpR op_ne (pe_callB Z.c_len (by rfl) T.z_len (by decide +kernel) (pa_cons (pv 1) pa_nil)) pe_int (nomark _)))))
  (pss_one (ps_ret pe_bl))
  pss_nil)
  (pss_one (ps_if (PW.pt (pw_or (pt_not (pt_val (pe_call (ok__law_is_integer T) (hr.mono (by decide)) (by rfl) T.m__law_is_integer T.F__law_is_integer.kp T.b__law_is_integer .nil (passes_call (takes_of rfl rfl rfl rfl) (fun _ _ _ _ h => h)) (pa_cons (pe_ix ix_tup (pv 1) pe_int (fun _ _ => rfl)) pa_nil)))) (pw_or1 (pt_not (pt_val (pe_call (ok__law_is_integer T) (hr.mono (by decide)) (by rfl) T.m__law_is_integer T.F__law_is_integer.kp T.b__law_is_integer .nil (passes_call (takes_of rfl rfl rfl rfl) (fun _ _ _ _ h => h)) (pa_cons (pe_ix ix_tup (pv 1) pe_int (fun _ _ => rfl)) pa_nil)))))))
  (pss_one (ps_ret pe_bl))
  pss_nil))))
  (pss_one (ps_ret pe_bl)))), ?_⟩
  walk_at "z"
  refine z_forL (fun R q => by walk_at "z"; exact q) (.inl (.inl hp)) (fun i σ' H' => H' = H ∧ ∃ w, σ' = [some (.ref p), w]) ⟨rfl, _, rfl⟩ (fun i σ' H' _ ⟨e, _⟩ => by rw [e]; exact .inl (.inl hp)) ?_ ?_
  · rintro i x σ' H' hx ⟨rfl, w, rfl⟩
    obtain ⟨z, hz, dz⟩ := g.getv hx
    obtain ⟨pz, rfl, hpz⟩ := dp_g dz
    walk_at "z"
    exact ⟨rfl, _, rfl⟩
  · rintro σ' H' ⟨rfl, w, rfl⟩
    walk_at "z"
    exact q
end
def sp__law_bends (K : PySem.W.Frag) : Sp := fun vs H Q _ => ∃ (u v w : V) (a b c : GP), vs = [u, v, w] ∧ Dp K H u (gD a) ∧ Dp K H v (gD b) ∧ Dp K H w (gD c) ∧ Q (.bl (!flat a b c)) H
section
theorem ok__law_middle {P : Program} {w : World} {K : PySem.W.Frag} {mg : Str → Option Value} {base : Heap} {A : Nat → Addr} {D : Nat → FuncData} (T : Txt K mg A D) : FnOk P w K mg base (L2.CX P w) 1 (A 11) (D 11) ["p", "q"] (sp_mid K) := by
  refine T.F__law_middle.okX sc__law_middle (fun vs H Q E h => ?_) (fun cdv A' outer s H vs Q E hr h => ?_)
  · obtain ⟨u, v, a, b, rfl, _⟩ := h
    rfl
  obtain ⟨_, _, a, b, rfl, da, db, q⟩ := h
  obtain ⟨pa, rfl, ha⟩ := dp_g da
  obtain ⟨pb, rfl, hb⟩ := dp_g db
  refine ⟨_, (pss_one (ps_ret (pe_tup (pa_cons (pe_op op_fdivW (pe_op op_add (pe_ix ix_tup (pv 0) pe_int (fun _ _ => rfl)) (pe_ix ix_tup (pv 1) pe_int (fun _ _ => rfl))) pe_int) (pa_cons (pe_op op_fdivW (pe_op op_add (pe_ix ix_tup (pv 0) pe_int (fun _ _ => rfl)) (pe_ix ix_tup (pv 1) pe_int (fun _ _ => rfl))) pe_int) pa_nil))))), ?_⟩
  walk_at "z"
  refine z_I (wide_div (b := 2) (by decide) (by decide) (by decide) (by decide)) ?_
  walk_at "z"
  refine z_I (wide_div (b := 2) (by decide) (by decide) (by decide) (by decide)) ?_
  walk_at "z"
  intro p9 H9 _ s9 h9
  exact q _ H9 s9 (dp_mkg h9)
theorem ok__law_bends {P : Program} {w : World} {K : PySem.W.Frag} {mg : Str → Option Value} {base : Heap} {A : Nat → Addr} {D : Nat → FuncData} (T : Txt K mg A D) : FnOk P w K mg base (L2.CX P w) 1 (A 12) (D 12) ["p", "q", "r"] (sp__law_bends K) := by
  refine T.F__law_bends.okX sc__law_bends (fun vs H Q E h => ?_) (fun cdv A' outer s H vs Q E hr h => ?_)
  · obtain ⟨u, v, w', a, b, c, rfl, _⟩ := h
    rfl
  obtain ⟨_, _, _, a, b, c, rfl, da, db, dc, q⟩ := h
  obtain ⟨pa, rfl, ha⟩ := dp_g da
  obtain ⟨pb, rfl, hb⟩ := dp_g db
  obtain ⟨pc, rfl, hc⟩ := dp_g dc
  have one : ∀ k : Bool, k = (!flat a b c) → Q (.bl k) H := fun k e => by rw [e]; exact q
  clear q
  refine ⟨_, (pss_cons (ps_set (i := 3) sc__law_bends.nd rfl (.inl rfl) (pe_op op_add (pe_op op_sub (pe_ix ix_tup (pv 0) pe_int (fun _ _ => rfl)) (pe_op op_mul pe_int (pe_ix ix_tup (pv 1) pe_int (fun _ _ => rfl)))) (pe_ix ix_tup (pv 2) pe_int (fun _ _ => rfl))))
  (pss_cons (ps_set (i := 4) sc__law_bends.nd rfl (.inl rfl) (pe_op op_add (pe_op op_sub (pe_ix ix_tup (pv 0) pe_int (fun _ _ => rfl)) (pe_op op_mul pe_int (pe_ix ix_tup (pv 1) pe_int (fun _ _ => rfl)))) (pe_ix ix_tup (pv 2) pe_int (fun _ _ => rfl))))
  (pss_one (ps_ret (pe_or (pe_cmpR op_gt (pv 3) pe_int (nomark _)) (pe_or (pe_cmpR op_lt (pv 3) (pe_un un_neg pe_int) (nomark _)) (pe_or (pe_cmpR op_gt (pv 4) pe_int (nomark _)) (pe_one (pe_cmpR op_lt (pv 4) (pe_un un_neg pe_int) (nomark _)))))))))), ?_⟩
  walk_at "z"
  refine z_orKV (k' := decide (a.1 - 2 * b.1 + c.1 < -16) || (decide (a.2 - 2 * b.2 + c.2 > 16) || decide (a.2 - 2 * b.2 + c.2 < -16))) (fun _ R q => by
    walk_at "z"
    refine z_orKV (k' := decide (a.2 - 2 * b.2 + c.2 > 16) || decide (a.2 - 2 * b.2 + c.2 < -16)) (fun _ R q => by
      walk_at "z"
      refine z_orKV (k' := decide (a.2 - 2 * b.2 + c.2 < -16)) (fun _ R q => by walk_at "z"; exact q) ?_
      exact q) ?_
    exact q) ?_
  refine one _ ?_
  unfold flat small
  generalize a.1 - 2 * b.1 + c.1 = x
  generalize a.2 - 2 * b.2 + c.2 = y
  rw [Bool.eq_iff_iff]
  simp only [Bool.or_eq_true, decide_eq_true_eq, Bool.not_eq_true', Bool.and_eq_false_iff, decide_eq_false_iff_not]
  omega
end
/-- what waits: a curve and the depths that are left -/
structure Cv where
  a : GP
  b : GP
  c : GP
  d : GP
  r : Nat
def Cv.out (x : Cv) : List GP := lay x.r x.a x.b x.c x.d
def Cv.flt (x : Cv) : Bool := flat x.a x.b x.c && flat x.b x.c x.d
def Cv.lo (x : Cv) : Cv := ⟨x.a, mid x.a x.b, mid (mid x.a x.b) (mid x.b x.c), mid (mid (mid x.a x.b) (mid x.b x.c)) (mid (mid x.b x.c) (mid x.c x.d)), x.r - 1⟩
def Cv.hi (x : Cv) : Cv := ⟨mid (mid (mid x.a x.b) (mid x.b x.c)) (mid (mid x.b x.c) (mid x.c x.d)), mid (mid x.b x.c) (mid x.c x.d), mid x.c x.d, x.d, x.r - 1⟩
/-- the turns that a curve takes -/
def turns : Nat → GP → GP → GP → GP → Nat
  | 0, _, _, _, _ => 1
  | r + 1, a, b, c, d => if (flat a b c && flat b c d) = true then 1 else 1 +
    (turns r a (mid a b) (mid (mid a b) (mid b c)) (mid (mid (mid a b) (mid b c)) (mid (mid b c) (mid c d))) +
    turns r (mid (mid (mid a b) (mid b c)) (mid (mid b c) (mid c d))) (mid (mid b c) (mid c d)) (mid c d) d)
theorem turns_le : ∀ (r : Nat) (a b c d : GP), turns r a b c d + 1 ≤ 2 ^ (r + 1)
  | 0, _, _, _, _ => Nat.le_refl 2
  | r + 1, a, b, c, d => by
    unfold turns
    have hp : 1 ≤ 2 ^ (r + 1) := Nat.one_le_two_pow
    split
    · rw [Nat.pow_succ]
      omega
    · rw [Nat.pow_succ 2 (r + 1)]
      have h1 := turns_le r a (mid a b) (mid (mid a b) (mid b c)) (mid (mid (mid a b) (mid b c)) (mid (mid b c) (mid c d)))
      have h2 := turns_le r (mid (mid (mid a b) (mid b c)) (mid (mid b c) (mid c d))) (mid (mid b c) (mid c d)) (mid c d) d
      omega
def Cv.trn (x : Cv) : Nat := turns x.r x.a x.b x.c x.d
theorem Cv.stop {x : Cv} (h : x.r = 0 ∨ x.flt = true) : x.out = [x.d] ∧ x.trn = 1 := by
  obtain ⟨a, b, c, d, r⟩ := x
  unfold Cv.out Cv.trn Cv.flt at *
  cases r with
  | zero => exact ⟨rfl, rfl⟩
  | succ r =>
    have h' : (flat a b c && flat b c d) = true := by
      rcases h with z | z
      · cases z
      · exact z
    dsimp only at *
    unfold lay turns
    rw [if_pos h', if_pos h']
    exact ⟨rfl, rfl⟩
theorem Cv.go {x : Cv} (h0 : x.r ≠ 0) (h : x.flt = false) : x.out = x.lo.out ++ x.hi.out ∧ x.trn = 1 + (x.lo.trn + x.hi.trn) := by
  obtain ⟨a, b, c, d, r⟩ := x
  unfold Cv.out Cv.trn Cv.flt Cv.lo Cv.hi at *
  cases r with
  | zero => exact absurd rfl h0
  | succ r =>
    have h' : ¬ (flat a b c && flat b c d) = true := by
      have h : (flat a b c && flat b c d) = false := h
      rw [h]
      exact Bool.false_ne_true
    dsimp only [Nat.add_sub_cancel] at *
    conv => lhs; lhs; unfold lay
    conv => rhs; lhs; unfold turns
    rw [if_neg h', if_neg h']
    exact ⟨rfl, rfl⟩
theorem Cv.pos (x : Cv) : 1 ≤ x.trn := by
  by_cases h : x.r = 0 ∨ x.flt = true
  · rw [(Cv.stop h).2]
    exact Nat.le_refl 1
  · have := (Cv.go (fun z => h (.inl z)) (by simpa using fun z => h (.inr z))).2
    omega
def outs (ts : List Cv) : List GP := ts.flatMap Cv.out
def trns : List Cv → Nat
  | [] => 0
  | x :: ts => x.trn + trns ts
/-- a value that stands for a curve that waits -/
def CvOk (K : PySem.W.Frag) (H : Hp) (v : V) (x : Cv) : Prop := ∃ (p : Addr) (v1 v2 v3 v4 : V), v = .ref p ∧ H p = some (.tup [v1, v2, v3, v4, .int (5 - (x.r : Int))]) ∧ x.r ≤ 5 ∧ Dp K H v1 (gD x.a) ∧ Dp K H v2 (gD x.b) ∧ Dp K H v3 (gD x.c) ∧ Dp K H v4 (gD x.d)
theorem CvOk.mono {K : PySem.W.Frag} {H H' : Hp} {v : V} {x : Cv} (s : Same H H') (h : CvOk K H v x) : CvOk K H' v x := by
  obtain ⟨p, v1, v2, v3, v4, e, h0, h1, d1, d2, d3, d4⟩ := h
  exact ⟨p, v1, v2, v3, v4, e, s _ _ h0, h1, dp_mono s d1, dp_mono s d2, dp_mono s d3, dp_mono s d4⟩
theorem CvOk.kp {K : PySem.W.Frag} {H H' : Hp} {v : V} {x : Cv} {l : Addr} {xs : List V} (k : Kp l H H') (hl : H l = some (.lst xs)) (h : CvOk K H v x) : CvOk K H' v x := by
  obtain ⟨p, v1, v2, v3, v4, e, h0, h1, d1, d2, d3, d4⟩ := h
  exact ⟨p, v1, v2, v3, v4, e, k _ _ (ne_of h0 hl (by intro z; cases z)) h0, h1, dp_kp k hl rfl d1, dp_kp k hl rfl d2, dp_kp k hl rfl d3, dp_kp k hl rfl d4⟩
def CvS (K : PySem.W.Frag) (H : Hp) : List V → List Cv → Prop
  | [], [] => True
  | v :: vs, x :: xs => CvOk K H v x ∧ CvS K H vs xs
  | _, _ => False
theorem CvS.len {K : PySem.W.Frag} {H : Hp} : ∀ {vs : List V} {ts : List Cv}, CvS K H vs ts → vs.length = ts.length
  | [], [], _ => rfl
  | _ :: _, _ :: _, h => congrArg (· + 1) (CvS.len h.2)
theorem CvS.mono {K : PySem.W.Frag} {H H' : Hp} (s : Same H H') : ∀ {vs : List V} {ts : List Cv}, CvS K H vs ts → CvS K H' vs ts
  | [], [], _ => trivial
  | _ :: _, _ :: _, h => ⟨h.1.mono s, CvS.mono s h.2⟩
theorem CvS.kp {K : PySem.W.Frag} {H H' : Hp} {l : Addr} {xs : List V} (k : Kp l H H') (hl : H l = some (.lst xs)) : ∀ {vs : List V} {ts : List Cv}, CvS K H vs ts → CvS K H' vs ts
  | [], [], _ => trivial
  | _ :: _, _ :: _, h => ⟨h.1.kp k hl, CvS.kp k hl h.2⟩
/-- a list changed where it stands: the rest is kept -/
theorem kp_upd {p : Addr} {H : Hp} {o : HO} : Kp p H (upd H p o) := fun b _ hb e => by
  rw [upd_ne hb]
  exact e
def sp__law_lay_out (K : PySem.W.Frag) : Sp := fun vs H Q _ => ∃ (v1 v2 v3 v4 : V) (a b c d : GP) (r : Nat), vs = [v1, v2, v3, v4, .int (5 - (r : Int))] ∧ r ≤ 5 ∧ Dp K H v1 (gD a) ∧ Dp K H v2 (gD b) ∧ Dp K H v3 (gD c) ∧ Dp K H v4 (gD d) ∧
  ∀ p ws H', H p = none → Same H H' → H' p = some (.lst ws) → Gs K H' ws (lay r a b c d) → Q (.ref p) H'
/-- the state of the law's loop -/
structure LayI (K : PySem.W.Frag) (H0 : Hp) (l1 l2 : Addr) (tot : List GP) (N : Nat) (i : Nat) (H : Hp) : Prop where
  ne : l1 ≠ l2
  f1 : H0 l1 = none
  f2 : H0 l2 = none
  sm : Same H0 H
  it : ∃ (vs : List V) (ts : List Cv) (ws : List V) (fs : List GP), H l1 = some (.lst vs.reverse) ∧ H l2 = some (.lst ws) ∧ CvS K H vs ts ∧ Gs K H ws fs ∧ fs ++ outs ts = tot ∧ i + trns ts = N
section
theorem ok__law_lay_out {P : Program} {w : World} {K : PySem.W.Frag} {mg : Str → Option Value} {base : Heap} {A : Nat → Addr} {D : Nat → FuncData} (T : Txt K mg A D) : FnOk P w K mg base (L2.CX P w) 2 (A 13) (D 13) ["a", "b", "c", "d", "depth"] (sp__law_lay_out K) := by
  refine T.F__law_lay_out.okX sc__law_lay_out (fun vs H Q E h => ?_) (fun cdv A' outer s H vs Q E hr h => ?_)
  · obtain ⟨v1, v2, v3, v4, a, b, c, d, r, rfl, _⟩ := h
    rfl
  obtain ⟨v1, v2, v3, v4, a, b, c, d, r, rfl, r5, d1, d2, d3, d4, q⟩ := h
  refine ⟨_, (pss_cons (ps_set (i := 5) sc__law_lay_out.nd rfl (.inl rfl) (pe_lst (pa_cons (pe_tup (pa_cons (pv 0) (pa_cons (pv 1) (pa_cons (pv 2) (pa_cons (pv 3) (pa_cons (pv 4) pa_nil)))))) pa_nil)))
  (pss_cons (ps_set (i := 6) sc__law_lay_out.nd rfl (.inl rfl) (pe_lst pa_nil))
  (pss_cons (ps_for (passes_of rfl) rfl (pi_range1 (by rfl) T.z_range (pa_cons pe_int pa_nil)) (pg_name (i := 7) sc__law_lay_out.nd rfl (.inl rfl))
  (pss_cons (ps_if (pt_cmpR op_eq (pe_callB Z.c_len (by rfl) T.z_len (by decide +kernel) (pa_cons (pv 5) pa_nil)) pe_int (nomark _))
  (pss_one ps_break)
  pss_nil)
  (pss_cons (ps_asg (pe_bm0 PySem.F.plainAttrs_list PySem.F.slot_list_pop PySem.F.type_list_pop mt_pop (pv 5)) (pg_tup (by rfl) (pgs_cons (pg_name (i := 0) sc__law_lay_out.nd rfl (.inl rfl)) (pgs_cons (pg_name (i := 1) sc__law_lay_out.nd rfl (.inl rfl)) (pgs_cons (pg_name (i := 2) sc__law_lay_out.nd rfl (.inl rfl)) (pgs_cons (pg_name (i := 3) sc__law_lay_out.nd rfl (.inl rfl)) (pgs_cons (pg_name (i := 4) sc__law_lay_out.nd rfl (.inl rfl)) pgs_nil)))))))
  (pss_one (ps_if (PW.pt (pw_and (pt_cmpR op_lt (pv 4) pe_int (nomark _)) (pw_and1 (PW.pt (pw_or (pt_val (pe_call (ok__law_bends T) (hr.mono (by decide)) (by rfl) T.m__law_bends T.F__law_bends.kp T.b__law_bends .nil (passes_call (takes_of rfl rfl rfl rfl) (fun _ _ _ _ h => h)) (pa_cons (pv 0) (pa_cons (pv 1) (pa_cons (pv 2) pa_nil))))) (pw_or1 (pt_val (pe_call (ok__law_bends T) (hr.mono (by decide)) (by rfl) T.m__law_bends T.F__law_bends.kp T.b__law_bends .nil (passes_call (takes_of rfl rfl rfl rfl) (fun _ _ _ _ h => h)) (pa_cons (pv 1) (pa_cons (pv 2) (pa_cons (pv 3) pa_nil)))))))))))
  (pss_cons (ps_set (i := 8) sc__law_lay_out.nd rfl (.inl rfl) (pe_call (ok__law_middle T) (hr.mono (by decide)) (by rfl) T.m__law_middle T.F__law_middle.kp T.b__law_middle .nil (passes_call (takes_of rfl rfl rfl rfl) (fun _ _ _ _ h => h)) (pa_cons (pv 0) (pa_cons (pv 1) pa_nil))))
  (pss_cons (ps_set (i := 9) sc__law_lay_out.nd rfl (.inl rfl) (pe_call (ok__law_middle T) (hr.mono (by decide)) (by rfl) T.m__law_middle T.F__law_middle.kp T.b__law_middle .nil (passes_call (takes_of rfl rfl rfl rfl) (fun _ _ _ _ h => h)) (pa_cons (pv 1) (pa_cons (pv 2) pa_nil))))
  (pss_cons (ps_set (i := 10) sc__law_lay_out.nd rfl (.inl rfl) (pe_call (ok__law_middle T) (hr.mono (by decide)) (by rfl) T.m__law_middle T.F__law_middle.kp T.b__law_middle .nil (passes_call (takes_of rfl rfl rfl rfl) (fun _ _ _ _ h => h)) (pa_cons (pv 2) (pa_cons (pv 3) pa_nil))))
  (pss_cons (ps_set (i := 11) sc__law_lay_out.nd rfl (.inl rfl) (pe_call (ok__law_middle T) (hr.mono (by decide)) (by rfl) T.m__law_middle T.F__law_middle.kp T.b__law_middle .nil (passes_call (takes_of rfl rfl rfl rfl) (fun _ _ _ _ h => h)) (pa_cons (pv 8) (pa_cons (pv 9) pa_nil))))
  (pss_cons (ps_set (i := 12) sc__law_lay_out.nd rfl (.inl rfl) (pe_call (ok__law_middle T) (hr.mono (by decide)) (by rfl) T.m__law_middle T.F__law_middle.kp T.b__law_middle .nil (passes_call (takes_of rfl rfl rfl rfl) (fun _ _ _ _ h => h)) (pa_cons (pv 9) (pa_cons (pv 10) pa_nil))))
  (pss_cons (ps_set (i := 13) sc__law_lay_out.nd rfl (.inl rfl) (pe_call (ok__law_middle T) (hr.mono (by decide)) (by rfl) T.m__law_middle T.F__law_middle.kp T.b__law_middle .nil (passes_call (takes_of rfl rfl rfl rfl) (fun _ _ _ _ h => h)) (pa_cons (pv 11) (pa_cons (pv 12) pa_nil))))
  (pss_cons (ps_expr (pe_bm PySem.F.plainAttrs_list PySem.F.slot_list_append PySem.F.type_list_append mt_append (pv 5) (pa_cons (pe_tup (pa_cons (pv 13) (pa_cons (pv 12) (pa_cons (pv 10) (pa_cons (pv 3) (pa_cons (pe_op op_add (pv 4) pe_int) pa_nil)))))) pa_nil)))
  (pss_one (ps_expr (pe_bm PySem.F.plainAttrs_list PySem.F.slot_list_append PySem.F.type_list_append mt_append (pv 5) (pa_cons (pe_tup (pa_cons (pv 0) (pa_cons (pv 8) (pa_cons (pv 11) (pa_cons (pv 13) (pa_cons (pe_op op_add (pv 4) pe_int) pa_nil)))))) pa_nil)))))))))))
  (pss_one (ps_expr (pe_bm PySem.F.plainAttrs_list PySem.F.slot_list_append PySem.F.type_list_append mt_append (pv 6) (pa_cons (pv 3) pa_nil)))))))))
  (pss_one (ps_ret (pv 6)))))), ?_⟩
  walk_at "z"
  intro p0 H1 f0 s0 h0
  walk_at "z"
  intro l1 H2 f1 s1 h1
  walk_at "z"
  intro l2 H3 f2 s2 h2
  have s01 := s0.trans s1
  have s02 := s01.trans s2
  have hl1 := s2 _ _ h1
  have ne12 : l1 ≠ l2 := fun z => by rw [← z, h1] at f2; cases f2
  have g1 : H l1 = none := by
    cases hh : H l1 with
    | none => rfl
    | some o => rw [s0 _ _ hh] at f1; cases f1
  have g2 : H l2 = none := by
    cases hh : H l2 with
    | none => rfl
    | some o => rw [s01 _ _ hh] at f2; cases f2
  have x0 : CvOk K H3 (.ref p0) ⟨a, b, c, d, r⟩ := ⟨p0, v1, v2, v3, v4, rfl, (s1.trans s2) _ _ h0, r5, dp_mono s02 d1, dp_mono s02 d2, dp_mono s02 d3, dp_mono s02 d4⟩
  have hN : turns r a b c d ≤ 63 := by
    have := turns_le r a b c d
    have h6 : 2 ^ (r + 1) ≤ 2 ^ 6 := Nat.pow_le_pow_right (by decide) (by omega)
    omega
  have I0 : LayI K H l1 l2 (lay r a b c d) (turns r a b c d) 0 H3 := ⟨ne12, g1, g2, s02, [.ref p0], [⟨a, b, c, d, r⟩], [], [], hl1, h2, ⟨x0, trivial⟩, gs_nil, by simp [outs, Cv.out], by simp [trns, Cv.trn]⟩
  clear x0 hl1 s02 s01 h2 s2 f2 h1 s1 f1 h0 s0 f0 d1 d2 d3 d4
  have hlen : (lay r a b c d).length ≤ 32 := Nat.le_trans (lay_len r a b c d) (pow5 r5)
  generalize lay r a b c d = tot at *
  generalize turns r a b c d = N at *
  have fin : ∀ (i : Nat) (H' : Hp), LayI K H l1 l2 tot N i H' → (∀ vs ts, H' l1 = some (.lst vs.reverse) → CvS K H' vs ts → ts = []) → Q (.ref l2) H' := by
    intro i H' ⟨_, _, _, sm, vs, ts, ws, fs, hv, hw, cs, gs, eo, _⟩ he
    obtain rfl := he vs ts hv cs
    refine q l2 ws H' g2 sm hw ?_
    rw [← eo]
    simpa [outs] using gs
  refine z_forR1 63 (by decide) (fun R q => by walk_at "z"; exact q) (fun i σ' H' => LayI K H l1 l2 tot N i H' ∧ ∃ u1 u2 u3 u4 u5 u6 u7 u8 u9 u10 u11 u12, σ' = [u1, u2, u3, u4, u5, some (.ref l1), some (.ref l2), u6, u7, u8, u9, u10, u11, u12])
    ⟨I0, _, _, _, _, _, _, _, _, _, _, _, _, rfl⟩ ?_ ?_
  · rintro i σ' H4 hi ⟨I4, u1, u2, u3, u4, u5, u6, u7, u8, u9, u10, u11, u12, rfl⟩
    obtain ⟨_, _, _, sm, vs, ts, ws, fs, hv, hw, cs, gs, eo, en⟩ := id I4
    walk_at "z"
    refine z_if (fun c0 => ?_) (fun c0 => ?_)
    · walk_at "z"
      refine fin i H4 I4 fun vs' ts' hv' cs' => ?_
      rw [hv] at hv'
      have hv' := congrArg List.length (HO.lst.inj (Option.some.inj hv'))
      rw [List.length_reverse, List.length_reverse] at hv'
      rw [List.length_reverse] at c0
      have := cs'.len
      exact List.eq_nil_of_length_eq_zero (by omega)
    rw [List.length_reverse] at c0
    walk_at "z"
    clear fin q I0 I4
    have hpos : 0 < vs.length := by
      rcases Nat.eq_zero_or_pos vs.length with z | z
      · exact absurd (by omega) c0
      · exact z
    cases ts with
    | nil =>
      have := cs.len
      have h0 : ([] : List Cv).length = 0 := rfl
      omega
    | cons x ts =>
    cases vs with
    | nil => exact cs.elim
    | cons v vs =>
    obtain ⟨x4, cs⟩ := cs
    rw [List.reverse_cons] at hv
    have hw5 : (upd H4 l1 (.lst vs.reverse)) l2 = some (.lst ws) := by rw [upd_ne (Ne.symm ne12)]; exact hw
    have x5 := x4.kp (kp_upd (o := .lst vs.reverse)) hv
    have cs5 := cs.kp (kp_upd (o := .lst vs.reverse)) hv
    have gs5 := gs.kp (kp_upd (o := .lst vs.reverse)) hv
    have hv5 : (upd H4 l1 (.lst vs.reverse)) l1 = some (.lst vs.reverse) := upd_same
    have sm5 : Same H (upd H4 l1 (.lst vs.reverse)) := fun b o e => by
      rw [upd_ne (fun z => by rw [z, g1] at e; cases e)]
      exact sm b o e
    have lv : vs.length ≤ 64 := by
      have h1 := cs.len
      have h2 : ∀ ts : List Cv, ts.length ≤ trns ts := fun ts => by
        induction ts with
        | nil => exact Nat.le_refl 0
        | cons y ts ih =>
          have := Cv.pos y
          have e : trns (y :: ts) = y.trn + trns ts := rfl
          have e2 : (y :: ts).length = ts.length + 1 := rfl
          omega
      have h3 := h2 ts
      have e : trns (x :: ts) = x.trn + trns ts := rfl
      omega
    have lw : ws.length ≤ 32 := by
      have h1 := gs.len
      have h2 := congrArg List.length eo
      rw [List.length_append] at h2
      omega
    refine z_bm0L (fun R q => by walk_at "z"; exact q) hv ?_
    refine z_pop hv ?_
    clear cs gs x4 hv hw sm c0 hpos
    generalize upd H4 l1 (.lst vs.reverse) = H5 at *
    obtain ⟨pc, w1, w2, w3, w4, rfl, hpc, xr, e1, e2, e3, e4⟩ := x5
    walk_at "z"
    refine z_andK (k' := (!flat x.a x.b x.c) || (!flat x.b x.c x.d)) (fun _ R q => by
      walk_at "z"
      refine ⟨_, _, _, x.a, x.b, x.c, rfl, e1, e2, e3, ?_⟩
      walk_at "z"
      refine z_orK (k' := !flat x.b x.c x.d) (fun _ R q => by
        walk_at "z"
        refine ⟨_, _, _, x.b, x.c, x.d, rfl, e2, e3, e4, ?_⟩
        walk_at "z"
        exact q) q) ?_
    refine z_ifB (fun cc => ?_) (fun cc => ?_)
    · obtain ⟨c1, c2⟩ := (Bool.and_eq_true _ _).mp cc
      have c1' : (5 : Int) - (x.r : Int) < 5 := of_decide_eq_true c1
      have hr0 : x.r ≠ 0 := by omega
      have hfl : x.flt = false := by
        unfold Cv.flt
        rw [Bool.and_eq_false_iff]
        rcases (Bool.or_eq_true _ _).mp c2 with z | z
        · exact .inl (by simpa using z)
        · exact .inr (by simpa using z)
      obtain ⟨go1, go2⟩ := Cv.go hr0 hfl
      walk_at "z"
      refine midq e1 e2 fun ve H6 s6 de => ?_
      walk_at "z"
      refine midq (dp_mono s6 e2) (dp_mono s6 e3) fun vf H7 s7 df => ?_
      have s57 := s6.trans s7
      walk_at "z"
      refine midq (dp_mono s57 e3) (dp_mono s57 e4) fun vg H8 s8 dg => ?_
      walk_at "z"
      refine midq (dp_mono (s7.trans s8) de) (dp_mono s8 df) fun vh H9 s9 dh => ?_
      walk_at "z"
      refine midq (dp_mono (s8.trans s9) df) (dp_mono s9 dg) fun vk HA sA dk => ?_
      walk_at "z"
      refine midq (dp_mono sA dh) dk fun vm HB sB dm => ?_
      have s7B := ((s8.trans s9).trans sA).trans sB
      have s5B := s57.trans s7B
      have eA := dp_mono s5B e1
      have eD := dp_mono s5B e4
      have de' := dp_mono (s7.trans s7B) de
      have dg' := dp_mono ((s9.trans sA).trans sB) dg
      have dh' := dp_mono (sA.trans sB) dh
      have dk' := dp_mono sB dk
      have hvB := s5B _ _ hv5
      have hwB := s5B _ _ hw5
      have csB := cs5.mono s5B
      have gsB := gs5.mono s5B
      have smB := sm5.trans s5B
      clear s7B s57 s6 s7 s8 s9 sA sB de df dg dh dk cs5 gs5 hv5 hw5 e1 e2 e3 e4 hpc sm5 s5B cc c2 c1
      walk_at "z"
      refine z_bmL (fun R q => by walk_at "z"; exact q) hvB ?_
      walk_at "z"
      intro pC HC fC sC hC
      have hvC := sC _ _ hvB
      walk_at "z"
      refine z_append hvC (by simp; omega) ?_
      have xh : CvOk K HC (.ref pC) x.hi := ⟨pC, _, _, _, _, rfl, by rw [hC, show (5 : Int) - (x.r : Int) + 1 = 5 - ((x.hi.r : Nat) : Int) by show _ = 5 - ((x.r - 1 : Nat) : Int); omega], by show x.r - 1 ≤ 5; omega, dp_mono sC dm, dp_mono sC dk', dp_mono sC dg', dp_mono sC eD⟩
      have kD : Kp l1 HC (upd HC l1 (.lst (vs.reverse ++ [V.ref pC]))) := kp_upd
      have xh := xh.kp kD hvC
      have csD := (csB.mono sC).kp kD hvC
      have gsD := (gsB.mono sC).kp kD hvC
      have eAD := dp_kp kD hvC rfl (dp_mono sC eA)
      have deD := dp_kp kD hvC rfl (dp_mono sC de')
      have dhD := dp_kp kD hvC rfl (dp_mono sC dh')
      have dmD := dp_kp kD hvC rfl (dp_mono sC dm)
      have hwD : (upd HC l1 (.lst (vs.reverse ++ [V.ref pC]))) l2 = some (.lst ws) := by rw [upd_ne (Ne.symm ne12)]; exact sC _ _ hwB
      have hvD : (upd HC l1 (.lst (vs.reverse ++ [V.ref pC]))) l1 = some (.lst (vs.reverse ++ [V.ref pC])) := upd_same
      have smD : Same H (upd HC l1 (.lst (vs.reverse ++ [V.ref pC]))) := fun b o e => by
        rw [upd_ne (fun z => by rw [z, g1] at e; cases e)]
        exact sC _ _ (smB b o e)
      clear csB gsB eA de' dh' dm dk' dg' eD hwB hvB smB kD hvC hC sC
      generalize upd HC l1 (.lst (vs.reverse ++ [V.ref pC])) = HD at *
      walk_at "z"
      refine z_bmL (fun R q => by walk_at "z"; exact q) hvD ?_
      walk_at "z"
      intro pE HE fE sE hE
      have hvE := sE _ _ hvD
      walk_at "z"
      refine z_append hvE (by simp; omega) ?_
      have xl : CvOk K HE (.ref pE) x.lo := ⟨pE, _, _, _, _, rfl, by rw [hE, show (5 : Int) - (x.r : Int) + 1 = 5 - ((x.lo.r : Nat) : Int) by show _ = 5 - ((x.r - 1 : Nat) : Int); omega], by show x.r - 1 ≤ 5; omega, dp_mono sE eAD, dp_mono sE deD, dp_mono sE dhD, dp_mono sE dmD⟩
      have kF : Kp l1 HE (upd HE l1 (.lst (vs.reverse ++ [V.ref pC] ++ [V.ref pE]))) := kp_upd
      walk_at "z"
      refine ⟨⟨ne12, g1, g2, fun b o e => ?_, .ref pE :: .ref pC :: vs, x.lo :: x.hi :: ts, ws, fs, ?_, ?_, ⟨xl.kp kF hvE, (xh.mono sE).kp kF hvE, (csD.mono sE).kp kF hvE⟩, (gsD.mono sE).kp kF hvE, ?_, ?_⟩, _, _, _, _, _, _, _, _, _, _, _, _, rfl⟩
      · rw [upd_ne (fun z => by rw [z, g1] at e; cases e)]
        exact sE _ _ (smD b o e)
      · rw [upd_same]
        simp
      · rw [upd_ne (Ne.symm ne12)]
        exact sE _ _ hwD
      · rw [← eo]
        simp only [outs, List.flatMap_cons, go1, List.append_assoc]
      · have e1 : trns (x :: ts) = x.trn + trns ts := rfl
        have e2 : trns (x.lo :: x.hi :: ts) = x.lo.trn + (x.hi.trn + trns ts) := rfl
        omega
    · have hst : x.r = 0 ∨ x.flt = true := by
        rcases Nat.eq_zero_or_pos x.r with z | z
        · exact .inl z
        · refine .inr ?_
          have c1 : decide ((5 : Int) - (x.r : Int) < 5) = true := decide_eq_true (by omega)
          rw [c1, Bool.true_and] at cc
          unfold Cv.flt
          rw [Bool.or_eq_false_iff] at cc
          simpa using cc
      obtain ⟨st1, st2⟩ := Cv.stop hst
      walk_at "z"
      refine z_bmL (fun R q => by walk_at "z"; exact q) hw5 ?_
      walk_at "z"
      refine z_append hw5 (by omega) ?_
      have kF : Kp l2 H5 (upd H5 l2 (.lst (ws ++ [w4]))) := kp_upd
      walk_at "z"
      refine ⟨⟨ne12, g1, g2, fun b o e => ?_, vs, ts, ws ++ [w4], fs ++ [x.d], ?_, upd_same, cs5.kp kF hw5, (gs5.app (gs_one e4)).kp kF hw5, ?_, ?_⟩, _, _, _, _, _, _, _, _, _, _, _, _, rfl⟩
      · rw [upd_ne (fun z => by rw [z, g2] at e; cases e)]
        exact sm5 b o e
      · rw [upd_ne ne12]
        exact hv5
      · rw [← eo]
        simp only [outs, List.flatMap_cons, st1, List.append_assoc]
      · have e1 : trns (x :: ts) = x.trn + trns ts := rfl
        omega
  · rintro σ' H4 ⟨I4, u1, u2, u3, u4, u5, u6, u7, u8, u9, u10, u11, u12, rfl⟩
    walk_at "z"
    refine fin 63 H4 I4 fun vs' ts' hv' cs' => ?_
    obtain ⟨_, _, _, sm, vs, ts, ws, fs, hv, hw, cs, gs, eo, en⟩ := I4
    rw [hv] at hv'
    have ev : vs' = vs := by
      have := congrArg List.reverse (HO.lst.inj (Option.some.inj hv'))
      simpa using this.symm
    subst ev
    have l1' := cs.len
    have l2' := cs'.len
    have hts : ts = [] := by
      cases ts with
      | nil => rfl
      | cons x ts =>
        have := Cv.pos x
        have e : trns (x :: ts) = x.trn + trns ts := rfl
        omega
    subst hts
    have h0 : ([] : List Cv).length = 0 := rfl
    exact List.eq_nil_of_length_eq_zero (by omega)
end
theorem Gs.rev {K : PySem.W.Frag} {H : Hp} : ∀ {vs : List V} {zs : List GP}, Gs K H vs zs → Gs K H vs.reverse zs.reverse
  | [], [], _ => trivial
  | _ :: _, _ :: _, h => by
    rw [List.reverse_cons, List.reverse_cons]
    exact (Gs.rev h.2).app (gs_one h.1)
def sp_law (K : PySem.W.Frag) : Sp := fun vs H Q _ => ∃ (a : Addr) (ns : List Int), vs = [.ref a] ∧ SqL K H a (ns.map V.int) ∧ ns.length ≤ 63 ∧ ∀ H', Q (.bl true) H'
section
theorem ok_law {P : Program} {w : World} {K : PySem.W.Frag} {mg : Str → Option Value} {base : Heap} {A : Nat → Addr} {D : Nat → FuncData} (T : Txt K mg A D) : FnOk P w K mg base CX0 10 (A 14) (D 14) ["script"] (sp_law K) := by
  refine T.F_law.ok sc_law (fun vs H Q E h => ?_) (fun cdv A' outer s H vs Q E hr h => ?_)
  · obtain ⟨l, ns, rfl, _⟩ := h
    rfl
  obtain ⟨l, ns, rfl, hS, _, q⟩ := h
  refine ⟨_, (pss_cons (ps_set (i := 1) sc_law.nd rfl (.inl rfl) (pe_call (ok__law_stream T) (hr.mono (by decide)) (by rfl) T.m__law_stream T.F__law_stream.kp T.b__law_stream .nil passL (pa_cons (pe_call (ok__law_cell T) (hr.mono (by decide)) (by rfl) T.m__law_cell T.F__law_cell.kp T.b__law_cell .nil passL (pa_cons (pv 0) (pa_cons pe_int pa_nil))) pa_nil)))
  (pss_cons (ps_set (i := 2) sc_law.nd rfl (.inl rfl) (pe_call (ok__law_outline T) (hr.mono (by decide)) (by rfl) T.m__law_outline T.F__law_outline.kp T.b__law_outline .nil passL (pa_cons (pv 1) (pa_cons pe_int (pa_cons pe_int pa_nil)))))
  (pss_cons (ps_set (i := 3) sc_law.nd rfl (.inl rfl) (pe_call (ok__law_next T) (hr.mono (by decide)) (by rfl) T.m__law_next T.F__law_next.kp T.b__law_next .nil passL (pa_cons (pv 1) (pa_cons pe_int pa_nil))))
  (Evl.pss_cut (ps_if (pt_cmpR op_eq (pe_call (ok__law_next T) (hr.mono (by decide)) (by rfl) T.m__law_next T.F__law_next.kp T.b__law_next .nil passL (pa_cons (pv 1) (pa_cons pe_int pa_nil))) pe_int (nomark _))
  (pss_one (ps_set (i := 3) sc_law.nd rfl (.inl rfl) pe_int))
  pss_nil)
  (Evl.pss_cut (ps_if (pt_cmpR op_eq (pe_call (ok__law_next T) (hr.mono (by decide)) (by rfl) T.m__law_next T.F__law_next.kp T.b__law_next .nil passL (pa_cons (pv 1) (pa_cons pe_int pa_nil))) pe_int (nomark _))
  (pss_cons (ps_set (i := 4) sc_law.nd rfl (.inl rfl) (pe_op op_add pe_int (pe_call (ok__law_next T) (hr.mono (by decide)) (by rfl) T.m__law_next T.F__law_next.kp T.b__law_next .nil passL (pa_cons (pv 1) (pa_cons pe_int pa_nil)))))
  (pss_cons (ps_set (i := 5) sc_law.nd rfl (.inl rfl) (pe_call (ok__law_cell T) (hr.mono (by decide)) (by rfl) T.m__law_cell T.F__law_cell.kp T.b__law_cell .nil passL (pa_cons (pv 0) (pa_cons pe_int pa_nil))))
  (pss_cons (ps_set (i := 6) sc_law.nd rfl (.inl rfl) (pe_ix ix_list (pe_lst (pa_cons (pe_lst (pa_cons pe_int (pa_cons pe_int pa_nil))) (pa_cons (pe_lst (pa_cons (pv 4) (pa_cons pe_int pa_nil))) (pa_cons (pe_lst (pa_cons pe_int (pa_cons (pe_op op_sub pe_int (pv 4)) pa_nil))) (pa_cons (pe_lst (pa_cons (pv 4) (pa_cons (pv 4) pa_nil))) pa_nil))))) (pe_call (ok__law_next T) (hr.mono (by decide)) (by rfl) T.m__law_next T.F__law_next.kp T.b__law_next .nil passL (pa_cons (pv 1) (pa_cons pe_int pa_nil))) (fun _ _ => rfl)))
  (pss_cons (ps_set (i := 2) sc_law.nd rfl (.inl rfl) (pe_lst (pa_cons (pe_tup (pa_cons (pv 5) (pa_cons pe_int pa_nil))) (pa_cons (pe_tup (pa_cons (pe_op op_add (pv 5) pe_int) (pa_cons pe_int pa_nil))) (pa_cons (pe_tup (pa_cons (pe_op op_add (pe_op op_add (pv 5) pe_int) (pe_ix ix_list (pv 6) pe_int (fun _ _ => rfl))) (pa_cons (pe_op op_add pe_int (pe_ix ix_list (pv 6) pe_int (fun _ _ => rfl))) pa_nil))) (pa_cons (pe_tup (pa_cons (pe_op op_add (pe_op op_add (pv 5) pe_int) (pe_op op_mul pe_int (pe_ix ix_list (pv 6) pe_int (fun _ _ => rfl)))) (pa_cons (pe_op op_add pe_int (pe_op op_mul pe_int (pe_ix ix_list (pv 6) pe_int (fun _ _ => rfl)))) pa_nil))) pa_nil))))))
  (pss_one (ps_if (pt_cmpR op_eq (pe_call (ok__law_next T) (hr.mono (by decide)) (by rfl) T.m__law_next T.F__law_next.kp T.b__law_next .nil passL (pa_cons (pv 1) (pa_cons pe_int pa_nil))) pe_int (nomark _))
  (pss_one (ps_set (i := 2) sc_law.nd rfl (.inl rfl) (pe_revL (pv 2))))
  pss_nil))))))
  pss_nil)
  (pss_cons (ps_set (i := 7) sc_law.nd rfl (.inl rfl) (pe_call (ok_lay_out T) (hr.mono (by decide)) (by rfl) T.m_lay_out T.F_lay_out.kp T.b_lay_out .nil passL (pa_cons (pe_ix ix_list (pv 2) pe_int (fun _ _ => rfl)) (pa_cons (pe_ix ix_list (pv 2) pe_int (fun _ _ => rfl)) (pa_cons (pe_ix ix_list (pv 2) pe_int (fun _ _ => rfl)) (pa_cons (pe_ix ix_list (pv 2) pe_int (fun _ _ => rfl)) (pa_cons (pv 3) pa_nil)))))))
  (pss_cons (ps_set (i := 8) sc_law.nd rfl (.inl rfl) (pe_call (ok__law_lay_out T) (hr.mono (by decide)) (by rfl) T.m__law_lay_out T.F__law_lay_out.kp T.b__law_lay_out .nil passL (pa_cons (pe_ix ix_list (pv 2) pe_int (fun _ _ => rfl)) (pa_cons (pe_ix ix_list (pv 2) pe_int (fun _ _ => rfl)) (pa_cons (pe_ix ix_list (pv 2) pe_int (fun _ _ => rfl)) (pa_cons (pe_ix ix_list (pv 2) pe_int (fun _ _ => rfl)) (pa_cons (pv 3) pa_nil)))))))
  (pss_one (ps_ret (pe_and (pe_call (ok__law_is_grid_list T) (hr.mono (by decide)) (by rfl) T.m__law_is_grid_list T.F__law_is_grid_list.kp T.b__law_is_grid_list .nil passL (pa_cons (pv 7) pa_nil)) (pe_one (pe_cmpR (op_eqD hr.units) (pv 7) (pv 8) (nomark _))))))))))))), ?_⟩
  walk_at "z"
  refine ⟨l, ns, 0, rfl, hS, fun v => ?_⟩
  walk_at "z"
  refine ⟨v, rfl, fun p H1 i1 j1 m hp s1 h1 => ?_⟩
  have S1 := Sd.mk0 hp s1 h1
  walk_at "z"
  refine ⟨p, H, 4, 5, rfl, S1, by decide, by decide, by decide, by decide, fun o ws zs H2 f2 ho2 g2 D2 S2 k2 => ?_⟩
  walk_at "z"
  refine nx S2 (by decide) (lt1000 (by decide)) fun d H3 d0 d1 S3 e3 => ?_
  obtain ⟨_, _, _, st2⟩ := S2.stm
  have hop : o ≠ p := nep' f2 S1
  have g3 := g2.kp (kp_eq e3) st2
  have ho3 : H3 o = some (.lst ws) := by rw [e3 o hop]; exact ho2
  walk_at "z"
  refine z_cut (fun σ' H' => ∃ r : Nat, r ≤ 5 ∧ σ' = [some (.ref l), some (.ref p), some (.ref o), some (.int (5 - (r : Int))), none, none, none, none, none] ∧ Sd H H' p ∧ H' o = some (.lst ws) ∧ Gs K H' ws zs) ?_ ?_
  · walk_at "z"
    refine nx S3 (by decide) (lt1000 (by decide)) fun c H4 _ _ S4 e4 => ?_
    obtain ⟨_, _, _, st3⟩ := S3.stm
    have g4 := g3.kp (kp_eq e4) st3
    have ho4 : H4 o = some (.lst ws) := by rw [e4 o hop]; exact ho3
    walk_at "z"
    refine z_if (fun _ => ?_) (fun _ => ?_)
    · walk_at "z"
      exact ⟨5, by decide, rfl, S4, ho4, g4⟩
    · walk_at "z"
      exact ⟨(5 - d).toNat, by omega, by rw [show (5 : Int) - ((5 - d).toNat : Int) = d by omega]; rfl, S4, ho4, g4⟩
  clear g3 ho3 S3 e3 st2 S2 k2 g2 ho2 S1 h1 s1
  have lz : 4 ≤ zs.length := by have := D2.1; omega
  clear D2
  rintro σ' H3 ⟨r, r5, rfl, S3, ho3, g3⟩
  walk_at "z"
  refine z_cut (fun σ' H' => ∃ (o : Addr) (ws : List V) (zs : List GP) (u1 u2 u3 : Option V), σ' = [some (.ref l), some (.ref p), some (.ref o), some (.int (5 - (r : Int))), u1, u2, u3, none, none] ∧ H' o = some (.lst ws) ∧ Gs K H' ws zs ∧ 4 ≤ zs.length) ?_ ?_
  · walk_at "z"
    refine nx S3 (by decide) (lt1000 (by decide)) fun c H4 _ _ S4 e4 => ?_
    obtain ⟨_, _, _, st3⟩ := S3.stm
    have g4 := g3.kp (kp_eq e4) st3
    have ho4 : H4 o = some (.lst ws) := by rw [e4 o hop]; exact ho3
    walk_at "z"
    refine z_if (fun _ => ?_) (fun _ => ?_)
    · clear g3 ho3 S3 e4 g4 ho4 lz
      walk_at "z"
      refine nx S4 (by decide) (lt1000 (by decide)) fun b H5 _ _ S5 e5 => ?_
      walk_at "z"
      refine ⟨l, ns, 1, rfl, S5.same.seq hS, fun x => ?_⟩
      walk_at "z"
      intro a1 H6 f6 s6 h6
      walk_at "z"
      intro a2 H7 f7 s7 h7
      walk_at "z"
      intro a3 H8 f8 s8 h8
      walk_at "z"
      intro a4 H9 f9 s9 h9
      walk_at "z"
      intro a5 HA fA sA hA
      have SA : Sd H HA p := (((((S5.mono s6).mono s7).mono s8).mono s9).mono sA)
      have i1 := sA _ _ (s9 _ _ (s8 _ _ (s7 _ _ h6)))
      have i2 := sA _ _ (s9 _ _ (s8 _ _ h7))
      have i3 := sA _ _ (s9 _ _ h8)
      have i4 := sA _ _ h9
      clear h6 h7 h8 h9 s6 s7 s8 s9 sA S5 e5 S4
      walk_at "z"
      refine nx SA (by decide) (lt1000 (by decide)) fun j HB j0 j1 SB eB => ?_
      obtain ⟨_, _, _, stA⟩ := SA.stm
      have nep : ∀ {b : Addr} {o : HO} {xs : List V}, HA b = some (.lst xs) → xs.length ≠ 3 → b ≠ p := fun h hl z => by
        rw [z, stA] at h
        cases h
        exact hl rfl
      have i1 : HB a1 = _ := (eB _ (nep (o := .lst []) i1 (by simp))).trans i1
      have i2 : HB a2 = _ := (eB _ (nep (o := .lst []) i2 (by simp))).trans i2
      have i3 : HB a3 = _ := (eB _ (nep (o := .lst []) i3 (by simp))).trans i3
      have i4 : HB a4 = _ := (eB _ (nep (o := .lst []) i4 (by simp))).trans i4
      have i5 : HB a5 = _ := (eB _ (nep (o := .lst []) hA (by simp))).trans hA
      clear nep stA hA SA eB fA f9 f8 f7 f6
      obtain ⟨as, x1, x2, has, eas⟩ : ∃ (as : Addr) (x1 x2 : Int), HB as = some (.lst [.int x1, .int x2]) ∧ atI [V.ref a1, V.ref a2, V.ref a3, V.ref a4] j = some (.ref as) := by
        rcases (show j = 0 ∨ j = 1 ∨ j = 2 ∨ j = 3 by omega) with rfl | rfl | rfl | rfl
        · exact ⟨a1, _, _, i1, rfl⟩
        · exact ⟨a2, _, _, i2, rfl⟩
        · exact ⟨a3, _, _, i3, rfl⟩
        · exact ⟨a4, _, _, i4, rfl⟩
      walk_at "z"
      refine z_ixL (.inl (.inl i5)) eas ?_
      clear i1 i2 i3 i4 i5 eas
      walk_at "z"
      intro t1 HC fC sC hC
      have has1 := sC _ _ has
      walk_at "z"
      intro t2 HD fD sD hD
      have has2 := sD _ _ has1
      walk_at "z"
      intro t3 HE fE sE hE
      have has3 := sE _ _ has2
      walk_at "z"
      intro t4 HF fF sF hF
      have has4 := sF _ _ has3
      walk_at "z"
      intro t5 HG fG sG hG
      have d1 := dp_mkg (K := K) (sG _ _ (sF _ _ (sE _ _ (sD _ _ hC))))
      have d2 := dp_mkg (K := K) (sG _ _ (sF _ _ (sE _ _ hD)))
      have d3 := dp_mkg (K := K) (sG _ _ (sF _ _ hE))
      have d4 := dp_mkg (K := K) (sG _ _ hF)
      have SG := ((((SB.mono sC).mono sD).mono sE).mono sF).mono sG
      have gG : Gs K HG [.ref t1, .ref t2, .ref t3, .ref t4] [_, _, _, _] := ⟨d1, d2, d3, d4, trivial⟩
      clear d1 d2 d3 d4 SB sC sD sE sF has has1 has2 has3 has4 hC hD hE hF
      walk_at "z"
      refine nx SG (by decide) (lt1000 (by decide)) fun c2 HH _ _ SH eH => ?_
      obtain ⟨_, _, _, stG⟩ := SG.stm
      have gH := gG.kp (kp_eq eH) stG
      have hH : HH t5 = _ := (eH t5 (fun z => by rw [z, stG] at hG; cases hG)).trans hG
      walk_at "z"
      refine z_if (fun _ => ?_) (fun _ => ?_)
      · walk_at "z"
        refine z_revL ?_
        walk_at "z"
        refine z_revE (.inl (.inl hH)) fun t6 HI fI sI hI => ?_
        walk_at "z"
        exact ⟨t6, _, _, _, _, _, rfl, hI, (gH.mono sI).rev, Nat.le_refl 4⟩
      · walk_at "z"
        exact ⟨t5, _, _, _, _, _, rfl, hH, gH, Nat.le_refl 4⟩
    · walk_at "z"
      exact ⟨o, ws, zs, _, _, _, rfl, ho4, g4, lz⟩
  clear g3 ho3 S3 lz hop f2
  clear o ws zs
  rintro σ' H3 ⟨o, ws, zs, u1, u2, u3, rfl, ho, g, lz⟩
  obtain ⟨za, hza⟩ : ∃ z, zs[0]? = some z := ⟨_, List.getElem?_eq_getElem (show 0 < zs.length by omega)⟩
  obtain ⟨zb, hzb⟩ : ∃ z, zs[1]? = some z := ⟨_, List.getElem?_eq_getElem (show 1 < zs.length by omega)⟩
  obtain ⟨zc, hzc⟩ : ∃ z, zs[2]? = some z := ⟨_, List.getElem?_eq_getElem (show 2 < zs.length by omega)⟩
  obtain ⟨zd, hzd⟩ : ∃ z, zs[3]? = some z := ⟨_, List.getElem?_eq_getElem (show 3 < zs.length by omega)⟩
  obtain ⟨va, hva, da⟩ := g.get hza
  obtain ⟨vb, hvb, db⟩ := g.get hzb
  obtain ⟨vc, hvc, dc⟩ := g.get hzc
  obtain ⟨vd, hvd, dd⟩ := g.get hzd
  walk_at "z"
  refine z_ixL (.inl (.inl ho)) (nat_idx hva) ?_
  walk_at "z"
  refine z_ixL (.inl (.inl ho)) (nat_idx hvb) ?_
  walk_at "z"
  refine z_ixL (.inl (.inl ho)) (nat_idx hvc) ?_
  walk_at "z"
  refine z_ixL (.inl (.inl ho)) (nat_idx hvd) ?_
  walk_at "z"
  refine ⟨r + 1, by omega, va, vb, vc, vd, za, zb, zc, zd, rfl, r5, da, db, dc, dd, fun pa wa H4 f4 s4 h4 g4 => ?_⟩
  have ho4 := s4 _ _ ho
  walk_at "z"
  refine z_ixL (.inl (.inl ho4)) (nat_idx hva) ?_
  walk_at "z"
  refine z_ixL (.inl (.inl ho4)) (nat_idx hvb) ?_
  walk_at "z"
  refine z_ixL (.inl (.inl ho4)) (nat_idx hvc) ?_
  walk_at "z"
  refine z_ixL (.inl (.inl ho4)) (nat_idx hvd) ?_
  walk_at "z"
  refine ⟨va, vb, vc, vd, za, zb, zc, zd, r, rfl, r5, dp_mono s4 da, dp_mono s4 db, dp_mono s4 dc, dp_mono s4 dd, fun pe we H5 f5 s5 h5 g5 => ?_⟩
  have h45 := s5 _ _ h4
  have g45 := g4.mono s5
  walk_at "z"
  refine ⟨pa, wa, _, rfl, h45, g45, ?_⟩
  walk_at "z"
  refine z_eqSame (dp_gs h45 g45) (dp_gs h5 g5) (shaped_gs _) ?_
  exact q _
end

theorem all_mk {l : PySem.W.OpenLaw} {w : World} {K : PySem.W.Frag} {h : Heap} {mg : Str → Option Value} {fa : Addr} (X : K.In h) (G : h.Ns mainGlobals mg) (hfa : mg "law" = some (.ref fa))
    {a0 : Addr} {od0 an0 : Option Addr} {sl0 : Array (Option Value)} {oc0 kV0 dc0 pm0 cd0 ct0 : Value} {a1 : Addr} {od1 an1 : Option Addr} {sl1 : Array (Option Value)} {oc1 kV1 dc1 pm1 cd1 ct1 : Value} {a2 : Addr} {od2 an2 : Option Addr} {sl2 : Array (Option Value)} {oc2 kV2 dc2 pm2 cd2 ct2 : Value} {a3 : Addr} {od3 an3 : Option Addr} {sl3 : Array (Option Value)} {oc3 kV3 dc3 pm3 cd3 ct3 : Value} {a4 : Addr} {od4 an4 : Option Addr} {sl4 : Array (Option Value)} {oc4 kV4 dc4 pm4 cd4 ct4 : Value} {a5 : Addr} {od5 an5 : Option Addr} {sl5 : Array (Option Value)} {oc5 kV5 dc5 pm5 cd5 ct5 : Value} {a6 : Addr} {od6 an6 : Option Addr} {sl6 : Array (Option Value)} {oc6 kV6 dc6 pm6 cd6 ct6 : Value} {a7 : Addr} {od7 an7 : Option Addr} {sl7 : Array (Option Value)} {oc7 kV7 dc7 pm7 cd7 ct7 : Value} {a8 : Addr} {od8 an8 : Option Addr} {sl8 : Array (Option Value)} {oc8 kV8 dc8 pm8 cd8 ct8 : Value} {a9 : Addr} {od9 an9 : Option Addr} {sl9 : Array (Option Value)} {oc9 kV9 dc9 pm9 cd9 ct9 : Value} {a10 : Addr} {od10 an10 : Option Addr} {sl10 : Array (Option Value)} {oc10 kV10 dc10 pm10 cd10 ct10 : Value} {a11 : Addr} {od11 an11 : Option Addr} {sl11 : Array (Option Value)} {oc11 kV11 dc11 pm11 cd11 ct11 : Value} {a12 : Addr} {od12 an12 : Option Addr} {sl12 : Array (Option Value)} {oc12 kV12 dc12 pm12 cd12 ct12 : Value} {a13 : Addr} {od13 an13 : Option Addr} {sl13 : Array (Option Value)} {oc13 kV13 dc13 pm13 cd13 ct13 : Value} {a14 : Addr} {od14 an14 : Option Addr} {sl14 : Array (Option Value)} {oc14 kV14 dc14 pm14 cd14 ct14 : Value} {t_DEEPEST : Tok} {t_MOST_BENT : Tok}
    (n0 : PySem.W.nsIn K mainGlobals "lay_out" = some (some (.ref a0)))
    (l0 : K.lookup a0 = some ⟨oc0, od0, .func (PySem.W.fnOf "lay_out" "lay_out" (defArgs s_lay_out) (defBody s_lay_out) (defScope s_lay_out) .none kV0 dc0 pm0 an0 cd0 ct0), sl0⟩)
    (c0 : PySem.W.codeIn K cd0 "lay_out" = true) (k0 : PySem.W.keepIn K (.ref a0) = true)
    (n1 : PySem.W.nsIn K mainGlobals "is_flat" = some (some (.ref a1)))
    (l1 : K.lookup a1 = some ⟨oc1, od1, .func (PySem.W.fnOf "is_flat" "is_flat" (defArgs s_is_flat) (defBody s_is_flat) (defScope s_is_flat) .none kV1 dc1 pm1 an1 cd1 ct1), sl1⟩)
    (c1 : PySem.W.codeIn K cd1 "is_flat" = true) (k1 : PySem.W.keepIn K (.ref a1) = true)
    (n2 : PySem.W.nsIn K mainGlobals "is_small" = some (some (.ref a2)))
    (l2 : K.lookup a2 = some ⟨oc2, od2, .func (PySem.W.fnOf "is_small" "is_small" (defArgs s_is_small) (defBody s_is_small) (defScope s_is_small) .none kV2 dc2 pm2 an2 cd2 ct2), sl2⟩)
    (c2 : PySem.W.codeIn K cd2 "is_small" = true) (k2 : PySem.W.keepIn K (.ref a2) = true)
    (n3 : PySem.W.nsIn K mainGlobals "middle" = some (some (.ref a3)))
    (l3 : K.lookup a3 = some ⟨oc3, od3, .func (PySem.W.fnOf "middle" "middle" (defArgs s_middle) (defBody s_middle) (defScope s_middle) .none kV3 dc3 pm3 an3 cd3 ct3), sl3⟩)
    (c3 : PySem.W.codeIn K cd3 "middle" = true) (k3 : PySem.W.keepIn K (.ref a3) = true)
    (n4 : PySem.W.nsIn K mainGlobals "_law_cell" = some (some (.ref a4)))
    (l4 : K.lookup a4 = some ⟨oc4, od4, .func (PySem.W.fnOf "_law_cell" "_law_cell" (defArgs s__law_cell) (defBody s__law_cell) (defScope s__law_cell) .none kV4 dc4 pm4 an4 cd4 ct4), sl4⟩)
    (c4 : PySem.W.codeIn K cd4 "_law_cell" = true) (k4 : PySem.W.keepIn K (.ref a4) = true)
    (n5 : PySem.W.nsIn K mainGlobals "_law_stream" = some (some (.ref a5)))
    (l5 : K.lookup a5 = some ⟨oc5, od5, .func (PySem.W.fnOf "_law_stream" "_law_stream" (defArgs s__law_stream) (defBody s__law_stream) (defScope s__law_stream) .none kV5 dc5 pm5 an5 cd5 ct5), sl5⟩)
    (c5 : PySem.W.codeIn K cd5 "_law_stream" = true) (k5 : PySem.W.keepIn K (.ref a5) = true)
    (n6 : PySem.W.nsIn K mainGlobals "_law_next" = some (some (.ref a6)))
    (l6 : K.lookup a6 = some ⟨oc6, od6, .func (PySem.W.fnOf "_law_next" "_law_next" (defArgs s__law_next) (defBody s__law_next) (defScope s__law_next) .none kV6 dc6 pm6 an6 cd6 ct6), sl6⟩)
    (c6 : PySem.W.codeIn K cd6 "_law_next" = true) (k6 : PySem.W.keepIn K (.ref a6) = true)
    (n7 : PySem.W.nsIn K mainGlobals "_law_coordinate" = some (some (.ref a7)))
    (l7 : K.lookup a7 = some ⟨oc7, od7, .func (PySem.W.fnOf "_law_coordinate" "_law_coordinate" (defArgs s__law_coordinate) (defBody s__law_coordinate) (defScope s__law_coordinate) .none kV7 dc7 pm7 an7 cd7 ct7), sl7⟩)
    (c7 : PySem.W.codeIn K cd7 "_law_coordinate" = true) (k7 : PySem.W.keepIn K (.ref a7) = true)
    (n8 : PySem.W.nsIn K mainGlobals "_law_outline" = some (some (.ref a8)))
    (l8 : K.lookup a8 = some ⟨oc8, od8, .func (PySem.W.fnOf "_law_outline" "_law_outline" (defArgs s__law_outline) (defBody s__law_outline) (defScope s__law_outline) .none kV8 dc8 pm8 an8 cd8 ct8), sl8⟩)
    (c8 : PySem.W.codeIn K cd8 "_law_outline" = true) (k8 : PySem.W.keepIn K (.ref a8) = true)
    (n9 : PySem.W.nsIn K mainGlobals "_law_is_integer" = some (some (.ref a9)))
    (l9 : K.lookup a9 = some ⟨oc9, od9, .func (PySem.W.fnOf "_law_is_integer" "_law_is_integer" (defArgs s__law_is_integer) (defBody s__law_is_integer) (defScope s__law_is_integer) .none kV9 dc9 pm9 an9 cd9 ct9), sl9⟩)
    (c9 : PySem.W.codeIn K cd9 "_law_is_integer" = true) (k9 : PySem.W.keepIn K (.ref a9) = true)
    (n10 : PySem.W.nsIn K mainGlobals "_law_is_grid_list" = some (some (.ref a10)))
    (l10 : K.lookup a10 = some ⟨oc10, od10, .func (PySem.W.fnOf "_law_is_grid_list" "_law_is_grid_list" (defArgs s__law_is_grid_list) (defBody s__law_is_grid_list) (defScope s__law_is_grid_list) .none kV10 dc10 pm10 an10 cd10 ct10), sl10⟩)
    (c10 : PySem.W.codeIn K cd10 "_law_is_grid_list" = true) (k10 : PySem.W.keepIn K (.ref a10) = true)
    (n11 : PySem.W.nsIn K mainGlobals "_law_middle" = some (some (.ref a11)))
    (l11 : K.lookup a11 = some ⟨oc11, od11, .func (PySem.W.fnOf "_law_middle" "_law_middle" (defArgs s__law_middle) (defBody s__law_middle) (defScope s__law_middle) .none kV11 dc11 pm11 an11 cd11 ct11), sl11⟩)
    (c11 : PySem.W.codeIn K cd11 "_law_middle" = true) (k11 : PySem.W.keepIn K (.ref a11) = true)
    (n12 : PySem.W.nsIn K mainGlobals "_law_bends" = some (some (.ref a12)))
    (l12 : K.lookup a12 = some ⟨oc12, od12, .func (PySem.W.fnOf "_law_bends" "_law_bends" (defArgs s__law_bends) (defBody s__law_bends) (defScope s__law_bends) .none kV12 dc12 pm12 an12 cd12 ct12), sl12⟩)
    (c12 : PySem.W.codeIn K cd12 "_law_bends" = true) (k12 : PySem.W.keepIn K (.ref a12) = true)
    (n13 : PySem.W.nsIn K mainGlobals "_law_lay_out" = some (some (.ref a13)))
    (l13 : K.lookup a13 = some ⟨oc13, od13, .func (PySem.W.fnOf "_law_lay_out" "_law_lay_out" (defArgs s__law_lay_out) (defBody s__law_lay_out) (defScope s__law_lay_out) .none kV13 dc13 pm13 an13 cd13 ct13), sl13⟩)
    (c13 : PySem.W.codeIn K cd13 "_law_lay_out" = true) (k13 : PySem.W.keepIn K (.ref a13) = true)
    (n14 : PySem.W.nsIn K mainGlobals "law" = some (some (.ref a14)))
    (l14 : K.lookup a14 = some ⟨oc14, od14, .func (PySem.W.fnOf "law" "law" (defArgs s_law) (defBody s_law) (defScope s_law) .none kV14 dc14 pm14 an14 cd14 ct14), sl14⟩)
    (c14 : PySem.W.codeIn K cd14 "law" = true) (k14 : PySem.W.keepIn K (.ref a14) = true)
    (z_bool : PySem.W.nsIn K mainGlobals "bool" = some none)
    (z_int : PySem.W.nsIn K mainGlobals "int" = some none)
    (z_isinstance : PySem.W.nsIn K mainGlobals "isinstance" = some none)
    (z_len : PySem.W.nsIn K mainGlobals "len" = some none)
    (z_list : PySem.W.nsIn K mainGlobals "list" = some none)
    (z_range : PySem.W.nsIn K mainGlobals "range" = some none)
    (z_tuple : PySem.W.nsIn K mainGlobals "tuple" = some none)
    (c_DEEPEST : PySem.W.nsIn K mainGlobals "DEEPEST" = some (some (.int (5) t_DEEPEST)))
    (c_MOST_BENT : PySem.W.nsIn K mainGlobals "MOST_BENT" = some (some (.int (16) t_MOST_BENT)))
    : ∃ fd : FuncData, (∀ (s : Shared) (v : Value), BindsTo s fd ⟨[v], []⟩ [("script", v)]) ∧ ∀ base : Heap, K.In base → base.Ns mainGlobals mg → FnOk l.prog w K mg base CX0 10 fa fd ["script"] (sp_law K) := by
  have e := hfa.symm.trans (PySem.W.mg_of X G n14)
  cases e
  have F0 := fun_mk (st := s_lay_out) l0 c0 k0
  have b0 := F0.binds (ps := ["a", "b", "c", "d", "depth"]) fun _ _ _ _ _ _ us hl => match us, hl with | [_, _, _, _, _], _ => rfl
  have F1 := fun_mk (st := s_is_flat) l1 c1 k1
  have b1 := F1.binds (ps := ["a", "b", "c"]) fun _ _ _ _ _ _ us hl => match us, hl with | [_, _, _], _ => rfl
  have F2 := fun_mk (st := s_is_small) l2 c2 k2
  have b2 := F2.binds (ps := ["bend"]) fun _ _ _ _ _ _ us hl => match us, hl with | [_], _ => rfl
  have F3 := fun_mk (st := s_middle) l3 c3 k3
  have b3 := F3.binds (ps := ["p", "q"]) fun _ _ _ _ _ _ us hl => match us, hl with | [_, _], _ => rfl
  have F4 := fun_mk (st := s__law_cell) l4 c4 k4
  have b4 := F4.binds (ps := ["script", "k"]) fun _ _ _ _ _ _ us hl => match us, hl with | [_, _], _ => rfl
  have F5 := fun_mk (st := s__law_stream) l5 c5 k5
  have b5 := F5.binds (ps := ["cell"]) fun _ _ _ _ _ _ us hl => match us, hl with | [_], _ => rfl
  have F6 := fun_mk (st := s__law_next) l6 c6 k6
  have b6 := F6.binds (ps := ["stream", "size"]) fun _ _ _ _ _ _ us hl => match us, hl with | [_, _], _ => rfl
  have F7 := fun_mk (st := s__law_coordinate) l7 c7 k7
  have b7 := F7.binds (ps := ["stream", "mode"]) fun _ _ _ _ _ _ us hl => match us, hl with | [_, _], _ => rfl
  have F8 := fun_mk (st := s__law_outline) l8 c8 k8
  have b8 := F8.binds (ps := ["stream", "count", "modes"]) fun _ _ _ _ _ _ us hl => match us, hl with | [_, _, _], _ => rfl
  have F9 := fun_mk (st := s__law_is_integer) l9 c9 k9
  have b9 := F9.binds (ps := ["actual"]) fun _ _ _ _ _ _ us hl => match us, hl with | [_], _ => rfl
  have F10 := fun_mk (st := s__law_is_grid_list) l10 c10 k10
  have b10 := F10.binds (ps := ["actual"]) fun _ _ _ _ _ _ us hl => match us, hl with | [_], _ => rfl
  have F11 := fun_mk (st := s__law_middle) l11 c11 k11
  have b11 := F11.binds (ps := ["p", "q"]) fun _ _ _ _ _ _ us hl => match us, hl with | [_, _], _ => rfl
  have F12 := fun_mk (st := s__law_bends) l12 c12 k12
  have b12 := F12.binds (ps := ["p", "q", "r"]) fun _ _ _ _ _ _ us hl => match us, hl with | [_, _, _], _ => rfl
  have F13 := fun_mk (st := s__law_lay_out) l13 c13 k13
  have b13 := F13.binds (ps := ["a", "b", "c", "d", "depth"]) fun _ _ _ _ _ _ us hl => match us, hl with | [_, _, _, _, _], _ => rfl
  have F14 := fun_mk (st := s_law) l14 c14 k14
  have b14 := F14.binds (ps := ["script"]) fun _ _ _ _ _ _ us hl => match us, hl with | [_], _ => rfl
  let A : Nat → Addr := fun | 0 => a0 | 1 => a1 | 2 => a2 | 3 => a3 | 4 => a4 | 5 => a5 | 6 => a6 | 7 => a7 | 8 => a8 | 9 => a9 | 10 => a10 | 11 => a11 | 12 => a12 | 13 => a13 | 14 => fa | _ => 0
  let D : Nat → FuncData := fun | 0 => PySem.W.fnOf "lay_out" "lay_out" (defArgs s_lay_out) (defBody s_lay_out) (defScope s_lay_out) .none kV0 dc0 pm0 an0 cd0 ct0 | 1 => PySem.W.fnOf "is_flat" "is_flat" (defArgs s_is_flat) (defBody s_is_flat) (defScope s_is_flat) .none kV1 dc1 pm1 an1 cd1 ct1 | 2 => PySem.W.fnOf "is_small" "is_small" (defArgs s_is_small) (defBody s_is_small) (defScope s_is_small) .none kV2 dc2 pm2 an2 cd2 ct2 | 3 => PySem.W.fnOf "middle" "middle" (defArgs s_middle) (defBody s_middle) (defScope s_middle) .none kV3 dc3 pm3 an3 cd3 ct3 | 4 => PySem.W.fnOf "_law_cell" "_law_cell" (defArgs s__law_cell) (defBody s__law_cell) (defScope s__law_cell) .none kV4 dc4 pm4 an4 cd4 ct4 | 5 => PySem.W.fnOf "_law_stream" "_law_stream" (defArgs s__law_stream) (defBody s__law_stream) (defScope s__law_stream) .none kV5 dc5 pm5 an5 cd5 ct5 | 6 => PySem.W.fnOf "_law_next" "_law_next" (defArgs s__law_next) (defBody s__law_next) (defScope s__law_next) .none kV6 dc6 pm6 an6 cd6 ct6 | 7 => PySem.W.fnOf "_law_coordinate" "_law_coordinate" (defArgs s__law_coordinate) (defBody s__law_coordinate) (defScope s__law_coordinate) .none kV7 dc7 pm7 an7 cd7 ct7 | 8 => PySem.W.fnOf "_law_outline" "_law_outline" (defArgs s__law_outline) (defBody s__law_outline) (defScope s__law_outline) .none kV8 dc8 pm8 an8 cd8 ct8 | 9 => PySem.W.fnOf "_law_is_integer" "_law_is_integer" (defArgs s__law_is_integer) (defBody s__law_is_integer) (defScope s__law_is_integer) .none kV9 dc9 pm9 an9 cd9 ct9 | 10 => PySem.W.fnOf "_law_is_grid_list" "_law_is_grid_list" (defArgs s__law_is_grid_list) (defBody s__law_is_grid_list) (defScope s__law_is_grid_list) .none kV10 dc10 pm10 an10 cd10 ct10 | 11 => PySem.W.fnOf "_law_middle" "_law_middle" (defArgs s__law_middle) (defBody s__law_middle) (defScope s__law_middle) .none kV11 dc11 pm11 an11 cd11 ct11 | 12 => PySem.W.fnOf "_law_bends" "_law_bends" (defArgs s__law_bends) (defBody s__law_bends) (defScope s__law_bends) .none kV12 dc12 pm12 an12 cd12 ct12 | 13 => PySem.W.fnOf "_law_lay_out" "_law_lay_out" (defArgs s__law_lay_out) (defBody s__law_lay_out) (defScope s__law_lay_out) .none kV13 dc13 pm13 an13 cd13 ct13 | _ => PySem.W.fnOf "law" "law" (defArgs s_law) (defBody s_law) (defScope s_law) .none kV14 dc14 pm14 an14 cd14 ct14
  have T : Txt K mg A D :=
    {F_lay_out := F0,
     m_lay_out := PySem.W.mg_of X G n0,
     b_lay_out := b0,
     F_is_flat := F1,
     m_is_flat := PySem.W.mg_of X G n1,
     b_is_flat := b1,
     F_is_small := F2,
     m_is_small := PySem.W.mg_of X G n2,
     b_is_small := b2,
     F_middle := F3,
     m_middle := PySem.W.mg_of X G n3,
     b_middle := b3,
     F__law_cell := F4,
     m__law_cell := PySem.W.mg_of X G n4,
     b__law_cell := b4,
     F__law_stream := F5,
     m__law_stream := PySem.W.mg_of X G n5,
     b__law_stream := b5,
     F__law_next := F6,
     m__law_next := PySem.W.mg_of X G n6,
     b__law_next := b6,
     F__law_coordinate := F7,
     m__law_coordinate := PySem.W.mg_of X G n7,
     b__law_coordinate := b7,
     F__law_outline := F8,
     m__law_outline := PySem.W.mg_of X G n8,
     b__law_outline := b8,
     F__law_is_integer := F9,
     m__law_is_integer := PySem.W.mg_of X G n9,
     b__law_is_integer := b9,
     F__law_is_grid_list := F10,
     m__law_is_grid_list := PySem.W.mg_of X G n10,
     b__law_is_grid_list := b10,
     F__law_middle := F11,
     m__law_middle := PySem.W.mg_of X G n11,
     b__law_middle := b11,
     F__law_bends := F12,
     m__law_bends := PySem.W.mg_of X G n12,
     b__law_bends := b12,
     F__law_lay_out := F13,
     m__law_lay_out := PySem.W.mg_of X G n13,
     b__law_lay_out := b13,
     F_law := F14,
     m_law := PySem.W.mg_of X G n14,
     b_law := b14,
     z_bool := PySem.W.mg_none_of X G z_bool,
     z_int := PySem.W.mg_none_of X G z_int,
     z_isinstance := PySem.W.mg_none_of X G z_isinstance,
     z_len := PySem.W.mg_none_of X G z_len,
     z_list := PySem.W.mg_none_of X G z_list,
     z_range := PySem.W.mg_none_of X G z_range,
     z_tuple := PySem.W.mg_none_of X G z_tuple,
     c_DEEPEST := ⟨_, PySem.W.mg_of X G c_DEEPEST, _, rfl⟩,
     c_MOST_BENT := ⟨_, PySem.W.mg_of X G c_MOST_BENT, _, rfl⟩}
  exact ⟨_, fun s v => .of_eq rfl, fun base _ _ => ok_law T⟩
end G
open PySem PySem.W PyProof.Rows
set_option maxRecDepth 100000 in
set_option maxHeartbeats 0 in
theorem PySem.Challenge.cw_fontwinding_k20_lay_out_a_curve_holds : PySem.Challenge.rw_fontwinding_k20_lay_out_a_curve.Holds := by
  w_on; o_law; k_head; (case hw => w_witness2)
  k_fill
  refine L2.walk_of (l := PySem.Challenge.rw_fontwinding_k20_lay_out_a_curve) (n := 63) (k := 10) (x := "script") (CX := fun _ => L2.CX0) (sp := fun w => G.sp_law _) rfl (by decide) rfl ⟨rfl, by decide, by decide⟩ (fun w h Y => PySem.W.kIn_of Y) ?F (fun _ _ a ns hl _ hS => ⟨a, ns, rfl, hS, hl, fun _ => rfl⟩) (fun _ _ _ _ _ h => h)
  case F =>
    intro w mg fa h KX G0 hmg
    refine' G.all_mk KX G0 hmg ?n0 ?l0 ?c0 ?k0 ?n1 ?l1 ?c1 ?k1 ?n2 ?l2 ?c2 ?k2 ?n3 ?l3 ?c3 ?k3 ?n4 ?l4 ?c4 ?k4 ?n5 ?l5 ?c5 ?k5 ?n6 ?l6 ?c6 ?k6 ?n7 ?l7 ?c7 ?k7 ?n8 ?l8 ?c8 ?k8 ?n9 ?l9 ?c9 ?k9 ?n10 ?l10 ?c10 ?k10 ?n11 ?l11 ?c11 ?k11 ?n12 ?l12 ?c12 ?k12 ?n13 ?l13 ?c13 ?k13 ?n14 ?l14 ?c14 ?k14 ?z_bool ?z_int ?z_isinstance ?z_len ?z_list ?z_range ?z_tuple ?c_DEEPEST ?c_MOST_BENT
    (case n0 => k_is)
    (case l0 => k_is)
    (case c0 => k_is)
    (case k0 => k_is)
    (case n1 => k_is)
    (case l1 => k_is)
    (case c1 => k_is)
    (case k1 => k_is)
    (case n2 => k_is)
    (case l2 => k_is)
    (case c2 => k_is)
    (case k2 => k_is)
    (case n3 => k_is)
    (case l3 => k_is)
    (case c3 => k_is)
    (case k3 => k_is)
    (case n4 => k_is)
    (case l4 => k_is)
    (case c4 => k_is)
    (case k4 => k_is)
    (case n5 => k_is)
    (case l5 => k_is)
    (case c5 => k_is)
    (case k5 => k_is)
    (case n6 => k_is)
    (case l6 => k_is)
    (case c6 => k_is)
    (case k6 => k_is)
    (case n7 => k_is)
    (case l7 => k_is)
    (case c7 => k_is)
    (case k7 => k_is)
    (case n8 => k_is)
    (case l8 => k_is)
    (case c8 => k_is)
    (case k8 => k_is)
    (case n9 => k_is)
    (case l9 => k_is)
    (case c9 => k_is)
    (case k9 => k_is)
    (case n10 => k_is)
    (case l10 => k_is)
    (case c10 => k_is)
    (case k10 => k_is)
    (case n11 => k_is)
    (case l11 => k_is)
    (case c11 => k_is)
    (case k11 => k_is)
    (case n12 => k_is)
    (case l12 => k_is)
    (case c12 => k_is)
    (case k12 => k_is)
    (case n13 => k_is)
    (case l13 => k_is)
    (case c13 => k_is)
    (case k13 => k_is)
    (case n14 => k_is)
    (case l14 => k_is)
    (case c14 => k_is)
    (case k14 => k_is)
    (case z_bool => k_is)
    (case z_int => k_is)
    (case z_isinstance => k_is)
    (case z_len => k_is)
    (case z_list => k_is)
    (case z_range => k_is)
    (case z_tuple => k_is)
    (case c_DEEPEST => k_is)
    (case c_MOST_BENT => k_is)
