import PyProof.Rows.All
import Wide.All
import OpenK.AllK
import Wide.FinOn
import HandS.ForMost
import HandS.ForExc
import HandS.Wide
import HandS.Gcd
import HandS.IsInst
import HandS.ExcIs
import HandS.TryMany
import HandS.Evl
import HandS.Style
import HandS.SetBool
import HandS.Strs
import HandS.SortInts
import PySem.Challenge.RW_fontwinding_k60_tables_and_their_values
set_option Elab.async false
set_option linter.all false
set_option maxRecDepth 100000
set_option maxHeartbeats 4000000
namespace Z
open PySem PySem.Spec PyProof.Rows L2

/-! ### operators -/
section
variable {X : Cx}
def CFd (_ j : Int) : Prop := j ≠ 0 ∧ j.natAbs.log2 < 9000
theorem op_fdivZ : OpR X (binaryOp .FloorDiv) (rI CFd fun i j => .int (i.fdiv j)) := opI fun i j _ _ _ _ _ hc q => floordiv_int hc.1 q (.inl (PyProof.noPylong_of_log2 hc.2))
theorem pe_globE {x : Str} {pos : Pos} {v : V} (h : ∃ u, X.mg x = some u ∧ RelV v u) (hg : Gl X x := by rfl) (hdb : (x == ("__debug__" : Str)) = false := by decide) : PE X (.Name x pos) (tC v) := by
  obtain ⟨u, h1, h2⟩ := h
  exact pe_glob hg h1 h2 hdb
theorem pe_globR {x : Str} {pos : Pos} {a : Addr} (h : X.mg x = some (.ref a)) (hg : Gl X x := by rfl) (hdb : (x == ("__debug__" : Str)) = false := by decide) : PE X (.Name x pos) (tC (.ref a)) := pe_glob hg h rfl hdb
end
/-- an own error class over ValueError -/
structure ExcX (K : PySem.W.Frag) (mg : Str → Option Value) (x : Str) (C : Addr) : Prop where
  g : mg x = some (.ref C)
  q : PySem.W.excIn K C [.type "ValueError", .type "Exception", .type "BaseException", .type "object"] "ValueError.__new__" = true
  k : PySem.W.keepIn K (.ref C) = true
  t : PySem.W.typeIn K (.ref C) = some (.type "type")
  c : ExcC K C
  v : PySem.W.subIn K (.ref C) (.type "ValueError") = some true
section
variable {X : Cx} {C D : Addr} {K : PySem.W.Frag} {mg : Str → Option Value} {x y : Str} {b : Bool}
theorem pmk {m : Str} {j : Nat} {p p2 pos : Pos} (E : ExcX X.K X.mg x C) (hg : Gl X x) (hdb : (x == ("__debug__" : Str)) = false := by decide) :
    PMk X (.Call (.Name x p) [.Constant (.str m) j p2] [] pos) (fun _ H Q => Q (.ref C) none H) := pmk_own PySem.F.excBase_ValueError E.q E.g E.k (raises_own E.c.hs E.t) hg hdb
theorem exm (E : ExcX K mg x C) (h : PySem.W.subIn K (.ref D) (.ref C) = some b) : PySem.W.exmOne K (.ref D) (.ref C) = some b := PySem.W.exm_ref E.c.hs E.c.hd E.t h
theorem kit_own (E : ExcX K mg x C) (h : PySem.W.subIn K (.ref D) (.ref C) = some b) (hs : PySem.W.subIn K (.ref C) (.ref C) = some true) : PySem.W.kitOne K (.ref D) (.ref C) = some b := by
  unfold PySem.W.kitOne
  by_cases e : D = C
  · subst e
    rw [hs] at h
    cases h
    rw [if_pos (by simp)]
  · rw [if_neg (by simpa using e)]
    unfold PySem.W.kitCls
    obtain ⟨cd, hc, _⟩ := PySem.W.any_some E.c.hd
    have e2 : ((PySem.W.clsIn K C).isSome && PySem.W.typeIn K (.ref C) == some (.type "type")) = true := by rw [hc, E.t] <;> rfl
    show (if _ then _ else _) = _
    rw [if_pos e2, h]
theorem kit_ve (E : ExcX K mg x D) : PySem.W.kitOne K (.ref D) (.type "ValueError") = some true := by
  unfold PySem.W.kitOne
  rw [if_neg (by simp)]
  unfold PySem.W.kitCls
  show (if _ then _ else _) = _
  rw [if_pos (by decide +kernel), E.v]
/-- isinstance of the error that a suite holds -/
def rIsEx (K : PySem.W.Frag) (cls : Value) (d : Option Addr) (a : Addr) : List V → Hp → VK → Prop := fun xs H Q => ∃ D, cls = .ref D ∧ d = none ∧ ExcC K D ∧ rIsE K D a xs H Q
theorem call_isE {a : Addr} {oe : Obj} {cls : Value} {d : Option Addr} {pn : List (Addr × Obj)} (hz : Zc cls d oe) (hf : ∃ vs, oe.data = .fields vs) : CallR (X.suite a ((a, oe) :: pn)) (.builtin "isinstance") (rIsEx X.K cls d a) := by
  intro pins s σ H xs us Q I r h
  obtain ⟨D, e1, e2, c, h⟩ := h
  subst e1
  subst e2
  exact L2.call_isE c hz hf pins s σ H xs us Q I r h
end

/-! ### heaps -/
theorem same_upd {H : Hp} {p : Addr} {o : HO} (h : H p = none) : Same H (upd H p o) := fun b x e => by
  rw [upd_ne (ne_of_none e h)]
  exact e
theorem Same.seqT {K : PySem.W.Frag} {H H' : Hp} {a : Addr} {xs : List V} (e : Same H H') (h : SqT K H a xs) : SqT K H' a xs := by
  rcases h with (h | ⟨o, h⟩) | h
  · exact .inl (.inl (e _ _ h))
  · exact .inl (.inr ⟨o, e _ _ h⟩)
  · exact .inr h
theorem seqT {K : PySem.W.Frag} {H H' : Hp} {a : Addr} {xs : List V} (e : Same H H') (h : SqT K H a xs) : SqT K H' a xs := Same.seqT e h
theorem sz {n : Nat} (h : n ≤ 1000) : n ≤ sizeLine := Nat.le_trans h (by decide)

/-! ### readings, step by step -/
def NewT (Q : VK) : List V → Hp → Prop := fun xs H1 => xs.length ≤ sizeLine ∧ ∀ p, H1 p = none → Q (.ref p) (upd H1 p (.tup xs))
def NewL (Q : VK) : List V → Hp → Prop := fun xs H1 => xs.length ≤ sizeLine ∧ ∀ p, H1 p = none → Q (.ref p) (upd H1 p (.lst xs))
section
variable {σ : L2.St} {H : Hp} {n : L2.St → Hp → Prop} {r : VK} {b c : L2.St → Hp → Prop} {t u : TS} {te ta tb : TE} {tt tu : TT} {Q : VK} {QB : Bool → Hp → Prop} {v w x y : V} {i j : Int} {K : PySem.W.Frag}
theorem z_seq (h : t ⟨u ⟨n, r, b, c⟩, r, b, c⟩ σ H) : tSeq t u ⟨n, r, b, c⟩ σ H := h
theorem z_asg {k : Nat} (h : te σ H fun x H1 => n (σ.set k (some x)) H1) : tAsg te (gName k) ⟨n, r, b, c⟩ σ H := h
theorem z_asgS {to ti : TE} {st : TSet} (h : te σ H fun v H0 => to σ H0 fun o H1 => ti σ H1 fun k H2 => st o k v H2 fun H3 => n σ H3) : tAsg te (gSub to ti st) ⟨n, r, b, c⟩ σ H := h
theorem z_drop (h : te σ H fun _ H1 => n σ H1) : tDrop te ⟨n, r, b, c⟩ σ H := h
theorem z_ret (h : te σ H r) : tRet te ⟨n, r, b, c⟩ σ H := h
theorem z_retN (h : r .non H) : tRetN ⟨n, r, b, c⟩ σ H := h
theorem z_next (h : n σ H) : tNext ⟨n, r, b, c⟩ σ H := h
theorem z_brk (h : b σ H) : tBreak ⟨n, r, b, c⟩ σ H := h
theorem z_cont (h : c σ H) : tCont ⟨n, r, b, c⟩ σ H := h
theorem z_ifs (h : tt σ H fun k H1 => if k = true then t ⟨n, r, b, c⟩ σ H1 else u ⟨n, r, b, c⟩ σ H1) : tIfS tt t u ⟨n, r, b, c⟩ σ H := h
theorem z_par {p q : Nat} {tl : TA} (h : tl σ H fun vs H1 => ∃ v w, vs = [v, w] ∧ n ((σ.set p (some v)).set q (some w)) H1) : tPar p q tl ⟨n, r, b, c⟩ σ H := h
theorem z_two {R : V → V → Prop} (h : R v w) : ∃ v' w', [v, w] = [v', w'] ∧ R v' w' := ⟨v, w, rfl, h⟩
theorem z_aug {k : Nat} {ti : TIp} (h : σ[k]? = some (some x)) (q : te σ H fun y H1 => ti x y H1 fun z H2 => n (σ.set k (some z)) H2) : tAug k te ti ⟨n, r, b, c⟩ σ H := ⟨x, h, q⟩
theorem z_ipI {f : Int → Int → Int} (q : Q (.int (f i j)) H) : ipI f (.int i) (.int j) H Q := ⟨i, j, rfl, rfl, q⟩
theorem z_var {k : Nat} (h : σ[k]? = some (some v)) (q : Q v H) : tVar k σ H Q := ⟨v, h, q⟩
theorem z_c (q : Q v H) : tC v σ H Q := q
theorem z_op {g : R2} (h : ta σ H fun x H1 => tb σ H1 fun y H2 => g x y H2 Q) : tOp g ta tb σ H Q := h
theorem z_un {g : V → Hp → VK → Prop} (h : ta σ H fun x H1 => g x H1 Q) : tUn g ta σ H Q := h
theorem z_I0 {g : Int → Int → V} (q : Q (g i j) H) : rI0 g (.int i) (.int j) H Q := ⟨i, j, rfl, rfl, q⟩
theorem z_I {C : Int → Int → Prop} {g : Int → Int → V} (hc : C i j) (q : Q (g i j) H) : rI C g (.int i) (.int j) H Q := ⟨i, j, rfl, rfl, hc, q⟩
theorem z_U {g : Int → V} (q : Q (g i) H) : rU g (.int i) H Q := ⟨i, rfl, q⟩
theorem z_eqI (q : Q (.bl (decide (i = j))) H) : rEq (.int i) (.int j) H Q := ⟨rfl, by rw [show decide (V.int i = V.int j) = decide (i = j) by simp]; exact q⟩
theorem z_neI (q : Q (.bl (decide (¬ i = j))) H) : rNe (.int i) (.int j) H Q := ⟨rfl, by rw [show (!decide (V.int i = V.int j)) = decide (¬ i = j) by simp]; exact q⟩
theorem z_eq (h : scal x y = true) (q : Q (.bl (decide (x = y))) H) : rEq x y H Q := ⟨h, q⟩
theorem z_test (h : te σ H fun x H1 => ∃ k, x = .bl k ∧ QB k H1) : tTest te σ H QB := h
theorem z_tB (h : te σ H fun x H1 => ∃ k, x = .bl k ∧ QB k H1) : tB te σ H QB := h
theorem z_bl {k : Bool} {R : Bool → Prop} (q : R k) : ∃ k', V.bl k = V.bl k' ∧ R k' := ⟨k, rfl, q⟩
theorem z_notT (h : tt σ H fun k H1 => QB (!k) H1) : tNot tt σ H QB := h
theorem z_andT (h : tt σ H fun k H1 => if k = true then tu σ H1 QB else QB false H1) : tAnd tt tu σ H QB := h
theorem z_orT (h : tt σ H fun k H1 => if k = true then QB true H1 else tu σ H1 QB) : tOr tt tu σ H QB := h
theorem z_andV (h : ta σ H fun x H1 => ∃ k, x = .bl k ∧ if k = true then tb σ H1 Q else Q (.bl false) H1) : tAndV ta tb σ H Q := h
theorem z_orV (h : ta σ H fun x H1 => ∃ k, x = .bl k ∧ if k = true then Q (.bl true) H1 else tb σ H1 Q) : tOrV ta tb σ H Q := h
theorem z_notV (h : ta σ H fun x H1 => ∃ k, x = .bl k ∧ Q (.bl (!k)) H1) : tNotV ta σ H Q := h
theorem z_ifE (h : tt σ H fun k H1 => if k = true then ta σ H1 Q else tb σ H1 Q) : tIf tt ta tb σ H Q := h
theorem z_chain {g g' : R2} {tc : TE} (h : ta σ H fun x H1 => tb σ H1 fun y H2 => g x y H2 fun z H3 => ∃ k, z = .bl k ∧ (if k = true then tc σ H3 fun w' H4 => g' y w' H4 Q else Q (.bl false) H3)) : tChain g g' ta tb tc σ H Q := h
theorem z_nil {R : List V → Hp → Prop} (q : R [] H) : tNil σ H R := q
theorem z_cons {tr : TA} {R : List V → Hp → Prop} (h : ta σ H fun x H1 => tr σ H1 fun xs H2 => R (x :: xs) H2) : tCons ta tr σ H R := h
theorem z_tup {tl : TA} (h : tl σ H (NewT Q)) : tTup tl σ H Q := h
theorem z_lst {tl : TA} (h : tl σ H (NewL Q)) : tLst tl σ H Q := h
theorem z_newT {xs : List V} (hl : xs.length ≤ 1000) (q : ∀ p H', H p = none → Same H H' → H' p = some (.tup xs) → Q (.ref p) H') : NewT Q xs H := ⟨sz hl, fun p hp => q p _ hp (same_upd hp) upd_same⟩
theorem z_newL {xs : List V} (hl : xs.length ≤ 1000) (q : ∀ p H', H p = none → Same H H' → H' p = some (.lst xs) → Q (.ref p) H') : NewL Q xs H := ⟨sz hl, fun p hp => q p _ hp (same_upd hp) upd_same⟩
theorem z_cb {g : List V → Hp → VK → Prop} {tl : TA} (h : tl σ H fun vs H1 => g vs H1 Q) : tCB g tl σ H Q := h
theorem z_call {sp : Sp} {E : XK} {tl : TA} (h : tl σ H fun vs H1 => sp vs H1 Q E) : tCall sp [] E tl σ H Q := by
  unfold tCall
  simpa only [List.append_nil] using h
theorem z_callS {sp : Sp} {E : L2.St → XK} {tl : TA} (h : tl σ H fun vs H1 => sp vs H1 Q (E σ)) : tCallS sp E tl σ H Q := h
theorem z_ixL {p : Addr} {xs : List V} (h : SqL K H p xs) (ha : atI xs i = some v) (q : Q v H) : rIxL K (.ref p) (.int i) H Q := ⟨p, xs, i, v, rfl, rfl, h, ha, q⟩
theorem z_ixT {p : Addr} {xs : List V} (h : SqT K H p xs) (ha : atI xs i = some v) (q : Q v H) : rIxT K (.ref p) (.int i) H Q := ⟨p, xs, i, v, rfl, rfl, h, ha, q⟩
theorem z_setL {p : Addr} {xs : List V} {k : Nat} {R : Hp → Prop} (h : H p = some (.lst xs)) (hk : ixN xs.length i = some k) (q : R (upd H p (.lst (xs.set k v)))) : rSetL (.ref p) (.int i) v H R := ⟨p, xs, i, k, rfl, rfl, h, hk, q⟩
theorem z_if {p : Prop} [Decidable p] {A B : Prop} (h1 : p → A) (h2 : ¬ p → B) : if decide p = true then A else B := by
  by_cases h : p
  · rw [if_pos (decide_eq_true h)]
    exact h1 h
  · rw [if_neg (by simpa using h)]
    exact h2 h
theorem z_ifB {k : Bool} {A B : Prop} (h1 : k = true → A) (h2 : k = false → B) : if k = true then A else B := by
  cases k with
  | true => exact h1 rfl
  | false => exact h2 rfl
/-- and, or, not of a test whose answer is known, the heap as it was -/
theorem z_andK {k k' : Bool} (h : k = true → ∀ R : Bool → Hp → Prop, R k' H → tu σ H R) (q : QB (k && k') H) : if k = true then tu σ H QB else QB false H := by
  cases k with
  | true => exact h rfl QB q
  | false => exact q
theorem z_orK {k k' : Bool} (h : k = false → ∀ R : Bool → Hp → Prop, R k' H → tu σ H R) (q : QB (k || k') H) : if k = true then QB true H else tu σ H QB := by
  cases k with
  | true => exact q
  | false => exact h rfl QB q
theorem z_andKV {k k' : Bool} (h : k = true → ∀ R : VK, R (.bl k') H → tb σ H R) (q : Q (.bl (k && k')) H) : if k = true then tb σ H Q else Q (.bl false) H := by
  cases k with
  | true => exact h rfl Q q
  | false => exact q
theorem z_orKV {k k' : Bool} (h : k = false → ∀ R : VK, R (.bl k') H → tb σ H R) (q : Q (.bl (k || k')) H) : if k = true then Q (.bl true) H else tb σ H Q := by
  cases k with
  | true => exact q
  | false => exact h rfl Q q
/-- the second comparison of a chain -/
theorem z_chK {k k' : Bool} {tc : TE} {g' : R2} (h : k = true → ∀ R : VK, R (.bl k') H → tc σ H fun w' H4 => g' y w' H4 R) (q : Q (.bl (k && k')) H) :
    if k = true then tc σ H fun w' H4 => g' y w' H4 Q else Q (.bl false) H := by
  cases k with
  | true => exact h rfl Q q
  | false => exact q
theorem z_ty {x : V} {t : String} {T : String} {k : Bool} {H : Hp} {Q : VK} (h : TyX K H x (.type t)) (e : kitB t T = some k) (q : Q (.bl k) H) : rIsi K [x, .ty T] H Q := ⟨x, .ty T, .type t, .type T, k, rfl, .ty T, h, kit_ty e, q⟩
end
end Z
namespace Z
open PySem PySem.Spec PyProof.Rows L2
theorem pe_powc {X : Cx} {a b v : Int} {j1 j2 : Nat} {p1 p2 pos : Pos} (h0 : CPow a b) (hv : a ^ b.toNat = v) : PE X (.BinOp (.Constant (.int a) j1 p1) .Pow (.Constant (.int b) j2 p2) pos) (tC (.int v)) := by
  subst hv
  exact ⟨fun pins s σ H Q I h => (pe_op op_pow pe_int pe_int).run pins s σ H Q I ⟨a, b, rfl, rfl, h0, h⟩⟩
def rInt1 : List V → Hp → VK → Prop := fun xs H Q => (∃ i, xs = [.int i] ∧ Q (.int i) H) ∨ ∃ k, xs = [.bl k] ∧ Q (.int (if k then 1 else 0)) H
def rAbs : List V → Hp → VK → Prop := fun xs H Q => ∃ i, xs = [.int i] ∧ Q (.int (if i < 0 then -i else i)) H
def rLen (K : PySem.W.Frag) : List V → Hp → VK → Prop := fun xs H Q => ∃ p ys, xs = [.ref p] ∧ (SqL K H p ys ∨ SqT K H p ys) ∧ Q (.int ys.length) H
theorem c_int {X : Cx} : CallR X (.type "int") rInt1 := call_int1
theorem c_abs {X : Cx} : CallR X (.builtin "abs") rAbs := call_abs
theorem c_len {X : Cx} : CallR X (.builtin "len") (rLen X.K) := call_len_seq
section
variable {H : Hp} {Q : VK} {i j : Int} {v : V} {R : Prop}
theorem z_int1 (q : Q (.int i) H) : rInt1 [.int i] H Q := .inl ⟨i, rfl, q⟩
theorem z_int1b {k : Bool} (q : Q (.int (if k then 1 else 0)) H) : rInt1 [.bl k] H Q := .inr ⟨k, rfl, q⟩
theorem z_abs (q : Q (.int (if i < 0 then -i else i)) H) : rAbs [.int i] H Q := ⟨i, rfl, q⟩
theorem z_gcd (q : Q (.int ((Nat.gcd i.natAbs j.natAbs : Nat) : Int)) H) : rGcd [.int i, .int j] H Q := ⟨i, j, rfl, q⟩
theorem z_lenL {K : PySem.W.Frag} {p : Addr} {xs : List V} (h : SqL K H p xs) (q : Q (.int (xs.length : Int)) H) : rLen K [.ref p] H Q := ⟨p, xs, rfl, .inl h, q⟩
theorem z_lenT {K : PySem.W.Frag} {p : Addr} {xs : List V} (h : SqT K H p xs) (q : Q (.int (xs.length : Int)) H) : rLen K [.ref p] H Q := ⟨p, xs, rfl, .inr h, q⟩
theorem z_isII {K : PySem.W.Frag} (q : Q (.bl true) H) : rIsi K [.int i, .ty "int"] H Q := z_ty (.base (.int i)) (by decide +kernel) q
theorem z_isIB {K : PySem.W.Frag} (q : Q (.bl false) H) : rIsi K [.int i, .ty "bool"] H Q := z_ty (.base (.int i)) (by decide +kernel) q
theorem z_isBB {K : PySem.W.Frag} {k : Bool} (q : Q (.bl true) H) : rIsi K [.bl k, .ty "bool"] H Q := z_ty (.base (.bl k)) (by decide +kernel) q
theorem z_isTT {K : PySem.W.Frag} {p : Addr} {xs : List V} (h : H p = some (.tup xs)) (q : Q (.bl true) H) : rIsi K [.ref p, .ty "tuple"] H Q := z_ty (.base (.tup h)) (by decide +kernel) q
theorem z_isLL {K : PySem.W.Frag} {p : Addr} {xs : List V} (h : H p = some (.lst xs)) (q : Q (.bl true) H) : rIsi K [.ref p, .ty "list"] H Q := z_ty (.base (.lst h)) (by decide +kernel) q
theorem z_new {xs : List V} {F : Addr → Prop} (h : xs.length ≤ 1000) (q : ∀ p, H p = none → F p) : xs.length ≤ sizeLine ∧ ∀ p, H p = none → F p := ⟨sz h, q⟩
end
end Z
namespace Z
open PySem PySem.Spec PyProof.Rows L2
section
variable {σ : L2.St} {H : Hp} {n : L2.St → Hp → Prop} {r : VK} {b c : L2.St → Hp → Prop} {tb : TS} {K : PySem.W.Frag}
/-- for k in range(m) -/
theorem z_forR1 {ta : TA} {k : Nat} (m : Nat) (hm : m < 2 ^ 62) (ha : ∀ R : List V → Hp → Prop, R [.int (m : Int)] H → ta σ H R) (Pv : Nat → L2.St → Hp → Prop) (h0 : Pv 0 σ H)
    (hs : ∀ i σ H, i < m → Pv i σ H → tb ⟨Pv (i + 1), r, n, Pv (i + 1)⟩ (σ.set k (some (.int (i : Int)))) H) (hd : ∀ σ H, Pv m σ H → n σ H) : tFor (iRng1 ta) (gName k) tb ⟨n, r, b, c⟩ σ H := by
  refine ha _ ⟨(m : Int), rfl, by omega, by omega, ?_⟩
  refine for_range (lo := 0) (n := (m : Int).toNat) Pv h0 (fun i σ' H' hi p => ?_) (fun σ' H' p => hd σ' H' (by simpa using p))
  have e : (0 : Int) + (i : Int) = (i : Int) := Int.zero_add _
  show tb _ (σ'.set k (some (.int ((0 : Int) + (i : Int))))) H'
  rw [e]
  exact hs i σ' H' (by simpa using hi) p
/-- for k in range(lo, hi) -/
theorem z_forR2 {ta : TA} {k : Nat} (lo : Int) (m : Nat) (hl : -(2 ^ 61) ≤ lo ∧ lo < 2 ^ 61) (hm : m < 2 ^ 61) (ha : ∀ R : List V → Hp → Prop, R [.int lo, .int (lo + (m : Int))] H → ta σ H R) (Pv : Nat → L2.St → Hp → Prop) (h0 : Pv 0 σ H)
    (hs : ∀ i σ H, i < m → Pv i σ H → tb ⟨Pv (i + 1), r, n, Pv (i + 1)⟩ (σ.set k (some (.int (lo + (i : Int))))) H) (hd : ∀ σ H, Pv m σ H → n σ H) : tFor (iRng2 ta) (gName k) tb ⟨n, r, b, c⟩ σ H := by
  refine ha _ ⟨lo, lo + (m : Int), rfl, by omega, ?_⟩
  have en : (lo + (m : Int) - lo).toNat = m := by omega
  rw [en]
  exact for_range (lo := lo) (n := m) Pv h0 hs hd
/-- for x in a list, in a tuple -/
theorem z_forL {tl : TE} {g : TG} {a : Addr} {xs : List V} (ha : ∀ R : VK, R (.ref a) H → tl σ H R) (hx : SqL K H a xs) (Pv : Nat → L2.St → Hp → Prop) (h0 : Pv 0 σ H) (hl : ∀ i σ H, i ≤ xs.length → Pv i σ H → SqL K H a xs)
    (hs : ∀ i x σ H, xs[i]? = some x → Pv i σ H → g x σ H fun σ2 H2 => tb ⟨Pv (i + 1), r, n, Pv (i + 1)⟩ σ2 H2) (hd : ∀ σ H, Pv xs.length σ H → n σ H) : tFor (iList K tl) g tb ⟨n, r, b, c⟩ σ H :=
  ha _ ⟨a, rfl, ⟨xs, hx⟩, for_list Pv h0 hl hs hd⟩
theorem z_forT {tl : TE} {g : TG} {a : Addr} {xs : List V} (ha : ∀ R : VK, R (.ref a) H → tl σ H R) (hx : SqT K H a xs) (Pv : Nat → L2.St → Hp → Prop) (h0 : Pv 0 σ H) (hl : ∀ i σ H, i ≤ xs.length → Pv i σ H → SqT K H a xs)
    (hs : ∀ i x σ H, xs[i]? = some x → Pv i σ H → g x σ H fun σ2 H2 => tb ⟨Pv (i + 1), r, n, Pv (i + 1)⟩ σ2 H2) (hd : ∀ σ H, Pv xs.length σ H → n σ H) : tFor (iTup K tl) g tb ⟨n, r, b, c⟩ σ H :=
  ha _ ⟨a, rfl, ⟨xs, hx⟩, for_tup Pv h0 hl hs hd⟩
theorem z_gName {k : Nat} {v : V} {R : L2.St → Hp → Prop} (q : R (σ.set k (some v)) H) : gName k v σ H R := q
end
end Z
namespace Z
section
variable {A B : Prop}
theorem z_ifT (q : A) : if true = true then A else B := by
  rw [if_pos rfl]
  exact q
theorem z_ifF (q : B) : if false = true then A else B := by
  rw [if_neg Bool.false_ne_true]
  exact q
theorem z_ifNF (q : A) : if (!false) = true then A else B := z_ifT q
theorem z_ifNT (q : B) : if (!true) = true then A else B := z_ifF q
theorem z_ifN {p : Prop} [Decidable p] (h1 : ¬ p → A) (h2 : p → B) : if (!decide p) = true then A else B := by
  by_cases h : p
  · rw [if_neg (by simpa using h)]
    exact h2 h
  · rw [if_pos (by simpa using h)]
    exact h1 h
end
end Z
namespace Z
theorem z_ifYes {A B : Prop} {k : Bool} (h : k = true) (q : A) : if k = true then A else B := by
  rw [if_pos h]
  exact q
theorem z_ifNo {A B : Prop} {k : Bool} (h : k = false) (q : B) : if k = true then A else B := by
  rw [if_neg (by rw [h]; exact Bool.false_ne_true)]
  exact q
end Z
namespace Z
open PySem PySem.Spec PyProof.Rows L2
theorem z_exc {K : PySem.W.Frag} {cv cls : Value} {i : Nat} {ts : Addr → Value → Option Addr → TS} {Wout : WX} {n : L2.St → Hp → Prop} {r : VK} {b c : L2.St → Hp → Prop} {d : Option Addr} {σ : L2.St} {H : Hp} (e : PySem.W.exmOne K cls cv = some true)
    (h : ∀ a, H a = none → ts a cls d ⟨fun σ' H' => n (σ'.set i none) H', r, fun σ' H' => b (σ'.set i none) H', fun σ' H' => c (σ'.set i none) H'⟩ (σ.set i (some (.ref a))) H) : WE (wAs K cv i ts Wout ⟨n, r, b, c⟩) σ cls d H :=
  ⟨true, e, fun _ a ha => h a ha, fun z => Bool.noConfusion z⟩
theorem z_excO {K : PySem.W.Frag} {cv cls : Value} {ts : Addr → Value → Option Addr → TS} {Wout : WX} {D : Ends} {d : Option Addr} {σ : L2.St} {H : Hp} (e : PySem.W.exmOne K cls cv = some true)
    (h : ∀ a, H a = none → ts a cls d D σ H) : WE (wOnly K cv ts Wout D) σ cls d H :=
  ⟨true, e, fun _ a ha => h a ha, fun z => Bool.noConfusion z⟩
theorem z_isEr {K : PySem.W.Frag} {a C D : Addr} {k : Bool} {H : Hp} {Q : VK} (x : ExcC K D) (e : PySem.W.kitOne K (.ref D) (.ref C) = some k) (q : Q (.bl k) H) : rIsEx K (.ref D) none a [.ref a, .ref C] H Q :=
  ⟨D, rfl, rfl, x, .ref C, .ref C, k, rfl, fun u h => h, e, q⟩
theorem z_isEt {K : PySem.W.Frag} {a D : Addr} {t : String} {k : Bool} {H : Hp} {Q : VK} (x : ExcC K D) (e : PySem.W.kitOne K (.ref D) (.type t) = some k) (q : Q (.bl k) H) : rIsEx K (.ref D) none a [.ref a, .ty t] H Q :=
  ⟨D, rfl, rfl, x, .ty t, .type t, k, rfl, fun u h => h, e, q⟩
/-- two lists, tuples of flat things compared -/
theorem z_eqD {K : PySem.W.Frag} {x y : V} {d e : PyData} {H : Hp} {Q : VK} (h1 : Dp K H x d) (h2 : Dp K H y e) (s1 : SeqAt.shaped d = true) (s2 : SeqAt.shaped e = true) (q : Q (.bl (PyData.eqv d e)) H) : rEqD K x y H Q := ⟨d, e, h1, h2, s1, s2, q⟩
end Z
namespace Z
open PySem PySem.Spec PyProof.Rows L2
theorem z_eqSame {K : PySem.W.Frag} {x y : V} {d : PyData} {H : Hp} {Q : VK} (h1 : Dp K H x d) (h2 : Dp K H y d) (s : SeqAt.shaped d = true) (q : Q (.bl true) H) : rEqD K x y H Q :=
  ⟨d, d, h1, h2, s, s, by rw [SeqAt.eqv_refl d (SeqAt.canLay_of_shaped s)]; exact q⟩
theorem dpT2 {K : PySem.W.Frag} {H : Hp} {p : Addr} {n d : Int} (h : H p = some (.tup [.int n, .int d])) : Dp K H (.ref p) (.tuple [.int n, .int d]) := .tup (.inl (.inl h)) (.cons (.int n) (.cons (.int d) .nil))
theorem dpB3 {K : PySem.W.Frag} {H : Hp} {p : Addr} {a b c : Bool} (h : H p = some (.lst [.bl a, .bl b, .bl c])) : Dp K H (.ref p) (.list [.bool a, .bool b, .bool c]) := .lst (.inl (.inl h)) (.cons (.bl a) (.cons (.bl b) (.cons (.bl c) .nil)))
end Z
namespace Z
open PySem PySem.Spec PyProof.Rows L2
theorem z_cut {t u : TS} {n : L2.St → Hp → Prop} {r : VK} {b c : L2.St → Hp → Prop} {σ : L2.St} {H : Hp} (Mid : L2.St → Hp → Prop) (h : t ⟨Mid, r, b, c⟩ σ H) (k : ∀ σ' H', Mid σ' H' → u ⟨n, r, b, c⟩ σ' H') : Evl.tCut t u ⟨n, r, b, c⟩ σ H := ⟨Mid, h, k⟩
end Z
namespace Z
open PySem PySem.Spec PyProof.Rows L2
section
variable {σ : L2.St} {H : Hp} {n : L2.St → Hp → Prop} {r : VK} {b c : L2.St → Hp → Prop} {te : TE} {K : PySem.W.Frag} {a : Addr} {xs : List V} {gs : TGs} {m : Nat} {v : V}
theorem z_asgT (h : te σ H fun x H1 => ∃ a xs, x = .ref a ∧ SqT K H1 a xs ∧ xs.length = m ∧ gs xs σ H1 n) : tAsg te (gTup K m gs) ⟨n, r, b, c⟩ σ H := h
theorem z_asgL (h : te σ H fun x H1 => ∃ a xs, x = .ref a ∧ SqL K H1 a xs ∧ xs.length = m ∧ gs xs σ H1 n) : tAsg te (gLst K m gs) ⟨n, r, b, c⟩ σ H := h
theorem z_up (h : SqT K H a xs) (hm : xs.length = m) (q : gs xs σ H n) : ∃ a' xs', V.ref a = .ref a' ∧ SqT K H a' xs' ∧ xs'.length = m ∧ gs xs' σ H n := ⟨a, xs, rfl, h, hm, q⟩
theorem z_upL (h : SqL K H a xs) (hm : xs.length = m) (q : gs xs σ H n) : ∃ a' xs', V.ref a = .ref a' ∧ SqL K H a' xs' ∧ xs'.length = m ∧ gs xs' σ H n := ⟨a, xs, rfl, h, hm, q⟩
theorem z_gT (h : SqT K H a xs) (hm : xs.length = m) (q : gs xs σ H n) : gTup K m gs (.ref a) σ H n := ⟨a, xs, rfl, h, hm, q⟩
theorem z_gcons {t : TG} {u : TGs} {R : L2.St → Hp → Prop} (h : t v σ H fun σ' H' => u xs σ' H' R) : gCons t u (v :: xs) σ H R := ⟨v, xs, rfl, h⟩
theorem z_gnil {R : L2.St → Hp → Prop} (h : R σ H) : gNil [] σ H R := ⟨rfl, h⟩
end
end Z
namespace Z
open PySem PySem.Spec PyProof.Rows L2
section
variable {K : PySem.W.Frag} {Wout : WX} {D : Ends} {c cls : Value} {ts : Addr → Value → Option Addr → TS} {l : List (Value × (Addr → Value → Option Addr → TS))} {σ : L2.St} {H : Hp} {d : Option Addr}
theorem z_many1 (e : PySem.W.exmOne K cls c = some true) (h : ∀ a, H a = none → ts a cls d D σ H) : WE (wMany K Wout D ((c, ts) :: l)) σ cls d H := ⟨true, e, fun _ a ha => h a ha, fun z => Bool.noConfusion z⟩
theorem z_many0 (e : PySem.W.exmOne K cls c = some false) (h : WE (wMany K Wout D l) σ cls d H) : WE (wMany K Wout D ((c, ts) :: l)) σ cls d H := ⟨false, e, fun z => Bool.noConfusion z, fun _ => h⟩
theorem z_eqS {x : Str} {Q : VK} (q : Q (.bl true) H) : rEq (.str x) (.str x) H Q := ⟨rfl, by rw [decide_eq_true rfl]; exact q⟩
end
end Z
/-! ### data: what a value stands for -/
namespace Z
open PySem PySem.Spec PyProof.Rows L2
section
variable {K : PySem.W.Frag} {H H' : Hp} {v : V} {d d1 d2 d3 d4 d5 d6 : PyData}
mutual
theorem dp_mono (s : Same H H') : ∀ {d : PyData} {v : V}, Dp K H v d → Dp K H' v d
  | _, _, .non => .non
  | _, _, .bl b => .bl b
  | _, _, .int i => .int i
  | _, _, .str x => .str x
  | _, _, .lst h a => .lst (s.seq h) (dp_monoA s a)
  | _, _, .tup h a => .tup (seqT s h) (dp_monoA s a)
theorem dp_monoA (s : Same H H') : ∀ {ds : List PyData} {vs : List V}, DpAll K H vs ds → DpAll K H' vs ds
  | _, _, .nil => .nil
  | _, _, .cons h a => .cons (dp_mono s h) (dp_monoA s a)
end
mutual
def tupOnly : PyData → Bool
  | .list _ => false
  | .dict _ => false
  | .tuple ds => tupOnlyA ds
  | .none => true
  | .bool _ => true
  | .int _ => true
  | .str _ => true
def tupOnlyA : List PyData → Bool
  | [] => true
  | d :: ds => tupOnly d && tupOnlyA ds
end
def Kp (p : Addr) (H H' : Hp) : Prop := ∀ b o, b ≠ p → H b = some o → H' b = some o
theorem seqT_kp {p a : Addr} {xs ys : List V} (k : Kp p H H') (hp : H p = some (.lst xs)) (h : SqT K H a ys) : SqT K H' a ys := by
  rcases h with (h | ⟨o, h⟩) | h
  · exact .inl (.inl (k _ _ (ne_of h hp (by intro z; cases z)) h))
  · exact .inl (.inr ⟨o, k _ _ (ne_of h hp (by intro z; cases z)) h⟩)
  · exact .inr h
mutual
theorem dp_kp {p : Addr} {xs : List V} (k : Kp p H H') (hp : H p = some (.lst xs)) : ∀ {d : PyData} {v : V}, tupOnly d = true → Dp K H v d → Dp K H' v d
  | _, _, _, .non => .non
  | _, _, _, .bl b => .bl b
  | _, _, _, .int i => .int i
  | _, _, _, .str x => .str x
  | _, _, t, .lst h a => by simp [tupOnly] at t
  | _, _, t, .tup h a => .tup (seqT_kp k hp h) (dp_kpA k hp (by simpa [tupOnly] using t) a)
theorem dp_kpA {p : Addr} {xs : List V} (k : Kp p H H') (hp : H p = some (.lst xs)) : ∀ {ds : List PyData} {vs : List V}, tupOnlyA ds = true → DpAll K H vs ds → DpAll K H' vs ds
  | _, _, _, .nil => .nil
  | _, _, t, .cons h a => by
    have t' : (tupOnly _ && tupOnlyA _) = true := t
    rw [Bool.and_eq_true] at t'
    exact .cons (dp_kp k hp t'.1 h) (dp_kpA k hp t'.2 a)
end
theorem dp_int {i : Int} (h : Dp K H v (.int i)) : v = .int i := by
  cases h
  rfl
theorem dp_non (h : Dp K H v .none) : v = .non := by
  cases h
  rfl
theorem dp_bool {b : Bool} (h : Dp K H v (.bool b)) : v = .bl b := by
  cases h
  rfl
theorem dp_str {b : Str} (h : Dp K H v (.str b)) : v = .str b := by
  cases h
  rfl
theorem dp_tup {ds : List PyData} (h : Dp K H v (.tuple ds)) : ∃ p vs, v = .ref p ∧ SqT K H p vs ∧ DpAll K H vs ds := by
  cases h with
  | tup h a => exact ⟨_, _, rfl, h, a⟩
theorem dpa_nil {vs : List V} (h : DpAll K H vs []) : vs = [] := by
  cases h
  rfl
theorem dpa_cons {vs : List V} {ds : List PyData} (h : DpAll K H vs (d :: ds)) : ∃ v r, vs = v :: r ∧ Dp K H v d ∧ DpAll K H r ds := by
  cases h with
  | cons a b => exact ⟨_, _, rfl, a, b⟩
theorem dp_t1 (h : Dp K H v (.tuple [d1])) : ∃ p v1, v = .ref p ∧ SqT K H p [v1] ∧ Dp K H v1 d1 := by
  obtain ⟨p, vs, e, hS, a⟩ := dp_tup h
  obtain ⟨v1, _, rfl, h1, a⟩ := dpa_cons a
  obtain rfl := dpa_nil a
  exact ⟨p, v1, e, hS, h1⟩
theorem dp_t2 (h : Dp K H v (.tuple [d1, d2])) : ∃ p v1 v2, v = .ref p ∧ SqT K H p [v1, v2] ∧ Dp K H v1 d1 ∧ Dp K H v2 d2 := by
  obtain ⟨p, vs, e, hS, a⟩ := dp_tup h
  obtain ⟨v1, _, rfl, h1, a⟩ := dpa_cons a
  obtain ⟨v2, _, rfl, h2, a⟩ := dpa_cons a
  obtain rfl := dpa_nil a
  exact ⟨p, v1, v2, e, hS, h1, h2⟩
theorem dp_t3 (h : Dp K H v (.tuple [d1, d2, d3])) : ∃ p v1 v2 v3, v = .ref p ∧ SqT K H p [v1, v2, v3] ∧ Dp K H v1 d1 ∧ Dp K H v2 d2 ∧ Dp K H v3 d3 := by
  obtain ⟨p, vs, e, hS, a⟩ := dp_tup h
  obtain ⟨v1, _, rfl, h1, a⟩ := dpa_cons a
  obtain ⟨v2, _, rfl, h2, a⟩ := dpa_cons a
  obtain ⟨v3, _, rfl, h3, a⟩ := dpa_cons a
  obtain rfl := dpa_nil a
  exact ⟨p, v1, v2, v3, e, hS, h1, h2, h3⟩
theorem dp_t6 (h : Dp K H v (.tuple [d1, d2, d3, d4, d5, d6])) : ∃ p v1 v2 v3 v4 v5 v6, v = .ref p ∧ SqT K H p [v1, v2, v3, v4, v5, v6] ∧ Dp K H v1 d1 ∧ Dp K H v2 d2 ∧ Dp K H v3 d3 ∧ Dp K H v4 d4 ∧ Dp K H v5 d5 ∧ Dp K H v6 d6 := by
  obtain ⟨p, vs, e, hS, a⟩ := dp_tup h
  obtain ⟨v1, _, rfl, h1, a⟩ := dpa_cons a
  obtain ⟨v2, _, rfl, h2, a⟩ := dpa_cons a
  obtain ⟨v3, _, rfl, h3, a⟩ := dpa_cons a
  obtain ⟨v4, _, rfl, h4, a⟩ := dpa_cons a
  obtain ⟨v5, _, rfl, h5, a⟩ := dpa_cons a
  obtain ⟨v6, _, rfl, h6, a⟩ := dpa_cons a
  obtain rfl := dpa_nil a
  exact ⟨p, v1, v2, v3, v4, v5, v6, e, hS, h1, h2, h3, h4, h5, h6⟩
theorem dp_mk {p : Addr} {vs : List V} {ds : List PyData} (h : H p = some (.tup vs)) (a : DpAll K H vs ds) : Dp K H (.ref p) (.tuple ds) := .tup (.inl (.inl h)) a
end
/-! ### numbers -/
def qD (r : Rat) : PyData := .tuple [.int r.num, .int (r.den : Int)]
theorem dp_q {K : PySem.W.Frag} {H : Hp} {v : V} {r : Rat} (h : Dp K H v (qD r)) : ∃ p, v = .ref p ∧ SqT K H p [.int r.num, .int (r.den : Int)] := by
  obtain ⟨p, v1, v2, e, hS, h1, h2⟩ := dp_t2 h
  rw [dp_int h1, dp_int h2] at hS
  exact ⟨p, e, hS⟩
theorem dp_mkq {K : PySem.W.Frag} {H : Hp} {p : Addr} {r : Rat} (h : H p = some (.tup [.int r.num, .int (r.den : Int)])) : Dp K H (.ref p) (qD r) := dp_mk h (.cons (.int _) (.cons (.int _) .nil))
theorem dp_seqq {K : PySem.W.Frag} {H : Hp} {p : Addr} {r : Rat} (h : SqT K H p [.int r.num, .int (r.den : Int)]) : Dp K H (.ref p) (qD r) := .tup h (.cons (.int _) (.cons (.int _) .nil))
/-- numerator and denominator at most so great -/
def Bd (r : Rat) (p q : Nat) : Prop := r.num.natAbs ≤ p ∧ r.den ≤ q
theorem bd_divInt {n d : Int} (h : d ≠ 0) : Bd (Rat.divInt n d) n.natAbs d.natAbs := by
  unfold Bd
  rw [Rat.num_divInt, Rat.den_divInt, if_neg h]
  refine ⟨Nat.le_trans (Int.natAbs_ediv_le_natAbs _ _) ?_, Nat.div_le_self _ _⟩
  rw [Int.natAbs_mul]
  have : d.sign.natAbs ≤ 1 := by
    rcases Int.lt_trichotomy d 0 with z | z | z
    · rw [Int.sign_eq_neg_one_of_neg z]; decide
    · exact absurd z h
    · rw [Int.sign_eq_one_of_pos z]; decide
  calc d.sign.natAbs * n.natAbs ≤ 1 * n.natAbs := Nat.mul_le_mul_right _ this
    _ = n.natAbs := Nat.one_mul _
theorem q_self (r : Rat) : Rat.divInt r.num (r.den : Int) = r := Rat.num_divInt_den r
end Z
namespace Z
open PySem PySem.Spec PyProof.Rows L2
def gd (n d : Int) : Int := ((Nat.gcd n.natAbs d.natAbs : Nat) : Int)
def rn (n d : Int) : Int := (if d < 0 then -n else n) / gd n d
def rd (n d : Int) : Int := (if d < 0 then -d else d) / gd n d
theorem rn_q {n d : Int} (h : d ≠ 0) : rn n d = (Rat.divInt n d).num := by
  rw [Rat.num_divInt]
  unfold rn gd
  have e : d.gcd n = Nat.gcd n.natAbs d.natAbs := Nat.gcd_comm _ _
  rw [e]
  congr 1
  split
  · rename_i z
    rw [Int.sign_eq_neg_one_of_neg z]
    omega
  · rename_i z
    rw [Int.sign_eq_one_of_pos (by omega)]
    omega
theorem rd_q {n d : Int} (h : d ≠ 0) : rd n d = ((Rat.divInt n d).den : Int) := by
  rw [Rat.den_divInt, if_neg h]
  unfold rd gd
  have e : d.gcd n = Nat.gcd n.natAbs d.natAbs := Nat.gcd_comm _ _
  rw [e]
  rw [Int.natCast_ediv]
  congr 1
  split <;> omega
def lim : Int := 1000000000000000000
def fitsQ (r : Rat) : Prop := -lim ≤ r.num ∧ r.num ≤ lim ∧ (r.den : Int) ≤ lim
theorem bd_add {a b : Rat} {p q p' q' : Nat} (h : Bd a p q) (h' : Bd b p' q') : Bd (a + b) (p * q' + p' * q) (q * q') := by
  have ha := a.den_nz
  have hb := b.den_nz
  have e : a + b = Rat.divInt (a.num * b.den + b.num * a.den) ((a.den : Int) * b.den) := by
    rw [← Rat.divInt_add_divInt _ _ (by omega) (by omega), Rat.num_divInt_den, Rat.num_divInt_den]
  rw [e]
  have hd : ((a.den : Int) * b.den) ≠ 0 := Int.mul_ne_zero (by omega) (by omega)
  have k := bd_divInt (n := a.num * b.den + b.num * a.den) hd
  refine ⟨Nat.le_trans k.1 (Nat.le_trans (Int.natAbs_add_le _ _) ?_), Nat.le_trans k.2 ?_⟩
  · rw [Int.natAbs_mul, Int.natAbs_mul]
    exact Nat.add_le_add (Nat.mul_le_mul h.1 h'.2) (Nat.mul_le_mul h'.1 h.2)
  · rw [Int.natAbs_mul]
    exact Nat.mul_le_mul h.2 h'.2
theorem bd_mul {a b : Rat} {p q p' q' : Nat} (h : Bd a p q) (h' : Bd b p' q') : Bd (a * b) (p * p') (q * q') := by
  have ha := a.den_nz
  have hb := b.den_nz
  have e : a * b = Rat.divInt (a.num * b.num) ((a.den : Int) * b.den) := by
    rw [← Rat.divInt_mul_divInt, Rat.num_divInt_den, Rat.num_divInt_den]
  rw [e]
  have hd : ((a.den : Int) * b.den) ≠ 0 := Int.mul_ne_zero (by omega) (by omega)
  have k := bd_divInt (n := a.num * b.num) hd
  refine ⟨Nat.le_trans k.1 ?_, Nat.le_trans k.2 ?_⟩
  · rw [Int.natAbs_mul]
    exact Nat.mul_le_mul h.1 h'.1
  · rw [Int.natAbs_mul]
    exact Nat.mul_le_mul h.2 h'.2
theorem bd_neg {a : Rat} {p q : Nat} (h : Bd a p q) : Bd (-a) p q := by
  unfold Bd
  rw [Rat.neg_num, Rat.neg_den, Int.natAbs_neg]
  exact h
theorem bd_sub {a b : Rat} {p q p' q' : Nat} (h : Bd a p q) (h' : Bd b p' q') : Bd (a - b) (p * q' + p' * q) (q * q') := by
  rw [Rat.sub_eq_add_neg]
  exact bd_add h (bd_neg h')
theorem q_div (a b : Rat) (h : b ≠ 0) : a / b = Rat.divInt (a.num * b.den) ((a.den : Int) * b.num) := by
  rw [Rat.div_def, ← Rat.num_divInt_den b, Rat.inv_divInt]
  conv => lhs; lhs; rw [← Rat.num_divInt_den a]
  rw [Rat.divInt_mul_divInt, Rat.num_divInt_den]
theorem bd_div {a b : Rat} {p q p' q' : Nat} (hb : b ≠ 0) (h : Bd a p q) (h' : Bd b p' q') : Bd (a / b) (p * q') (q * p') := by
  have ha := a.den_nz
  rw [q_div a b hb]
  have hn : b.num ≠ 0 := fun z => hb (Rat.num_eq_zero.mp z)
  have hd : ((a.den : Int) * b.num) ≠ 0 := Int.mul_ne_zero (by omega) hn
  have k := bd_divInt (n := a.num * b.den) hd
  refine ⟨Nat.le_trans k.1 ?_, Nat.le_trans k.2 ?_⟩
  · rw [Int.natAbs_mul]
    exact Nat.mul_le_mul h.1 h'.2
  · rw [Int.natAbs_mul]
    exact Nat.mul_le_mul h.2 h'.1
theorem Bd.le {a : Rat} {p q p' q' : Nat} (h : Bd a p q) (h1 : p ≤ p') (h2 : q ≤ q') : Bd a p' q' := ⟨Nat.le_trans h.1 h1, Nat.le_trans h.2 h2⟩
theorem Bd.fits {a : Rat} {p q : Nat} (h : Bd a p q) (h1 : p ≤ 1000000000000000000) (h2 : q ≤ 1000000000000000000) : fitsQ a := by
  have a1 := h.1
  have a2 := h.2
  unfold fitsQ lim
  omega
theorem q_add (a b : Rat) : a + b = Rat.divInt (a.num * b.den + b.num * a.den) ((a.den : Int) * b.den) := by
  have ha := a.den_nz
  have hb := b.den_nz
  rw [← Rat.divInt_add_divInt _ _ (by omega) (by omega), Rat.num_divInt_den, Rat.num_divInt_den]
theorem q_sub (a b : Rat) : a - b = Rat.divInt (a.num * b.den - b.num * a.den) ((a.den : Int) * b.den) := by
  have ha := a.den_nz
  have hb := b.den_nz
  rw [← Rat.divInt_sub_divInt _ _ (by omega) (by omega), Rat.num_divInt_den, Rat.num_divInt_den]
theorem q_mul (a b : Rat) : a * b = Rat.divInt (a.num * b.num) ((a.den : Int) * b.den) := by
  rw [← Rat.divInt_mul_divInt, Rat.num_divInt_den, Rat.num_divInt_den]
theorem q_dd (a b : Rat) : ((a.den : Int) * b.den) ≠ 0 := by
  have ha := a.den_nz
  have hb := b.den_nz
  exact Int.mul_ne_zero (by omega) (by omega)
end Z
namespace Z
open PySem PySem.Spec PyProof.Rows L2
theorem tyx_T {K : PySem.W.Frag} {H : Hp} {a : Addr} {xs : List V} (h : SqT K H a xs) : TyX K H (.ref a) (.type "tuple") := by
  rcases h with (h | ⟨o, h⟩) | ⟨o, its, n, h, c, _⟩
  · exact .base (.tup h)
  · exact .fTuple h
  · exact .kTuple h c
theorem z_isT {K : PySem.W.Frag} {H : Hp} {Q : VK} {p : Addr} {xs : List V} (h : SqT K H p xs) (q : Q (.bl true) H) : rIsi K [.ref p, .ty "tuple"] H Q := z_ty (tyx_T h) (by decide +kernel) q
end Z
namespace Z
open PySem PySem.Spec PyProof.Rows L2
/-- a tuple of the module's own -/
theorem dpk {K : PySem.W.Frag} {H : Hp} {a : Addr} {od : Option Addr} {its : List Value} {n : Nat} {sl : Array (Option Value)} {vs : List V} {ds : List PyData} (h : K.lookup a = some ⟨.type "tuple", od, .seq its.toArray n, sl⟩)
    (hs : its.length ≤ 1000) (r : Vals vs its) (d : DpAll K H vs ds) : Dp K H (.ref a) (.tuple ds) :=
  .tup (.inr ⟨_, its.toArray, n, h, rfl, rfl, by rw [List.size_toArray]; exact sz hs, by simpa using r⟩) d
/-- a tuple and a tuple -/
theorem z_catT {K : PySem.W.Frag} {H : Hp} {Q : VK} {p q : Addr} {xs ys : List V} (h1 : SqT K H p xs) (h2 : SqT K H q ys) (hx : xs ≠ []) (hl : xs.length + ys.length ≤ 1000) (hy : ys ≠ [])
    (k : ∀ p H', H p = none → Same H H' → H' p = some (.tup (xs ++ ys)) → Q (.ref p) H') : rCatT K (.ref p) (.ref q) H Q := by
  refine ⟨p, q, xs, ys, rfl, rfl, h1, h2, hx, sz hl, fun z => absurd z hy, fun _ a ha => k a _ ha (same_upd ha) upd_same⟩
end Z
namespace Z
open PySem PySem.Spec PyProof.Rows L2
def rTupOf (K : PySem.W.Frag) : List V → Hp → VK → Prop := fun xs H Q => ∃ p ys, xs = [.ref p] ∧ ((SqL K H p ys ∧ ∀ l, H l = none → Q (.ref l) (upd H l (.tup ys))) ∨ (SqT K H p ys ∧ Q (.ref p) H))
def rListOf (K : PySem.W.Frag) : List V → Hp → VK → Prop := fun xs H Q => ∃ p ys, xs = [.ref p] ∧ (SqL K H p ys ∨ SqT K H p ys) ∧ ∀ l, H l = none → Q (.ref l) (upd H l (.lst ys))
theorem c_tupOf {X : Cx} : CallR X (.type "tuple") (rTupOf X.K) := call_tuple_of
theorem c_listOf {X : Cx} : CallR X (.type "list") (rListOf X.K) := call_list_of
section
variable {K : PySem.W.Frag} {H : Hp} {Q : VK} {p : Addr} {xs : List V} {σ : L2.St}
theorem z_tupOf (h : SqL K H p xs) (q : ∀ a H', H a = none → Same H H' → H' a = some (.tup xs) → Q (.ref a) H') : rTupOf K [.ref p] H Q := ⟨p, xs, rfl, .inl ⟨h, fun l hl => q l _ hl (same_upd hl) upd_same⟩⟩
theorem z_tupOfT (h : SqT K H p xs) (q : Q (.ref p) H) : rTupOf K [.ref p] H Q := ⟨p, xs, rfl, .inr ⟨h, q⟩⟩
theorem z_listOf (h : SqL K H p xs) (q : ∀ a H', H a = none → Same H H' → H' a = some (.lst xs) → Q (.ref a) H') : rListOf K [.ref p] H Q := ⟨p, xs, rfl, .inl h, fun l hl => q l _ hl (same_upd hl) upd_same⟩
theorem z_listOfT (h : SqT K H p xs) (q : ∀ a H', H a = none → Same H H' → H' a = some (.lst xs) → Q (.ref a) H') : rListOf K [.ref p] H Q := ⟨p, xs, rfl, .inr h, fun l hl => q l _ hl (same_upd hl) upd_same⟩
theorem z_yes {QB : Bool → Hp → Prop} (q : QB true H) : tYes σ H QB := q
/-- [e for k in range(m)] -/
theorem z_lcR1 {ta : TA} {k : Nat} {te : TE} {vs : List Nat} (m : Nat) (hm : m ≤ 1000) (ha : ∀ R : List V → Hp → Prop, R [.int (m : Int)] H → ta σ H R) (hw : ∀ x, wipe ((wipe σ vs).set k (some x)) vs = wipe σ vs) (Pv : Nat → Addr → List V → Hp → Prop)
    (h0 : ∀ D H', H D = none → Same H H' → H' D = some (.lst []) → Pv 0 D [] H')
    (hs : ∀ i D acc H', i < m → acc.length = i → H' D = some (.lst acc) → Pv i D acc H' → te ((wipe σ vs).set k (some (.int (i : Int)))) H' fun y H4 => H4 D = some (.lst acc) ∧ Pv (i + 1) D (acc ++ [y]) (upd H4 D (.lst (acc ++ [y]))))
    (mono : ∀ σ' H' Q Q', (∀ y H4, Q y H4 → Q' y H4) → te σ' H' Q → te σ' H' Q')
    (hd : ∀ D acc H', acc.length = m → H' D = some (.lst acc) → Pv m D acc H' → Q (.ref D) H') : tLc (iRng1 ta) (gName k) tYes te vs σ H Q := by
  refine ha _ ⟨(m : Int), rfl, by omega, by omega, fun D hD => ?_⟩
  refine lc_range (lo := 0) (n := (m : Int).toNat) (fun i H' => ∃ acc, acc.length = i ∧ H' D = some (.lst acc) ∧ Pv i D acc H') ⟨[], rfl, upd_same, h0 D _ hD (same_upd hD) upd_same⟩ (fun i H' hi ⟨acc, hl, hH, p⟩ => ?_) (fun H' ⟨acc, hl, hH, p⟩ => hd D acc H' (by simpa using hl) hH (by simpa using p))
  have e : (0 : Int) + (i : Int) = (i : Int) := Int.zero_add _
  show wipe ((wipe σ vs).set k (some (.int ((0 : Int) + (i : Int))))) vs = wipe σ vs ∧ _
  refine ⟨hw _, ?_⟩
  refine z_yes ?_
  refine z_ifT ?_
  rw [e]
  have hi' : i < m := by simpa using hi
  exact mono _ _ _ _ (fun y H4 ⟨e1, e2⟩ => ⟨acc, e1, Nat.lt_of_lt_of_le (show acc.length < 1000 by omega) (by decide), acc ++ [y], by simp [hl], upd_same, e2⟩) (hs i D acc H' (by simpa using hi) hl hH p)
end
end Z
namespace Z
open PySem PySem.Spec PyProof.Rows L2
section
variable {K : PySem.W.Frag} {H : Hp} {Q : VK} {p : Addr} {xs : List V} {σ : L2.St} {i : Int} {RO : Option Int → Hp → Prop} {te : TE} {tl th : TO}
theorem z_sl {g : V → Option Int → Option Int → Hp → VK → Prop} (h : te σ H fun x H1 => tl σ H1 fun l H2 => th σ H2 fun u H3 => g x l u H3 Q) : tSl g te tl th σ H Q := h
theorem z_noPart (q : RO none H) : tNoPart σ H RO := q
theorem z_part (h : te σ H fun x H1 => ∃ i, x = .int i ∧ RO (some i) H1) : tPart te σ H RO := h
theorem z_partI (q : RO (some i) H) : ∃ i', V.int i = .int i' ∧ RO (some i') H := ⟨i, rfl, q⟩
theorem z_slL {lo hi : Option Int} {ys : List V} (h : SqL K H p xs) (e : cutV xs lo hi = ys) (q : ∀ a H', H a = none → Same H H' → H' a = some (.lst ys) → Q (.ref a) H') : rSlL K (.ref p) lo hi H Q := by
  subst e
  exact ⟨p, xs, rfl, h, fun a ha => q a _ ha (same_upd ha) upd_same⟩
end
end Z
namespace Z
open PySem PySem.Spec PyProof.Rows L2
theorem z_slT {K : PySem.W.Frag} {H : Hp} {Q : VK} {p : Addr} {xs ys : List V} {lo hi : Option Int} (h : SqT K H p xs) (hn : ¬ (HT.sIx xs.length 0 lo = 0 ∧ HT.sIx xs.length xs.length hi = xs.length)) (e : cutV xs lo hi = ys)
    (q : ∀ a H', H a = none → Same H H' → H' a = some (.tup ys) → Q (.ref a) H') : rSlT K (.ref p) lo hi H Q := by
  subst e
  exact ⟨p, xs, rfl, h, hn, fun a ha => q a _ ha (same_upd ha) upd_same⟩
theorem eqv_q (a b : Rat) : PyData.eqv (qD a) (qD b) = decide (a = b) := by
  show (a.num == b.num && ((a.den : Int) == (b.den : Int) && true)) = decide (a = b)
  by_cases h : a = b
  · subst h
    simp
  · rw [decide_eq_false h]
    by_cases h1 : a.num = b.num
    · have h2 : ¬ (a.den : Int) = b.den := fun z => h (Rat.ext h1 (by omega))
      simp [h2]
    · simp [h1]
theorem shaped_q (a : Rat) : SeqAt.shaped (qD a) = true := rfl
theorem z_eqQ {K : PySem.W.Frag} {x y : V} {a b : Rat} {H : Hp} {Q : VK} (h1 : Dp K H x (qD a)) (h2 : Dp K H y (qD b)) (q : Q (.bl (decide (a = b))) H) : rEqD K x y H Q := ⟨qD a, qD b, h1, h2, shaped_q a, shaped_q b, by rw [eqv_q]; exact q⟩
theorem z_neQ {K : PySem.W.Frag} {x y : V} {a b : Rat} {H : Hp} {Q : VK} (h1 : Dp K H x (qD a)) (h2 : Dp K H y (qD b)) (q : Q (.bl (decide (¬ a = b))) H) : rNeD K x y H Q := ⟨qD a, qD b, h1, h2, shaped_q a, shaped_q b, by
  rw [eqv_q, show (!decide (a = b)) = decide (¬ a = b) by simp]
  exact q⟩
theorem z_neSame {K : PySem.W.Frag} {x y : V} {d : PyData} {H : Hp} {Q : VK} (h1 : Dp K H x d) (h2 : Dp K H y d) (s : SeqAt.shaped d = true) (q : Q (.bl false) H) : rNeD K x y H Q :=
  ⟨d, d, h1, h2, s, s, by rw [SeqAt.eqv_refl d (SeqAt.canLay_of_shaped s)]; exact q⟩
end Z
namespace Z
open PySem PySem.Spec PyProof.Rows L2
def rIsN : R2 := fun x y H Q => y = .non ∧ Q (.bl (decide (x = .non))) H
def rNotN : R2 := fun x y H Q => y = .non ∧ Q (.bl (!decide (x = .non))) H
theorem op_isN1 {X : Cx} : OpR X (compareOp .Is) rIsN := op_isN
theorem op_notN1 {X : Cx} : OpR X (compareOp .IsNot) rNotN := op_notN
section
variable {σ : L2.St} {H : Hp} {n : L2.St → Hp → Prop} {r : VK} {b c : L2.St → Hp → Prop} {tb : TS} {K : PySem.W.Frag} {Q : VK} {p : Addr} {v y : V} {xs : List V}
theorem z_isNN (q : Q (.bl true) H) : rIsN .non .non H Q := ⟨rfl, by simpa using q⟩
theorem z_isNR (q : Q (.bl false) H) : rIsN (.ref p) .non H Q := ⟨rfl, by simpa using q⟩
theorem z_notNN (q : Q (.bl false) H) : rNotN .non .non H Q := ⟨rfl, by simpa using q⟩
theorem z_notNR (q : Q (.bl true) H) : rNotN (.ref p) .non H Q := ⟨rfl, by simpa using q⟩
theorem z_bmL {r : V → List V → Hp → VK → Prop} {to : TE} {t : TA} (ho : ∀ R : VK, R (.ref p) H → to σ H R) (hp : H p = some (.lst xs)) (h : t σ H fun vs H2 => r (.ref p) vs H2 Q) : tBM K "list" r to t σ H Q :=
  ho _ ⟨.inl ⟨rfl, _, .inl (.inl hp)⟩, h⟩
theorem z_append (hp : H p = some (.lst xs)) (hl : xs.length < 1000) (q : Q .non (upd H p (.lst (xs ++ [y])))) : rAppend (.ref p) [y] H Q := ⟨p, xs, y, rfl, rfl, hp, Nat.lt_of_lt_of_le hl (by decide), q⟩
/-- the list that a for goes over, made on the way -/
def ForL (K : PySem.W.Frag) (g : TG) (tb : TS) (n : L2.St → Hp → Prop) (r : VK) (b c : L2.St → Hp → Prop) (σ : L2.St) : VK := fun x H1 => tFor (iList K (tC x)) g tb ⟨n, r, b, c⟩ σ H1
theorem z_forE {tl : TE} {g : TG} (h : tl σ H (ForL K g tb n r b c σ)) : tFor (iList K tl) g tb ⟨n, r, b, c⟩ σ H := h
/-- [e for x in l], where e answers at once -/
theorem z_lcM {tl : TE} {k : Nat} {te : TE} {vs : List Nat} {a : Addr} {xs ws : List V} (hlen : ws.length = xs.length) (hm : xs.length ≤ 1000) (ha : ∀ R : VK, R (.ref a) H → tl σ H R) (hx : H a = some (.lst xs)) (hw : ∀ x, wipe ((wipe σ vs).set k (some x)) vs = wipe σ vs)
    (body : ∀ (i : Nat) (x w : V) (H' : Hp), xs[i]? = some x → ws[i]? = some w → Same H H' → ∀ R : VK, R w H' → te ((wipe σ vs).set k (some x)) H' R)
    (hd : ∀ D H', H D = none → Same H H' → H' D = some (.lst ws) → Q (.ref D) H') : tLc (iList K tl) (gName k) tYes te vs σ H Q := by
  refine ha _ ⟨a, rfl, ⟨xs, .inl (.inl hx)⟩, fun D hD => ?_⟩
  have hDa : a ≠ D := ne_of_none hx hD
  refine lc_list (xs := xs) (fun i H' => Same H H' ∧ H' D = some (.lst (ws.take i)) ∧ H' a = some (.lst xs)) ⟨same_upd hD, upd_same, by rw [upd_ne hDa]; exact hx⟩ (fun i H' _ h => .inl (.inl h.2.2)) (fun i x H' hi ⟨s, hH, h3⟩ => ?_) (fun H' ⟨s, hH, _⟩ => hd D H' hD s (by rw [hH, ← hlen, List.take_length]))
  show wipe ((wipe σ vs).set k (some x)) vs = wipe σ vs ∧ _
  refine ⟨hw _, ?_⟩
  refine z_yes ?_
  refine z_ifT ?_
  have hi' : i < xs.length := by
    rcases Nat.lt_or_ge i xs.length with h | h
    · exact h
    · rw [List.getElem?_eq_none h] at hi
      cases hi
  have hiw : i < ws.length := by omega
  have hw' : ws[i]? = some ws[i] := List.getElem?_eq_getElem hiw
  refine body i x _ H' hi hw' s _ ?_
  refine ⟨_, hH, Nat.lt_of_lt_of_le (show (ws.take i).length < 1000 by rw [List.length_take]; omega) (by decide), fun q x' e => ?_, ?_, ?_⟩
  · have hq : q ≠ D := ne_of_none e hD
    rw [upd_ne hq]
    exact s _ _ e
  · rw [upd_same, List.take_add_one, hw']
    rfl
  · rw [upd_ne hDa]
    exact h3
end
/-! ### numbers over a common denominator -/
def Zb (r : Rat) (N M : Nat) : Prop := ∃ k : Int, r * (N : Rat) = (k : Rat) ∧ k.natAbs ≤ M
theorem zb_add {a b : Rat} {N M M' : Nat} (h : Zb a N M) (h' : Zb b N M') : Zb (a + b) N (M + M') := by
  obtain ⟨k, e, l⟩ := h
  obtain ⟨k', e', l'⟩ := h'
  exact ⟨k + k', by rw [Rat.add_mul, e, e', Rat.intCast_add], by omega⟩
theorem zb_neg {a : Rat} {N M : Nat} (h : Zb a N M) : Zb (-a) N M := by
  obtain ⟨k, e, l⟩ := h
  exact ⟨-k, by rw [Rat.neg_mul, e, Rat.intCast_neg], by omega⟩
theorem zb_sub {a b : Rat} {N M M' : Nat} (h : Zb a N M) (h' : Zb b N M') : Zb (a - b) N (M + M') := by
  rw [Rat.sub_eq_add_neg]
  exact zb_add h (zb_neg h')
theorem zb_mul {a b : Rat} {N N' M M' : Nat} (h : Zb a N M) (h' : Zb b N' M') : Zb (a * b) (N * N') (M * M') := by
  obtain ⟨k, e, l⟩ := h
  obtain ⟨k', e', l'⟩ := h'
  refine ⟨k * k', ?_, by rw [Int.natAbs_mul]; exact Nat.mul_le_mul l l'⟩
  rw [Rat.natCast_mul, Rat.intCast_mul, ← e, ← e']
  grind
theorem zb_up {a : Rat} {N M : Nat} (c : Nat) (h : Zb a N M) : Zb a (N * c) (M * c) := by
  obtain ⟨k, e, l⟩ := h
  refine ⟨k * (c : Int), ?_, by rw [Int.natAbs_mul]; exact Nat.mul_le_mul l (by omega)⟩
  rw [Rat.natCast_mul, Rat.intCast_mul, ← e, Rat.intCast_natCast]
  grind
theorem Zb.le {a : Rat} {N M M' : Nat} (h : Zb a N M) (l : M ≤ M') : Zb a N M' := by
  obtain ⟨k, e, l'⟩ := h
  exact ⟨k, e, Nat.le_trans l' l⟩
theorem Zb.bd {a : Rat} {N M : Nat} (h : Zb a N M) (h0 : N ≠ 0) : Bd a M N := by
  obtain ⟨k, e, l⟩ := h
  have hN : (N : Rat) ≠ 0 := fun z => h0 (by exact_mod_cast z)
  have e2 : a = Rat.divInt k (N : Int) := by
    rw [Rat.divInt_eq_div, ← e, Rat.intCast_natCast]
    grind
  rw [e2]
  exact (bd_divInt (by omega)).le l (by omega)
theorem zb_divInt {n d : Int} {N M c : Nat} (hd : d ≠ 0) (hN : (N : Int) = d * (c : Int)) (hl : n.natAbs * c ≤ M) : Zb (Rat.divInt n d) N M := by
  refine ⟨n * (c : Int), ?_, by rw [Int.natAbs_mul]; exact hl⟩
  have hd' : (d : Rat) ≠ 0 := fun z => hd (by exact_mod_cast z)
  have e : (N : Rat) = (d : Rat) * (c : Rat) := by
    rw [← Rat.intCast_natCast N, hN, Rat.intCast_mul, Rat.intCast_natCast]
  rw [Rat.divInt_eq_div, e, Rat.intCast_mul, Rat.intCast_natCast]
  grind
theorem zb_of {r : Rat} {p q N M : Nat} (h : Bd r p q) (hN : ∀ d, d ≤ q → d ≠ 0 → d ∣ N) (hl : p * N ≤ M) : Zb r N M := by
  obtain ⟨c, hc⟩ := hN r.den h.2 r.den_nz
  have hd := r.den_nz
  have e := zb_divInt (n := r.num) (d := (r.den : Int)) (N := N) (M := M) (c := c) (by omega) (by exact_mod_cast hc) (Nat.le_trans (Nat.mul_le_mul h.1 (show c ≤ N by rw [hc]; exact Nat.le_mul_of_pos_left _ (by omega))) hl)
  rwa [Rat.num_divInt_den] at e
end Z

namespace Z
open PySem PySem.Spec PyProof.Rows L2
def RevQ (K : PySem.W.Frag) (Q : VK) : VK := fun x H1 => ∃ a xs, x = .ref a ∧ SqL K H1 a xs ∧ ∀ p, H1 p = none → Q (.ref p) (upd H1 p (.lst xs.reverse))
section
variable {K : PySem.W.Frag} {H : Hp} {Q : VK} {p q : Addr} {xs ys : List V} {y : V} {σ : L2.St}
theorem z_revL {te : TE} (h : te σ H (RevQ K Q)) : tRevL K te σ H Q := h
theorem z_revE (h : SqL K H p xs) (k : ∀ a H', H a = none → Same H H' → H' a = some (.lst xs.reverse) → Q (.ref a) H') : RevQ K Q (.ref p) H :=
  ⟨p, xs, rfl, h, fun l hl => k l _ hl (same_upd hl) upd_same⟩
theorem z_pop (hp : H p = some (.lst (xs ++ [y]))) (k : Q y (upd H p (.lst xs))) : rPop (.ref p) [] H Q :=
  ⟨p, xs ++ [y], y, rfl, rfl, hp, by simp, by simpa using k⟩
theorem z_cat (h1 : H p = some (.lst xs)) (h2 : H q = some (.lst ys)) (hl : xs.length + ys.length ≤ 1000) (k : ∀ a H', H a = none → Same H H' → H' a = some (.lst (xs ++ ys)) → Q (.ref a) H') : rCat (.ref p) (.ref q) H Q :=
  ⟨p, q, xs, ys, rfl, rfl, h1, h2, sz hl, fun a ha => k a _ ha (same_upd ha) upd_same⟩
theorem z_extend (h1 : H p = some (.lst xs)) (h2 : H q = some (.lst ys)) (hl : xs.length + ys.length ≤ 1000) (k : Q .non (upd H p (.lst (xs ++ ys)))) : rExtend (.ref p) [.ref q] H Q :=
  ⟨p, q, xs, ys, rfl, rfl, h1, h2, sz hl, k⟩
theorem z_bm0L {r : V → List V → Hp → VK → Prop} {to : TE} (ho : ∀ R : VK, R (.ref p) H → to σ H R) (hp : H p = some (.lst xs)) (h : r (.ref p) [] H Q) : tBM0 K "list" r to σ H Q :=
  ho _ ⟨.inl ⟨rfl, _, .inl (.inl hp)⟩, h⟩
end
end Z

/-! set comprehensions, whatever the members are: `r` says what set.add asks, `fr` what the empty set is -/
namespace Sc
open PySem PySem.Spec PyProof.Rows L2 PpSet
abbrev AddR := V → List V → Hp → VK → Prop
/-- one turn's end: the member is added, or left out -/
def Keep (r : AddR) (D : Addr) (te : TE) (Nx : Hp → Prop) (σ2 : L2.St) (b : Bool) (H3 : Hp) : Prop := if b = true then te σ2 H3 fun y H4 => r (.ref D) [y] H4 fun _ H5 => Nx H5 else Nx H3
def tSet (r : AddR) (fr : Addr → HO) (wi : TI) (g : TG) (tt : TT) (te : TE) (vs : List Nat) : TE := fun σ H Q => wi σ H fun J H1 => ∀ D, H1 D = none → ∃ W : Nat → Nat → Hp → Prop,
  (∃ m, W 0 m (upd H1 D (fr D))) ∧ ∀ i m H, W i m H → (J.stop i H ∧ Q (.ref D) H) ∨ (J.go i H ∧ ∃ Nx : Hp → Prop, (∀ H', Nx H' → ∃ m', m' < m ∧ W (i + 1) m' H') ∧
    ∀ x H', J.yld i H x H' → g x (wipe σ vs) H' fun σ2 H2 => wipe σ2 vs = wipe σ vs ∧ tt σ2 H2 (Keep r D te Nx σ2))
abbrev freshSet (w : World) : Obj := { cls := .type "set", dict := none, data := .set #[] 0 (.fresh 0 0 (!w.params.followText "set-order")) }
section
variable {X : Cx}
theorem run_set {pins : List (Addr × Obj)} {s : Shared} {σ : L2.St} {H : Hp} {Q : VK} {r : AddR} {fr : Addr → HO} {elt tg iter : Expr} {ifs : List Expr} {scope : Scope} {own : List (PySem.Str × Nat)} {pos pos' : Pos} {wi : TI} {g : TG} {tt : TT} {te : TE} {use : Option (Value → Sem Unit)} {Qf : Value → Shared → Prop}
    (hfr : ∀ (H : Hp) (h : Heap) (a : Addr), a = h.objs.size → ObjOk X.prog X.w H (h.push (freshSet X.w)) a (fr a))
    (hr : ∀ (s : Shared) (H : Hp) (e : Env) (fp : List Addr), MtR (X.blk s H scope e fp) "set.add" r)
    (hc : X.calm = true) (hN : X.N.Nodup) (I : Inv X pins σ H s) (hi : PI X tg iter wi) (ok : BlkOk X.N X.env.scope scope own)
    (hg : ∀ (s : Shared) (H : Hp) (C : Addr) (cl : List (PySem.Str × Addr)) (fp : List Addr), PG (X.blk s H scope (compEnvC scope cl C X.env) fp) tg g)
    (ht : ∀ (s : Shared) (H : Hp) (C : Addr) (cl : List (PySem.Str × Addr)) (fp : List Addr), PTs (X.blk s H scope (compEnvC scope cl C X.env) fp) ifs tt)
    (he : ∀ (s : Shared) (H : Hp) (C : Addr) (cl : List (PySem.Str × Addr)) (fp : List Addr), PE (X.blk s H scope (compEnvC scope cl C X.env) fp) elt te)
    (hs : ∀ x, foldedSetIterable iter X.env x = pure x) (h : tSet r fr wi g tt te (own.map (·.2)) σ H Q)
    (hend : ∀ D C s' m H', Inv X pins σ H' s' → Q (.ref D) H' → s'.heap.Ns C m → FpOk X pins H' C → compPost (model X.prog X.w) X.A X.xe use Qf (.ref D) C (.ok .next) s') :
    wpAny (model X.prog X.w) X.A (comprehension (.SetComp elt [⟨tg, iter, ifs, 0⟩] scope pos) scope X.env pos' (newSet (.type "set")) false (eval iter X.env) use) Qf X.xe s := by
  have free0 : ∀ y ∈ scope.names, y.2 = .free → ∃ c, X.env.cells.lookup y.1 = some c := fun y hy e => (ok.free y hy e).elim (fun k => I.ok.has _ (.inl k)) fun k => I.ok.has _ (.inr k)
  refine wpAny_comprehension_free (use := use) rfl hs (closure_ok free0) ok.kind (fun y hy e => by rw [ok.uniq y hy, e]) ?_
  refine thn (hi.run pins s σ H _ I h) fun xv s1 hx => thn hx fun itv s2 h2 => ?_
  obtain ⟨it, fp, tn, J, H2, e, I2, T, st2, f2, q⟩ := h2
  subst e
  refine newSet_ok (newEnv_comp ?_)
  have hDn : H2 s2.heap.objs.size = none := I2.hok.fresh (Nat.le_refl _)
  obtain ⟨W, ⟨m0, w0⟩, turn⟩ := q _ hDn
  generalize hs3 : ({ s2 with heap := s2.heap.push (freshSet X.w) } : Shared) = s3
  have h3 : s3.heap = s2.heap.push (freshSet X.w) := by rw [← hs3]
  have I3 : Inv X pins σ (upd H2 s2.heap.objs.size (fr s2.heap.objs.size)) s3 := by
    rw [← hs3]
    exact I2.laid (t' := s2.toks) (fun b o e => Heap.get?_push_of_some _ e) (Nat.le_refl _) (hfr _ _ _ rfl)
  generalize hD : s2.heap.objs.size = D at *
  have old : ∀ b ∈ fp, b < D := fun b hb => by
    obtain ⟨o, e, _⟩ := T.obj _ _ st2 b hb
    rw [← hD]
    exact Heap.lt_size e
  have f3 : ∀ b ∈ fp, FpOk X pins (upd H2 D (fr D)) b ∧ b < s3.heap.objs.size := fun b hb => by
    have l := old b hb
    refine ⟨⟨?_, (f2 b hb).2⟩, ?_⟩
    · rw [upd_ne (Nat.ne_of_lt l)]
      exact (f2 b hb).1
    · rw [h3, Heap.size_push, hD]
      exact Nat.lt_succ_of_lt l
  have st3 : tn 0 s3.heap := T.keep _ _ _ st2 fun b _ o e => by
    rw [h3]
    exact Heap.get?_push_of_some _ e
  have I4 := block_start I3 ok hN f3
  generalize hH3 : upd H2 D (fr D) = H3 at I3 I4 w0 f3
  have pg := hg s3 H3 s3.heap.objs.size (cellsFrom (s3.heap.objs.size + 1) scope.names (cloFrom X.env.cells scope.names [])) fp
  have pt := ht s3 H3 s3.heap.objs.size (cellsFrom (s3.heap.objs.size + 1) scope.names (cloFrom X.env.cells scope.names [])) fp
  have pe := he s3 H3 s3.heap.objs.size (cellsFrom (s3.heap.objs.size + 1) scope.names (cloFrom X.env.cells scope.names [])) fp
  show codeAny _ _ (.compStart (.SetComp elt [⟨tg, iter, ifs, 0⟩] scope pos) 0 (.ref it) (.ref D) (compEnvC scope (cellsFrom (s3.heap.objs.size + 1) scope.names (cloFrom X.env.cells scope.names [])) s3.heap.objs.size X.env)) (compPost (model X.prog X.w) X.A X.xe use Qf (.ref D) s3.heap.objs.size) { s3 with heap := pushCells (s3.heap.push { cls := .type "dict", data := .dict #[] }) scope.names }
  generalize hce : compEnvC scope (cellsFrom (s3.heap.objs.size + 1) scope.names (cloFrom X.env.cells scope.names [])) s3.heap.objs.size X.env = ce at I4 pg pt pe ⊢
  have cL : ce.locals = s3.heap.objs.size := by rw [← hce] <;> rfl
  have ad := hr s3 H3 ce fp
  have nfp : ∀ b ∈ fp, H3 b = none := fun b hb => (f3 b hb).1.1
  generalize hs4 : ({ s3 with heap := pushCells (s3.heap.push { cls := .type "dict", data := .dict #[] }) scope.names } : Shared) = s4 at I4 ⊢
  have st4 : tn 0 s4.heap := T.keep _ _ _ st3 fun b _ o e => by
    rw [← hs4]
    exact pushCells_keeps _ _ _ _ (Heap.get?_push_of_some _ e)
  have stat : ∀ {σ' : L2.St} {H' : Hp} {s' : Shared}, Inv (X.blk s3 H3 scope ce fp) [] σ' H' s' → (∀ b ∈ fp, H' b = none) → ∀ b ∈ fp, FpOk (X.blk s3 H3 scope ce fp) [] H' b := fun I' hn b hb =>
    ⟨hn b hb, (I'.ok.exf b hb).1, I'.ok.exfs b hb, .inl hb, fun x c e => (I'.ok.exf b hb).2 x c e, fun p hp => nomatch (show p ∈ ([] : List (Addr × Obj)) from hp)⟩
  have loop : codeAny (model X.prog X.w) X.A (.compLoop (.SetComp elt [⟨tg, iter, ifs, 0⟩] scope pos) 0 (.ref it) (.ref D) ce) (compPost (model X.prog X.w) X.A X.xe use Qf (.ref D) s3.heap.objs.size) s4 := by
    refine compLoopS_any (fun n s' => ∃ i H', Inv (X.blk s3 H3 scope ce fp) [] (wipe σ (own.map (·.2))) H' s' ∧ tn i s'.heap ∧ (∀ b ∈ fp, H' b = none) ∧ W i n H') ?_ m0 ⟨0, H3, I4, st4, nfp, w0⟩
    rintro n s5 ⟨i, H5, I5, st5, n5, w5⟩
    rcases turn i n H5 w5 with ⟨stop, qq⟩ | ⟨go, Nx, hNx, step⟩
    · refine thnF (T.done (X.blk s3 H3 scope ce fp) rfl rfl rfl hc i [] s5 _ H5 (fun _ _ => False) I5 (stat I5 n5) st5 stop) fun r6 s6 ⟨hr6, I6⟩ => ?_
      subst hr6
      have I7 : Inv X pins σ H5 s6 := I3.call' (ch := fp) I6.os I6.base I6.hok I6.bare fun b hb => by
        obtain ⟨⟨_, a2, _, a4, a5, a6⟩, _⟩ := f3 b hb
        exact ⟨a4, a2, a5, a6⟩
      obtain ⟨m, hn, _⟩ := I6.loc
      have nC : H5 ce.locals = none := I6.free
      have hn : s6.heap.Ns ce.locals m := hn
      rw [cL] at hn nC
      exact hend D _ s6 m H5 I7 qq hn (I3.fpOk (Nat.le_refl _) nC)
    · refine thnF (T.item (X.blk s3 H3 scope ce fp) rfl rfl rfl hc i [] s5 _ H5 (fun _ _ => False) I5 (stat I5 n5) st5 go) fun r6 s6 ⟨u, hr6, h6⟩ => ?_
      subst hr6
      refine thnF h6 fun _ s7 ⟨x, H7, I7, r7, y7, st7, n7⟩ => ?_
      refine thnF (pg.run _ s7 _ H7 x u _ (I7.pinned (stat I7 n7) (T.obj _ _ st7)) r7 (step x H7 y7)) fun _ s8 ⟨σ8, H8, I8, hw8, q8⟩ => ?_
      refine thnF (pt.run _ s8 σ8 H8 _ I8 q8) fun b s9 ⟨H9, I9, q9⟩ => ?_
      have fin : ∀ {s' : Shared} {H' : Hp}, Inv (X.blk s3 H3 scope ce fp) ([] ++ pinsAt fp s7.heap) σ8 H' s' → Nx H' → ∃ m, m < n ∧ ∃ i H', Inv (X.blk s3 H3 scope ce fp) [] (wipe σ (own.map (·.2))) H' s' ∧ tn i s'.heap ∧ (∀ b ∈ fp, H' b = none) ∧ W i m H' := fun {s' H'} I' nx => by
        obtain ⟨m', hm, w'⟩ := hNx H' nx
        have keep : ∀ b ∈ fp, ∀ o, s7.heap.get? b = some o → s'.heap.get? b = some o ∧ H' b = none := fun b hb o e => by
          have z := I'.pin (b, o) (List.mem_append_right _ (List.mem_append_right _ (mem_pinsAt hb e)))
          exact ⟨z.1, z.2.1⟩
        refine ⟨m', hm, i + 1, H', (I'.unpinned (pins := [])).weak (by rw [← hw8, wipe_length]) (fun j v e => ?_), T.keep _ _ _ st7 fun b hb o e => (keep b hb o e).1, fun b hb => ?_, w'⟩
        · rw [← hw8] at e
          exact (wipe_some e).1
        · obtain ⟨o, e, _⟩ := T.obj _ _ st7 b hb
          exact (keep b hb o e).2
      have q9 : Keep r D te Nx σ8 b H9 := q9
      unfold Keep at q9
      cases b with
      | false =>
        rw [if_neg (by decide)] at q9
        exact fin I9 q9
      | true =>
        rw [if_pos rfl] at q9
        refine thnF (pe.run _ s9 σ8 H9 _ I9 q9) fun z s10 ⟨yv, H10, I10, r10, q10⟩ => ?_
        refine thnF (ad _ s10 σ8 H10 (.ref D) [yv] (.ref D) [z] _ I10 rfl (.cons r10 .nil) q10) fun _ s11 ⟨_, H11, I11, _, q11⟩ => fin I11 q11
  exact codeAny_compStart_set loop (T.self X.A 0 _ _ _ st4 loop)
theorem pe_set {r : AddR} {fr : Addr → HO} {elt tg iter : Expr} {ifs : List Expr} {scope : Scope} {own : List (PySem.Str × Nat)} {pos : Pos} {wi : TI} {g : TG} {tt : TT} {te : TE}
    (hfr : ∀ (H : Hp) (h : Heap) (a : Addr), a = h.objs.size → ObjOk X.prog X.w H (h.push (freshSet X.w)) a (fr a)) (hr : ∀ (s : Shared) (H : Hp) (e : Env) (fp : List Addr), MtR (X.blk s H scope e fp) "set.add" r)
    (hc : X.calm = true) (hN : X.N.Nodup) (hi : PI X tg iter wi) (ok : BlkOk X.N X.env.scope scope own)
    (hg : ∀ (s : Shared) (H : Hp) (C : Addr) (cl : List (PySem.Str × Addr)) (fp : List Addr), PG (X.blk s H scope (compEnvC scope cl C X.env) fp) tg g)
    (ht : ∀ (s : Shared) (H : Hp) (C : Addr) (cl : List (PySem.Str × Addr)) (fp : List Addr), PTs (X.blk s H scope (compEnvC scope cl C X.env) fp) ifs tt)
    (he : ∀ (s : Shared) (H : Hp) (C : Addr) (cl : List (PySem.Str × Addr)) (fp : List Addr), PE (X.blk s H scope (compEnvC scope cl C X.env) fp) elt te)
    (hs : ∀ x, foldedSetIterable iter X.env x = pure x := by intro _; rfl) : PE X (.SetComp elt [⟨tg, iter, ifs, 0⟩] scope pos) (tSet r fr wi g tt te (own.map (·.2))) := by
  constructor
  intro pins s σ H Q I h
  rw [eval_SetComp]
  refine run_set hfr hr hc hN I hi ok hg ht he hs h fun D C s' m H' I' q hn ⟨f0, f1, f2, f3, f4, f5⟩ => ⟨m, hn, fun h'' sb => ?_⟩
  exact ⟨.ref D, H', I'.turned (t' := s'.toks) (fun b o hb e => (sb.2 b hb).trans e) f0 f1 f3 f4 f5, rfl, q⟩
/-- sets of whole numbers -/
def frI (w : World) : Addr → HO := fun a => SetO w a (fun _ => false) 0
theorem pe_setI {elt tg iter : Expr} {ifs : List Expr} {scope : Scope} {own : List (PySem.Str × Nat)} {pos : Pos} {wi : TI} {g : TG} {tt : TT} {te : TE}
    (hc : X.calm = true) (hN : X.N.Nodup) (hi : PI X tg iter wi) (ok : BlkOk X.N X.env.scope scope own)
    (hg : ∀ (s : Shared) (H : Hp) (C : Addr) (cl : List (PySem.Str × Addr)) (fp : List Addr), PG (X.blk s H scope (compEnvC scope cl C X.env) fp) tg g)
    (ht : ∀ (s : Shared) (H : Hp) (C : Addr) (cl : List (PySem.Str × Addr)) (fp : List Addr), PTs (X.blk s H scope (compEnvC scope cl C X.env) fp) ifs tt)
    (he : ∀ (s : Shared) (H : Hp) (C : Addr) (cl : List (PySem.Str × Addr)) (fp : List Addr), PE (X.blk s H scope (compEnvC scope cl C X.env) fp) elt te)
    (hs : ∀ x, foldedSetIterable iter X.env x = pure x := by intro _; rfl) : PE X (.SetComp elt [⟨tg, iter, ifs, 0⟩] scope pos) (tSet (rSAdd X.w) (frI X.w) wi g tt te (own.map (·.2))) :=
  pe_set (fun H h a e => by subst e; exact setO_new (setR_fresh X.w)) (fun s H e fp => mt_sadd) hc hN hi ok hg ht he hs
end
/-! ### readings: the set of the numbers of a list that a test lets in -/
open Z
def tSetE (r : AddR) (fr : Addr → HO) (K : PySem.W.Frag) (g : TG) (tt : TT) (te : TE) (vs : List Nat) (σ : L2.St) (Q : VK) : VK := fun x H1 => tSet r fr (iList K (tC x)) g tt te vs σ H1 Q
section
variable {K : PySem.W.Frag} {H : Hp} {Q : VK} {σ : L2.St} {r : AddR} {fr : Addr → HO} {w : World}
theorem z_setE {tl : TE} {g : TG} {tt : TT} {te : TE} {vs : List Nat} (h : tl σ H (tSetE r fr K g tt te vs σ Q)) : tSet r fr (iList K tl) g tt te vs σ H Q := h
/-- the ints of ns that p lets in -/
def inI (p : Int → Bool) (ns : List Int) (S : Int → Bool) : Prop := ∀ k, S k = true ↔ k ∈ ns ∧ p k = true
theorem z_setI {k : Nat} {tt : TT} {vs : List Nat} {a : Addr} {ns : List Int} {te : TE} (p : Int → Bool) (hl : ns.length ≤ 1000) (hx : H a = some (.lst (ns.map V.int)))
    (hw : ∀ x, wipe ((wipe σ vs).set k (some x)) vs = wipe σ vs)
    (ht : ∀ (x : Int) (H' : Hp) (R : Bool → Hp → Prop), x ∈ ns → R (p x) H' → tt ((wipe σ vs).set k (some (.int x))) H' R)
    (he : ∀ (x : Int) (H' : Hp) (R : VK), x ∈ ns → R (.int x) H' → te ((wipe σ vs).set k (some (.int x))) H' R)
    (q : ∀ D H' S n, H D = none → Same H H' → H' D = some (SetO w D S n) → inI p ns S → n ≤ ns.length → Q (.ref D) H') :
    tSetE (rSAdd w) (frI w) K (gName k) tt te vs σ Q (.ref a) H := by
  refine ⟨a, rfl, ⟨_, .inl (.inl hx)⟩, fun D hD => ?_⟩
  have hDa : a ≠ D := ne_of_none hx hD
  let Pv : Nat → Hp → Prop := fun i H' => Same H H' ∧ ∃ S n, H' D = some (SetO w D S n) ∧ inI p (ns.take i) S ∧ n ≤ i
  refine ⟨fun i m H' => m = ns.length - i ∧ i ≤ ns.length ∧ Pv i H', ⟨ns.length, by simp, Nat.zero_le _, same_upd hD, _, 0, upd_same, fun k => by simp, Nat.le_refl _⟩, ?_⟩
  rintro i m H' ⟨rfl, hi, sm, S, n, hS, hin, hn⟩
  have ha := sm _ _ hx
  by_cases hlt : i < ns.length
  · refine .inr ⟨⟨_, .int ns[i], .inl (.inl ha), by simp [hlt]⟩, Pv (i + 1), fun H2 p2 => ⟨ns.length - (i + 1), by omega, rfl, hlt, p2⟩, fun x H2 y => ?_⟩
    obtain ⟨e, y⟩ := y
    subst e
    have e := y _ (.inl (.inl ha))
    have ex : x = .int ns[i] := by
      have e2 : (ns.map V.int)[i]? = some (.int ns[i]) := by simp [hlt]
      rw [e2] at e
      exact (Option.some.inj e).symm
    subst ex
    refine ⟨hw _, ht _ _ _ (List.getElem_mem hlt) ?_⟩
    have tk : ns.take (i + 1) = ns.take i ++ [ns[i]] := by rw [List.take_add_one, List.getElem?_eq_getElem hlt] <;> rfl
    unfold Keep
    by_cases c : p ns[i] = true
    · rw [if_pos c]
      refine he _ _ _ (List.getElem_mem hlt) ?_
      refine ⟨D, ns[i], S, n, rfl, rfl, hS, Nat.lt_of_le_of_lt (show n + 1 ≤ 1001 by omega) (by decide), ?_, _, _, upd_same, ?_, ?_⟩
      · exact fun b o e => by
          rw [upd_ne (ne_of_none e hD)]
          exact sm _ _ e
      · intro k
        rw [tk, List.mem_append, List.mem_singleton, Bool.or_eq_true, hin k, decide_eq_true_eq]
        constructor
        · rintro (⟨z1, z2⟩ | rfl)
          · exact ⟨.inl z1, z2⟩
          · exact ⟨.inr rfl, c⟩
        · rintro ⟨z1 | rfl, z2⟩
          · exact .inl ⟨z1, z2⟩
          · exact .inr rfl
      · split <;> omega
    · rw [if_neg c]
      refine ⟨sm, S, n, hS, fun k => ?_, by omega⟩
      rw [tk, List.mem_append, List.mem_singleton, hin k]
      constructor
      · rintro ⟨z1, z2⟩
        exact ⟨.inl z1, z2⟩
      · rintro ⟨z1 | rfl, z2⟩
        · exact ⟨z1, z2⟩
        · exact absurd z2 c
  · have e : i = ns.length := by omega
    subst e
    refine .inl ⟨⟨_, .inl (.inl ha), by simp⟩, q D H' S n hD sm hS (by rwa [List.take_length] at hin) hn⟩
/-- sorted(set of ints) -/
theorem z_sortedSet {a : Addr} {S : Int → Bool} {n : Nat} (h : H a = some (SetO w a S n)) (hn : n < 64) (q : ∀ (ns : List Int) (p : Addr) (H' : Hp), ns.Pairwise (· < ·) → (∀ k, k ∈ ns ↔ S k = true) → ns.length = n → H p = none → Same H H' → H' p = some (.lst (ns.map V.int)) → Q (.ref p) H') :
    rSortedSet w [.ref a] H Q := ⟨a, S, n, rfl, h, hn, fun ns p h1 h2 h3 hp => q ns p _ h1 h2 h3 hp (same_upd hp) upd_same⟩
end
end Sc

namespace Z
open PySem PySem.Spec PyProof.Rows L2
def rMax2 : List V → Hp → VK → Prop := fun xs H Q => ∃ i j, xs = [.int i, .int j] ∧ Q (.int (if j > i then j else i)) H
def rMin2 : List V → Hp → VK → Prop := fun xs H Q => ∃ i j, xs = [.int i, .int j] ∧ Q (.int (if j < i then j else i)) H
theorem c_max2 {X : Cx} (hc : X.calm = true) : CallR X (.builtin "max") rMax2 := call_max2 hc
theorem c_min2 {X : Cx} (hc : X.calm = true) : CallR X (.builtin "min") rMin2 := call_min2 hc
def rDivmod : List V → Hp → VK → Prop := fun xs H Q => ∃ i j, xs = [.int i, .int j] ∧ CDiv i j ∧ ∀ p, H p = none → Q (.ref p) (upd H p (.tup [.int (i / j), .int (i % j)]))
theorem c_divmod {X : Cx} : CallR X (.builtin "divmod") rDivmod := call_divmod
def TruQ (K : PySem.W.Frag) (QB : Bool → Hp → Prop) : VK := fun x H' => ∃ k, TruV K x H' k ∧ QB k H'
def tTru (K : PySem.W.Frag) (te : TE) : TT := fun σ H QB => te σ H (TruQ K QB)
theorem pt_tru {X : Cx} {a : Expr} {ta : TE} (ha : PE X a ta) (he : ∀ whole, isTrue a X.env whole = (do let v ← whole; standAt a.pos; holding [v] (truthy v))) : PT X a (tTru X.K ta) := pt_truth ha he
section
variable {K : PySem.W.Frag} {σ : L2.St} {H : Hp} {Q : VK} {QB : Bool → Hp → Prop} {i j : Int} {v x y : V} {p q l : Addr} {xs ys : List V} {te : TE}
theorem z_max2 (h : Q (.int (if j > i then j else i)) H) : rMax2 [.int i, .int j] H Q := ⟨i, j, rfl, h⟩
theorem z_min2 (h : Q (.int (if j < i then j else i)) H) : rMin2 [.int i, .int j] H Q := ⟨i, j, rfl, h⟩
theorem z_divmod (c : 0 < j ∧ j < 1073741824) (h : ∀ p H', H p = none → Same H H' → H' p = some (.tup [.int (i / j), .int (i % j)]) → Q (.ref p) H') : rDivmod [.int i, .int j] H Q :=
  ⟨i, j, rfl, c, fun a ha => h a _ ha (same_upd ha) upd_same⟩
theorem z_tru (h : te σ H (TruQ K QB)) : tTru K te σ H QB := h
/-- a test that is known to fail -/
theorem z_skip {n : L2.St → Hp → Prop} {r : VK} {b c : L2.St → Hp → Prop} {tt : TT} {t : TS} (h : ∀ R : Bool → Hp → Prop, R false H → tt σ H R) (q : n σ H) : tIfS tt t tNext ⟨n, r, b, c⟩ σ H := by
  refine h _ ?_
  rw [if_neg (by decide)]
  exact q
theorem z_truL (h : H p = some (.lst xs)) (q : QB (!xs.isEmpty) H) : TruQ K QB (.ref p) H := ⟨_, .inl ⟨xs, .inl (.inl h), rfl⟩, q⟩
theorem z_truT (h : SqT K H p xs) (q : QB (!xs.isEmpty) H) : TruQ K QB (.ref p) H := ⟨_, .inr (.inl ⟨xs, h, rfl⟩), q⟩
theorem z_truI (q : QB (i != 0) H) : TruQ K QB (.int i) H := ⟨_, rfl, q⟩
theorem rep_one (v : V) : ∀ m : Nat, (List.replicate m [v]).flatten = List.replicate m v
  | 0 => rfl
  | m + 1 => by
    rw [List.replicate_succ, List.flatten_cons, rep_one v m, List.replicate_succ]
    rfl
theorem z_rep (m : Nat) (h : H l = some (.lst [v])) (hj : j = (m : Int)) (hm : m ≤ 1000) (q : ∀ a H', H a = none → Same H H' → H' a = some (.lst (List.replicate m v)) → Q (.ref a) H') : rRep (.ref l) (.int j) H Q := by
  subst hj
  refine ⟨l, (m : Int), [v], rfl, rfl, h, by omega, by omega, Nat.le_trans (show [v].length * (m : Int).toNat ≤ 1000 by simpa using hm) (by decide), fun a ha => ?_⟩
  rw [Int.toNat_natCast, rep_one v m]
  exact q a _ ha (same_upd ha) upd_same
/-! while -/
/-- the number in slot k, as a measure -/
def muI (k : Nat) : L2.St → Hp → Nat := fun σ _ => match (σ[k]? : Option (Option V)) with
  | some (some (V.int m)) => m.toNat
  | _ => 0
def WB (Pv : L2.St → Hp → Prop) (μ : L2.St → Hp → Nat) (m : Nat) (tb : TS) (n : L2.St → Hp → Prop) (r : VK) (σ : L2.St) : Bool → Hp → Prop := fun b H1 =>
  if b = true then ∃ N : L2.St → Hp → Prop, (∀ σ' H', N σ' H' → ∃ m', m' < m ∧ m' = μ σ' H' ∧ Pv σ' H') ∧ tb ⟨N, r, n, N⟩ σ H1 else n σ H1
section
variable {Pv : L2.St → Hp → Prop} {μ : L2.St → Hp → Nat} {m : Nat} {tb : TS} {n : L2.St → Hp → Prop} {r : VK} {b c : L2.St → Hp → Prop}
theorem z_wbT (h : tb ⟨fun σ' H' => Pv σ' H' ∧ μ σ' H' < m, r, n, fun σ' H' => Pv σ' H' ∧ μ σ' H' < m⟩ σ H) : WB Pv μ m tb n r σ true H := by
  unfold WB
  rw [if_pos rfl]
  exact ⟨_, fun σ' H' z => ⟨_, z.2, rfl, z.1⟩, h⟩
theorem z_wbF (h : n σ H) : WB Pv μ m tb n r σ false H := by
  unfold WB
  rw [if_neg (by decide)]
  exact h
theorem z_wb {p : Prop} [Decidable p] (h1 : p → tb ⟨fun σ' H' => Pv σ' H' ∧ μ σ' H' < m, r, n, fun σ' H' => Pv σ' H' ∧ μ σ' H' < m⟩ σ H) (h2 : ¬ p → n σ H) : WB Pv μ m tb n r σ (decide p) H := by
  by_cases h : p
  · rw [decide_eq_true h]
    exact z_wbT (h1 h)
  · rw [decide_eq_false h]
    exact z_wbF (h2 h)
theorem z_while {tt : TT} (Pv : L2.St → Hp → Prop) (μ : L2.St → Hp → Nat) (h0 : Pv σ H) (hs : ∀ σ H, Pv σ H → tt σ H (WB Pv μ (μ σ H) tb n r σ)) : tWhile tt tb ⟨n, r, b, c⟩ σ H := by
  refine ⟨fun m σ H => m = μ σ H ∧ Pv σ H, ⟨_, rfl, h0⟩, ?_⟩
  rintro m σ H ⟨rfl, p⟩
  exact hs σ H p
end
/-! comprehensions over a range, over a list: the list at D grows -/
def LcB (D : Addr) (i : Nat) (Pv : Nat → Addr → List V → Hp → Prop) (Nx : Hp → Prop) : VK := fun y H4 => ∃ acc, H4 D = some (.lst acc) ∧ acc.length < sizeLine ∧ Nx (upd H4 D (.lst (acc ++ [y])))
theorem z_lcB {D : Addr} {i : Nat} {Pv : Nat → Addr → List V → Hp → Prop} {acc : List V} (h : H D = some (.lst acc)) (hl : acc.length = i) (hi : i < 1000) (q : ∀ H', H' D = some (.lst (acc ++ [y])) → Kp D H H' → (∀ b, b ≠ D → H' b = H b) → Pv (i + 1) D (acc ++ [y]) H') :
    LcB D i Pv (fun H' => ∃ acc', acc'.length = i + 1 ∧ H' D = some (.lst acc') ∧ Pv (i + 1) D acc' H') y H :=
  ⟨acc, h, Nat.lt_of_lt_of_le (show acc.length < 1000 by omega) (by decide), acc ++ [y], by simp [hl], upd_same, q _ upd_same (fun b o hb e => by rw [upd_ne hb]; exact e) fun b hb => upd_ne hb⟩
abbrev LcN (D : Addr) (i : Nat) (Pv : Nat → Addr → List V → Hp → Prop) : VK := LcB D i Pv (fun H' => ∃ acc', acc'.length = i + 1 ∧ H' D = some (.lst acc') ∧ Pv (i + 1) D acc' H')
theorem z_lcR {ta : TA} {k : Nat} {te : TE} {vs : List Nat} (m : Nat) (hm : m ≤ 1000) (ha : ∀ R : List V → Hp → Prop, R [.int (m : Int)] H → ta σ H R) (hw : ∀ x, wipe ((wipe σ vs).set k (some x)) vs = wipe σ vs) (Pv : Nat → Addr → List V → Hp → Prop)
    (h0 : ∀ D H', H D = none → Same H H' → H' D = some (.lst []) → Pv 0 D [] H')
    (hs : ∀ i D acc H', i < m → acc.length = i → H' D = some (.lst acc) → Pv i D acc H' → te ((wipe σ vs).set k (some (.int (i : Int)))) H' (LcN D i Pv))
    (hd : ∀ D acc H', H D = none → acc.length = m → H' D = some (.lst acc) → Pv m D acc H' → Q (.ref D) H') : tLc (iRng1 ta) (gName k) tYes te vs σ H Q := by
  refine ha _ ⟨(m : Int), rfl, by omega, by omega, fun D hD => ?_⟩
  refine lc_range (lo := 0) (n := (m : Int).toNat) (fun i H' => ∃ acc, acc.length = i ∧ H' D = some (.lst acc) ∧ Pv i D acc H') ⟨[], rfl, upd_same, h0 D _ hD (same_upd hD) upd_same⟩ (fun i H' hi ⟨acc, hl, hH, pv⟩ => ?_) (fun H' ⟨acc, hl, hH, pv⟩ => hd D acc H' hD (by simpa using hl) hH (by simpa using pv))
  have e : (0 : Int) + (i : Int) = (i : Int) := Int.zero_add _
  show wipe ((wipe σ vs).set k (some (.int ((0 : Int) + (i : Int))))) vs = wipe σ vs ∧ _
  refine ⟨hw _, z_yes (z_ifT ?_)⟩
  rw [e]
  exact hs i D acc H' (by simpa using hi) hl hH pv
def LcE (K : PySem.W.Frag) (g : TG) (tt : TT) (te : TE) (vs : List Nat) (σ : L2.St) (Q : VK) : VK := fun x H1 => tLc (iList K (tC x)) g tt te vs σ H1 Q
theorem z_lcE {tl : TE} {g : TG} {tt : TT} {vs : List Nat} (h : tl σ H (LcE K g tt te vs σ Q)) : tLc (iList K tl) g tt te vs σ H Q := h
def LcRE (g : TG) (tt : TT) (te : TE) (vs : List Nat) (σ : L2.St) (Q : VK) : List V → Hp → Prop := fun xs H1 => tLc (iRng1 fun _ H R => R xs H) g tt te vs σ H1 Q
theorem z_lcRE {ta : TA} {g : TG} {tt : TT} {vs : List Nat} (h : ta σ H (LcRE g tt te vs σ Q)) : tLc (iRng1 ta) g tt te vs σ H Q := h
theorem z_lcRr {k : Nat} {vs : List Nat} (m : Nat) (hm : m ≤ 1000) (hw : ∀ x, wipe ((wipe σ vs).set k (some x)) vs = wipe σ vs) (Pv : Nat → Addr → List V → Hp → Prop)
    (h0 : ∀ D H', H D = none → Same H H' → H' D = some (.lst []) → Pv 0 D [] H')
    (hs : ∀ i D acc H', i < m → acc.length = i → H' D = some (.lst acc) → Pv i D acc H' → te ((wipe σ vs).set k (some (.int (i : Int)))) H' (LcN D i Pv))
    (hd : ∀ D acc H', H D = none → acc.length = m → H' D = some (.lst acc) → Pv m D acc H' → Q (.ref D) H') : LcRE (gName k) tYes te vs σ Q [.int (m : Int)] H := z_lcR m hm (fun R q => q) hw Pv h0 hs hd
/-- over a list that stands as long as Pv -/
theorem z_lcLs {k : Nat} {vs : List Nat} {a : Addr} (hm : xs.length ≤ 1000) (hx : SqL K H a xs) (hw : ∀ x, wipe ((wipe σ vs).set k (some x)) vs = wipe σ vs) (Pv : Nat → Addr → List V → Hp → Prop)
    (h0 : ∀ D H', H D = none → Same H H' → H' D = some (.lst []) → Pv 0 D [] H') (hl : ∀ i D acc H', Pv i D acc H' → SqL K H' a xs)
    (hs : ∀ i x D acc H', xs[i]? = some x → acc.length = i → H' D = some (.lst acc) → Pv i D acc H' → te ((wipe σ vs).set k (some x)) H' (LcN D i Pv))
    (hd : ∀ D acc H', H D = none → acc.length = xs.length → H' D = some (.lst acc) → Pv xs.length D acc H' → Q (.ref D) H') : LcE K (gName k) tYes te vs σ Q (.ref a) H := by
  refine ⟨a, rfl, ⟨xs, hx⟩, fun D hD => ?_⟩
  refine lc_list (xs := xs) (fun i H' => ∃ acc, acc.length = i ∧ H' D = some (.lst acc) ∧ Pv i D acc H') ⟨[], rfl, upd_same, h0 D _ hD (same_upd hD) upd_same⟩ (fun i H' _ ⟨acc, _, _, pv⟩ => hl _ _ _ _ pv) (fun i x H' hi ⟨acc, hl, hH, pv⟩ => ?_) (fun H' ⟨acc, hl, hH, pv⟩ => hd D acc H' hD hl hH pv)
  show wipe ((wipe σ vs).set k (some x)) vs = wipe σ vs ∧ _
  exact ⟨hw _, z_yes (z_ifT (hs i x D acc H' hi hl hH pv))⟩
/-- any target -/
theorem z_lcG {g : TG} {vs : List Nat} {a : Addr} (hm : xs.length ≤ 1000) (hx : SqL K H a xs) (Pv : Nat → Addr → List V → Hp → Prop)
    (h0 : ∀ D H', H D = none → Same H H' → H' D = some (.lst []) → Pv 0 D [] H') (hl : ∀ i D acc H', Pv i D acc H' → SqL K H' a xs)
    (hs : ∀ i x D acc H', xs[i]? = some x → acc.length = i → H' D = some (.lst acc) → Pv i D acc H' → g x (wipe σ vs) H' fun σ2 H2 => wipe σ2 vs = wipe σ vs ∧ te σ2 H2 (LcN D i Pv))
    (hd : ∀ D acc H', H D = none → acc.length = xs.length → H' D = some (.lst acc) → Pv xs.length D acc H' → Q (.ref D) H') : LcE K g tYes te vs σ Q (.ref a) H := by
  refine ⟨a, rfl, ⟨xs, hx⟩, fun D hD => ?_⟩
  refine lc_list (xs := xs) (fun i H' => ∃ acc, acc.length = i ∧ H' D = some (.lst acc) ∧ Pv i D acc H') ⟨[], rfl, upd_same, h0 D _ hD (same_upd hD) upd_same⟩ (fun i H' _ ⟨acc, _, _, pv⟩ => hl _ _ _ _ pv) (fun i x H' hi ⟨acc, hl, hH, pv⟩ => ?_) (fun H' ⟨acc, hl, hH, pv⟩ => hd D acc H' hD hl hH pv)
  have h := hs i x D acc H' hi hl hH pv
  have e : (fun σ2 H2 => wipe σ2 vs = wipe σ vs ∧ te σ2 H2 (LcN D i Pv)) = (fun (σ2 : L2.St) (H2 : Hp) => wipe σ2 vs = wipe σ vs ∧ tYes σ2 H2 fun b H3 => if b = true then te σ2 H3 (LcN D i Pv) else ∃ acc', acc'.length = i + 1 ∧ H3 D = some (.lst acc') ∧ Pv (i + 1) D acc' H3) := by
    funext σ2 H2
    show _ = (wipe σ2 vs = wipe σ vs ∧ if true = true then te σ2 H2 (LcN D i Pv) else ∃ acc', acc'.length = i + 1 ∧ H2 D = some (.lst acc') ∧ Pv (i + 1) D acc' H2)
    rw [if_pos rfl]
  rw [e] at h
  exact h
/-- where the item answers at once -/
theorem z_lcS {k : Nat} {vs : List Nat} {a : Addr} (ws : List V) (hlen : ws.length = xs.length) (hm : xs.length ≤ 1000) (hx : H a = some (.lst xs)) (hw : ∀ x, wipe ((wipe σ vs).set k (some x)) vs = wipe σ vs)
    (body : ∀ (i : Nat) (x w : V) (H' : Hp), xs[i]? = some x → ws[i]? = some w → Same H H' → ∀ R : VK, R w H' → te ((wipe σ vs).set k (some x)) H' R)
    (hd : ∀ D H', H D = none → Same H H' → H' D = some (.lst ws) → Q (.ref D) H') : LcE K (gName k) tYes te vs σ Q (.ref a) H :=
  z_lcM (tl := tC (.ref a)) hlen hm (fun R q => q) hx hw body hd
end
/-! ### data: numbers, lists of numbers -/
def Fl (n : Nat) (d : PyData) : Prop := PyData.canLay0 d = true ∧ PyData.depth d ≤ n
theorem fl_all {n : Nat} : ∀ {ds : List PyData}, (∀ d ∈ ds, Fl n d) → PyData.canLayAll0 ds = true ∧ PyData.depthAll ds ≤ n
  | [], _ => ⟨rfl, Nat.zero_le _⟩
  | d :: ds, h => by
    have h1 := h d (.head _)
    have h2 := fl_all (ds := ds) fun x hx => h x (.tail _ hx)
    refine ⟨?_, ?_⟩
    · show (PyData.canLay0 d && PyData.canLayAll0 ds) = true
      rw [h1.1, h2.1]
      rfl
    · show max (PyData.depth d) (PyData.depthAll ds) ≤ n
      have := h1.2
      have := h2.2
      omega
theorem fl_list {n : Nat} {ds : List PyData} (h : ∀ d ∈ ds, Fl n d) : Fl (n + 1) (.list ds) := ⟨(fl_all h).1, Nat.succ_le_succ (fl_all h).2⟩
theorem fl_tup {n : Nat} {ds : List PyData} (h : ∀ d ∈ ds, Fl n d) : Fl (n + 1) (.tuple ds) := ⟨(fl_all h).1, Nat.succ_le_succ (fl_all h).2⟩
theorem fl_int (i : Int) : Fl 0 (.int i) := ⟨rfl, Nat.le_refl 0⟩
theorem shaped_fl {n : Nat} {d : PyData} (h : Fl n d) (hn : n ≤ 64 := by decide) : SeqAt.shaped d = true := by
  unfold SeqAt.shaped
  rw [Bool.and_eq_true]
  exact ⟨h.1, decide_eq_true (Nat.le_trans h.2 hn)⟩
theorem fl_ints (ns : List Int) : Fl 1 (.list (ns.map .int)) := fl_list fun d hd => by
  obtain ⟨i, _, rfl⟩ := List.mem_map.mp hd
  exact fl_int i
section
variable {K : PySem.W.Frag} {H : Hp} {Q : VK} {p q : Addr}
theorem dpa_ints : ∀ (ns : List Int), DpAll K H (ns.map V.int) (ns.map PyData.int)
  | [] => .nil
  | n :: ns => .cons (.int n) (dpa_ints ns)
theorem dp_ints {ns : List Int} (h : H p = some (.lst (ns.map V.int))) : Dp K H (.ref p) (.list (ns.map .int)) := .lst (.inl (.inl h)) (dpa_ints ns)
theorem eqv_intsA : ∀ (ns ms : List Int), PyData.eqv (.list (ns.map .int)) (.list (ms.map .int)) = decide (ns = ms)
  | [], [] => rfl
  | [], m :: ms => rfl
  | n :: ns, [] => rfl
  | n :: ns, m :: ms => by
    have ih := eqv_intsA ns ms
    show ((n == m) && PyData.eqv (.list (ns.map .int)) (.list (ms.map .int))) = _
    rw [ih]
    by_cases h : n = m
    · subst h
      by_cases h2 : ns = ms
      · simp [h2]
      · simp [h2]
    · simp [h]
theorem z_eqInts {ns ms : List Int} (h1 : H p = some (.lst (ns.map V.int))) (h2 : H q = some (.lst (ms.map V.int))) (k : Q (.bl (decide (ns = ms))) H) : rEqD K (.ref p) (.ref q) H Q :=
  ⟨_, _, dp_ints h1, dp_ints h2, shaped_fl (fl_ints ns), shaped_fl (fl_ints ms), by rw [eqv_intsA]; exact k⟩
theorem z_neInts {ns ms : List Int} (h1 : H p = some (.lst (ns.map V.int))) (h2 : H q = some (.lst (ms.map V.int))) (k : Q (.bl (decide (¬ ns = ms))) H) : rNeD K (.ref p) (.ref q) H Q :=
  ⟨_, _, dp_ints h1, dp_ints h2, shaped_fl (fl_ints ns), shaped_fl (fl_ints ms), by
    rw [eqv_intsA, show (!decide (ns = ms)) = decide (¬ ns = ms) by simp]
    exact k⟩
theorem inV_int (i : Int) : ∀ (ns : List Int), inV (.int i) (ns.map V.int) = decide (i ∈ ns)
  | [] => rfl
  | n :: ns => by
    have ih := inV_int i ns
    show (eqV (.int n) (.int i) || inV (.int i) (ns.map V.int)) = _
    rw [ih, show eqV (.int n) (.int i) = decide (n = i) by first | rfl | simp [eqV]]
    by_cases h : n = i
    · subst h
      simp
    · have h' : ¬ i = n := fun z => h z.symm
      simp [h, h']
theorem flat_ints (ns : List Int) : (ns.map V.int).all flatV = true := by
  rw [List.all_eq_true]
  intro v hv
  obtain ⟨i, _, rfl⟩ := List.mem_map.mp hv
  rfl
theorem z_inI {i : Int} {ns : List Int} (h : H p = some (.lst (ns.map V.int))) (k : Q (.bl (decide (i ∈ ns))) H) : rIn K false (.int i) (.ref p) H Q :=
  ⟨p, _, rfl, .inl (.inl (.inl h)), rfl, flat_ints ns, by rw [inV_int]; exact k⟩
theorem z_notInI {i : Int} {ns : List Int} (h : H p = some (.lst (ns.map V.int))) (k : Q (.bl (decide (¬ i ∈ ns))) H) : rIn K true (.int i) (.ref p) H Q :=
  ⟨p, _, rfl, .inl (.inl (.inl h)), rfl, flat_ints ns, by
    rw [inV_int, show (if true = true then !decide (i ∈ ns) else decide (i ∈ ns)) = decide (¬ i ∈ ns) by simp]
    exact k⟩
theorem z_sortedI {ns : List Int} (h : H p = some (.lst (ns.map V.int))) (k : ∀ (ms : List Int) (a : Addr) (H' : Hp), ms.Perm ns → ms.Pairwise (· ≤ ·) → H a = none → Same H H' → H' a = some (.lst (ms.map V.int)) → Q (.ref a) H') : rSortedI K [.ref p] H Q :=
  ⟨p, ns, rfl, .inl (.inl h), fun ms a h1 h2 ha => k ms a _ h1 h2 ha (same_upd ha) upd_same⟩
/-- truth values -/
theorem inV_bl (i : Bool) : ∀ (ns : List Bool), inV (.bl i) (ns.map V.bl) = decide (i ∈ ns)
  | [] => rfl
  | n :: ns => by
    have ih := inV_bl i ns
    show (eqV (.bl n) (.bl i) || inV (.bl i) (ns.map V.bl)) = _
    rw [ih]
    cases n <;> cases i <;> simp [eqV]
theorem flat_bls (ns : List Bool) : (ns.map V.bl).all flatV = true := by
  rw [List.all_eq_true]
  intro v hv
  obtain ⟨i, _, rfl⟩ := List.mem_map.mp hv
  rfl
theorem z_inB {i : Bool} {ns : List Bool} (h : H p = some (.lst (ns.map V.bl))) (k : Q (.bl (decide (i ∈ ns))) H) : rIn K false (.bl i) (.ref p) H Q :=
  ⟨p, _, rfl, .inl (.inl (.inl h)), rfl, flat_bls ns, by rw [inV_bl]; exact k⟩
theorem z_notInB {i : Bool} {ns : List Bool} (h : H p = some (.lst (ns.map V.bl))) (k : Q (.bl (decide (¬ i ∈ ns))) H) : rIn K true (.bl i) (.ref p) H Q :=
  ⟨p, _, rfl, .inl (.inl (.inl h)), rfl, flat_bls ns, by
    rw [inV_bl, show (if true = true then !decide (i ∈ ns) else decide (i ∈ ns)) = decide (¬ i ∈ ns) by simp]
    exact k⟩
theorem z_notNI {i : Int} (q : Q (.bl true) H) : rNotN (.int i) .non H Q := ⟨rfl, by simpa using q⟩
theorem z_isNI {i : Int} (q : Q (.bl false) H) : rIsN (.int i) .non H Q := ⟨rfl, by simpa using q⟩
theorem fresh_of {H H' : Hp} {a : Addr} (s : Same H H') (h : H' a = none) : H a = none := by
  cases z : H a with
  | none => rfl
  | some o =>
    have := s _ _ z
    rw [h] at this
    cases this
/-- sorted(ints) -/
theorem z_sorted {ns : List Int} (h : H p = some (.lst (ns.map V.int))) (hl : ns.length < 64) (k : ∀ (ms : List Int) (a : Addr) (H' : Hp), ms.Perm ns → ms.Pairwise (· ≤ ·) → H a = none → Same H H' → H' a = some (.lst (ms.map V.int)) → Q (.ref a) H') : rSorted K [.ref p] H Q :=
  ⟨p, ns, rfl, .inl (.inl h), hl, fun ms a h1 h2 ha => k ms a _ h1 h2 ha (same_upd ha) upd_same⟩
end
end Z

namespace G
open PySem PySem.Spec PyProof.Rows L2 Z
def topS (i : Nat) : Stmt := PySem.Challenge.pw_fontwinding_k60_tables_and_their_values.main.body.getD i (.Pass ⟨0, 0, 0, 0⟩)
abbrev s_groups : Stmt := topS 1
abbrev s_values_in_order : Stmt := topS 2
abbrev s_groups_in_order : Stmt := topS 3
abbrev s_least_tolerance : Stmt := topS 4
abbrev s_table_groups : Stmt := topS 5
abbrev s_group_value : Stmt := topS 6
abbrev s_table : Stmt := topS 7
abbrev s_table_value : Stmt := topS 8
abbrev s__law_cell : Stmt := topS 10
abbrev s__law_stream : Stmt := topS 11
abbrev s__law_next : Stmt := topS 12
abbrev s__law_is_integer : Stmt := topS 13
abbrev s__law_values : Stmt := topS 14
abbrev s__law_ascending : Stmt := topS 15
abbrev s__law_greedy : Stmt := topS 16
abbrev s__law_tolerance : Stmt := topS 17
abbrev s_law : Stmt := topS 18
theorem sc_groups : FnScope ["values", "tolerance"] ["values", "tolerance"] (defScope s_groups) := ⟨rfl, rfl, rfl, by decide +kernel, rfl, by decide +kernel, by decide +kernel⟩
theorem sc_values_in_order : FnScope ["values", "value"] ["values"] (defScope s_values_in_order) := ⟨rfl, rfl, rfl, by decide +kernel, rfl, by decide +kernel, by decide +kernel⟩
theorem sc_groups_in_order : FnScope ["values", "tolerance", "found", "value"] ["values", "tolerance"] (defScope s_groups_in_order) := ⟨rfl, rfl, rfl, by decide +kernel, rfl, by decide +kernel, by decide +kernel⟩
theorem sc_least_tolerance : FnScope ["values", "limit", "ordered", "low", "high", "middle"] ["values", "limit"] (defScope s_least_tolerance) := ⟨rfl, rfl, rfl, by decide +kernel, rfl, by decide +kernel, by decide +kernel⟩
theorem sc_table_groups : FnScope ["values", "limit"] ["values", "limit"] (defScope s_table_groups) := ⟨rfl, rfl, rfl, by decide +kernel, rfl, by decide +kernel, by decide +kernel⟩
theorem sc_group_value : FnScope ["group"] ["group"] (defScope s_group_value) := ⟨rfl, rfl, rfl, by decide +kernel, rfl, by decide +kernel, by decide +kernel⟩
theorem sc_table : FnScope ["values", "limit", "group"] ["values", "limit"] (defScope s_table) := ⟨rfl, rfl, rfl, by decide +kernel, rfl, by decide +kernel, by decide +kernel⟩
theorem sc_table_value : FnScope ["values", "limit", "value", "group"] ["values", "limit", "value"] (defScope s_table_value) := ⟨rfl, rfl, rfl, by decide +kernel, rfl, by decide +kernel, by decide +kernel⟩
theorem sc__law_cell : FnScope ["script", "k"] ["script", "k"] (defScope s__law_cell) := ⟨rfl, rfl, rfl, by decide +kernel, rfl, by decide +kernel, by decide +kernel⟩
theorem sc__law_stream : FnScope ["cell"] ["cell"] (defScope s__law_stream) := ⟨rfl, rfl, rfl, by decide +kernel, rfl, by decide +kernel, by decide +kernel⟩
theorem sc__law_next : FnScope ["stream", "size", "drawn", "mixed"] ["stream", "size"] (defScope s__law_next) := ⟨rfl, rfl, rfl, by decide +kernel, rfl, by decide +kernel, by decide +kernel⟩
theorem sc__law_is_integer : FnScope ["actual"] ["actual"] (defScope s__law_is_integer) := ⟨rfl, rfl, rfl, by decide +kernel, rfl, by decide +kernel, by decide +kernel⟩
theorem sc__law_values : FnScope ["stream", "count", "top", "k"] ["stream"] (defScope s__law_values) := ⟨rfl, rfl, rfl, by decide +kernel, rfl, by decide +kernel, by decide +kernel⟩
theorem sc__law_ascending : FnScope ["values", "told", "value"] ["values"] (defScope s__law_ascending) := ⟨rfl, rfl, rfl, by decide +kernel, rfl, by decide +kernel, by decide +kernel⟩
theorem sc__law_greedy : FnScope ["rest", "e", "found", "value"] ["rest", "e"] (defScope s__law_greedy) := ⟨rfl, rfl, rfl, by decide +kernel, rfl, by decide +kernel, by decide +kernel⟩
theorem sc__law_tolerance : FnScope ["rest", "limit", "differences", "k", "value", "e"] ["rest", "limit"] (defScope s__law_tolerance) := ⟨rfl, rfl, rfl, by decide +kernel, rfl, by decide +kernel, by decide +kernel⟩
theorem sc_law : FnScope ["script", "stream", "values", "limit", "rest", "tolerance", "middles", "least", "greatest", "handed", "actual", "value", "told"] ["script"] (defScope s_law) := ⟨rfl, rfl, rfl, by decide +kernel, rfl, by decide +kernel, by decide +kernel⟩
structure Txt (K : PySem.W.Frag) (mg : Str → Option Value) (A : Nat → Addr) (D : Nat → FuncData) : Prop where
  F_groups : Fun K "groups" "groups" s_groups (A 0) (D 0)
  m_groups : mg "groups" = some (.ref (A 0))
  b_groups : Binds K (D 0) ["values", "tolerance"] []
  F_values_in_order : Fun K "values_in_order" "values_in_order" s_values_in_order (A 1) (D 1)
  m_values_in_order : mg "values_in_order" = some (.ref (A 1))
  b_values_in_order : Binds K (D 1) ["values"] []
  F_groups_in_order : Fun K "groups_in_order" "groups_in_order" s_groups_in_order (A 2) (D 2)
  m_groups_in_order : mg "groups_in_order" = some (.ref (A 2))
  b_groups_in_order : Binds K (D 2) ["values", "tolerance"] []
  F_least_tolerance : Fun K "least_tolerance" "least_tolerance" s_least_tolerance (A 3) (D 3)
  m_least_tolerance : mg "least_tolerance" = some (.ref (A 3))
  b_least_tolerance : Binds K (D 3) ["values", "limit"] []
  F_table_groups : Fun K "table_groups" "table_groups" s_table_groups (A 4) (D 4)
  m_table_groups : mg "table_groups" = some (.ref (A 4))
  b_table_groups : Binds K (D 4) ["values", "limit"] []
  F_group_value : Fun K "group_value" "group_value" s_group_value (A 5) (D 5)
  m_group_value : mg "group_value" = some (.ref (A 5))
  b_group_value : Binds K (D 5) ["group"] []
  F_table : Fun K "table" "table" s_table (A 6) (D 6)
  m_table : mg "table" = some (.ref (A 6))
  b_table : Binds K (D 6) ["values", "limit"] []
  F_table_value : Fun K "table_value" "table_value" s_table_value (A 7) (D 7)
  m_table_value : mg "table_value" = some (.ref (A 7))
  b_table_value : Binds K (D 7) ["values", "limit", "value"] []
  F__law_cell : Fun K "_law_cell" "_law_cell" s__law_cell (A 8) (D 8)
  m__law_cell : mg "_law_cell" = some (.ref (A 8))
  b__law_cell : Binds K (D 8) ["script", "k"] []
  F__law_stream : Fun K "_law_stream" "_law_stream" s__law_stream (A 9) (D 9)
  m__law_stream : mg "_law_stream" = some (.ref (A 9))
  b__law_stream : Binds K (D 9) ["cell"] []
  F__law_next : Fun K "_law_next" "_law_next" s__law_next (A 10) (D 10)
  m__law_next : mg "_law_next" = some (.ref (A 10))
  b__law_next : Binds K (D 10) ["stream", "size"] []
  F__law_is_integer : Fun K "_law_is_integer" "_law_is_integer" s__law_is_integer (A 11) (D 11)
  m__law_is_integer : mg "_law_is_integer" = some (.ref (A 11))
  b__law_is_integer : Binds K (D 11) ["actual"] []
  F__law_values : Fun K "_law_values" "_law_values" s__law_values (A 12) (D 12)
  m__law_values : mg "_law_values" = some (.ref (A 12))
  b__law_values : Binds K (D 12) ["stream"] []
  F__law_ascending : Fun K "_law_ascending" "_law_ascending" s__law_ascending (A 13) (D 13)
  m__law_ascending : mg "_law_ascending" = some (.ref (A 13))
  b__law_ascending : Binds K (D 13) ["values"] []
  F__law_greedy : Fun K "_law_greedy" "_law_greedy" s__law_greedy (A 14) (D 14)
  m__law_greedy : mg "_law_greedy" = some (.ref (A 14))
  b__law_greedy : Binds K (D 14) ["rest", "e"] []
  F__law_tolerance : Fun K "_law_tolerance" "_law_tolerance" s__law_tolerance (A 15) (D 15)
  m__law_tolerance : mg "_law_tolerance" = some (.ref (A 15))
  b__law_tolerance : Binds K (D 15) ["rest", "limit"] []
  F_law : Fun K "law" "law" s_law (A 16) (D 16)
  m_law : mg "law" = some (.ref (A 16))
  b_law : Binds K (D 16) ["script"] []
  z_abs : mg "abs" = none
  z_bool : mg "bool" = none
  z_int : mg "int" = none
  z_isinstance : mg "isinstance" = none
  z_len : mg "len" = none
  z_list : mg "list" = none
  z_range : mg "range" = none
  z_sorted : mg "sorted" = none
local macro_rules | `(tactic| walk_at "z1") => `(tactic| first
  | with_reducible refine z_seq ?_
  | with_reducible refine z_asg ?_
  | with_reducible refine z_asgS ?_
  | with_reducible refine z_ifs ?_
  | ((with_reducible refine' z_var ?h ?_); case h => with_unfolding_all exact rfl)
  | with_reducible refine z_c ?_
  | with_reducible refine z_op ?_
  | with_reducible refine z_un ?_
  | with_reducible refine z_I0 ?_
  | ((with_reducible refine z_I ?h ?_); case h => first | (exact Or.inr ⟨by decide, by decide⟩) | (exact Or.inl ⟨by decide, by decide⟩) | (show (0 : Int) < _; first | assumption | omega))
  | with_reducible refine z_U ?_
  | with_reducible refine z_eqI ?_
  | with_reducible refine z_neI ?_
  | with_reducible refine z_test ?_
  | with_reducible refine z_tB ?_
  | with_reducible refine z_bl ?_
  | with_reducible refine z_notT ?_
  | with_reducible refine z_andT ?_
  | with_reducible refine z_orT ?_
  | with_reducible refine z_andV ?_
  | with_reducible refine z_orV ?_
  | with_reducible refine z_notV ?_
  | with_reducible refine z_ifE ?_
  | with_reducible refine z_ifT ?_
  | with_reducible refine z_ifF ?_
  | with_reducible refine z_ifNT ?_
  | with_reducible refine z_ifNF ?_
  | with_reducible refine z_chain ?_
  | with_reducible refine z_nil ?_
  | with_reducible refine z_cons ?_
  | with_reducible refine z_tup ?_
  | with_reducible refine z_lst ?_
  | with_reducible refine z_cb ?_
  | with_reducible refine z_call ?_
  | with_reducible refine z_callS ?_
  | with_reducible refine z_int1 ?_
  | with_reducible refine z_int1b ?_
  | with_reducible refine z_abs ?_
  | with_reducible refine z_gcd ?_
  | with_reducible refine z_ret ?_
  | with_reducible refine z_retN ?_
  | with_reducible refine z_drop ?_
  | with_reducible refine z_next ?_
  | with_reducible refine z_brk ?_
  | with_reducible refine z_cont ?_
  | with_reducible refine z_par ?_
  | with_reducible refine z_two ?_
  | with_reducible refine z_asgT ?_
  | with_reducible refine z_sl ?_
  | with_reducible refine z_noPart ?_
  | with_reducible refine z_part ?_
  | with_reducible refine z_partI ?_
  | with_reducible refine z_gName ?_
  | with_reducible refine z_gcons ?_
  | with_reducible refine z_gnil ?_
  | ((with_reducible refine' z_up ?h ?hm ?_); (case h => walk_at "sq"); (case hm => exact rfl))
  | ((with_reducible refine' z_gT ?h ?hm ?_); (case h => walk_at "sq"); (case hm => exact rfl))
  | with_reducible refine z_isII ?_
  | with_reducible refine z_isNN ?_
  | with_reducible refine z_isNR ?_
  | with_reducible refine z_notNN ?_
  | with_reducible refine z_notNR ?_
  | with_reducible refine z_isIB ?_
  | with_reducible refine z_isBB ?_
  | ((with_reducible refine' z_isT ?h ?_); (case h => walk_at "sq"))
  | ((with_reducible refine' z_isLL ?h ?_); case h => assumption)
  | ((with_reducible refine z_newT ?h ?_); case h => exact Nat.le_of_ble_eq_true rfl)
  | ((with_reducible refine z_newL ?h ?_); case h => exact Nat.le_of_ble_eq_true rfl)
  | ((with_reducible refine' z_ixL ?h ?h2 ?_); (case h => walk_at "sq"); (case h2 => exact rfl))
  | ((with_reducible refine' z_ixT ?h ?h2 ?_); (case h => walk_at "sq"); (case h2 => exact rfl))
  | ((with_reducible refine' z_lenL ?h ?_); case h => walk_at "sq")
  | ((with_reducible refine' z_lenT ?h ?_); case h => walk_at "sq")
  | ((with_reducible refine z_ifYes ?h ?_); (case h => exact rfl))
  | ((with_reducible refine z_ifNo ?h ?_); (case h => exact rfl)))
local macro_rules | `(tactic| walk_at "sq") => `(tactic| first | assumption | exact Or.inl (Or.inl (by assumption)) | exact Or.inl (Or.inl upd_same))
local macro_rules | `(tactic| walk_at "z") => `(tactic| repeat (walk_at "z1"))
/-! ### promises -/
def sp__law_cell (K : PySem.W.Frag) : Sp := fun vs H Q _ => ∃ (l : Addr) (ns : List Int) (j : Nat), vs = [.ref l, .int (j : Int)] ∧ SqL K H l (ns.map V.int) ∧ ∀ v, Q (.int v) H
/-- a stream: three ints, whatever they are -/
def IsStm (H : Hp) (p : Addr) : Prop := ∃ a b m : Int, H p = some (.lst [.int a, .int b, .int m])
def sp__law_stream : Sp := fun vs H Q _ => ∃ c : Int, vs = [.int c] ∧ ∀ p H' a b m, H p = none → Same H H' → H' p = some (.lst [.int a, .int b, .int m]) → Q (.ref p) H'
def sp__law_next : Sp := fun vs H Q _ => ∃ (p : Addr) (z : Int), vs = [.ref p, .int z] ∧ IsStm H p ∧ 0 < z ∧ z.natAbs < 2 ^ 1000 ∧ ∀ v a b m, 0 ≤ v → v < z → Q (.int v) (upd H p (.lst [.int a, .int b, .int m]))
section
theorem ok__law_cell {P : Program} {w : World} {K : PySem.W.Frag} {mg : Str → Option Value} {base : Heap} {A : Nat → Addr} {D : Nat → FuncData} (T : Txt K mg A D) : FnOk P w K mg base (L2.CX P w) 1 (A 8) (D 8) ["script", "k"] (sp__law_cell K) := by
  refine T.F__law_cell.okX sc__law_cell (fun vs H Q E h => ?_) (fun cdv A' outer s H vs Q E hr h => ?_)
  · obtain ⟨l, ns, j, rfl, _⟩ := h
    rfl
  obtain ⟨l, ns, j, rfl, hS, q⟩ := h
  refine ⟨_, (pss_cons (ps_if (pt_cmpR op_lt (pv 1) (pe_callB Z.c_len (by rfl) T.z_len (by decide +kernel) (pa_cons (pv 0) pa_nil)) (nomark _))
  (pss_one (ps_ret (pe_ix ix_list (pv 0) (pv 1) (fun _ _ => rfl))))
  pss_nil)
  (pss_one (ps_ret pe_int))), ?_⟩
  walk_at "z"
  refine z_if (fun hj => ?_) (fun _ => ?_)
  · walk_at "z"
    rw [List.length_map] at hj
    have hj' : j < ns.length := by omega
    refine z_ixL hS (v := .int ns[j]) (atI_nat (by rw [List.getElem?_map, List.getElem?_eq_getElem hj']; rfl)) (q _)
  · walk_at "z"
    exact q 0
theorem ok__law_stream {P : Program} {w : World} {K : PySem.W.Frag} {mg : Str → Option Value} {base : Heap} {A : Nat → Addr} {D : Nat → FuncData} (T : Txt K mg A D) : FnOk P w K mg base (L2.CX P w) 1 (A 9) (D 9) ["cell"] sp__law_stream := by
  refine T.F__law_stream.okX sc__law_stream (fun vs H Q E h => ?_) (fun cdv A' outer s H vs Q E hr h => ?_)
  · obtain ⟨c, rfl, _⟩ := h
    rfl
  obtain ⟨c, rfl, q⟩ := h
  refine ⟨_, (pss_cons (ps_if (pt_cmpR op_ge (pv 0) (Z.pe_powc (v := 1000000000000000000) ⟨by decide, by decide, by decide⟩ (by decide)) (nomark _))
  (pss_one (ps_ret (pe_lst (pa_cons (pv 0) (pa_cons pe_int (pa_cons (pe_op op_mod (pe_callTy Z.c_int (by rfl) T.z_int (by decide +kernel) (pa_cons (pv 0) pa_nil)) pe_int) pa_nil))))))
  pss_nil)
  (pss_one (ps_ret (pe_lst (pa_cons pe_int (pa_cons pe_int (pa_cons (pe_op op_mod (pe_callTy Z.c_int (by rfl) T.z_int (by decide +kernel) (pa_cons (pv 0) pa_nil)) pe_int) pa_nil))))))), ?_⟩
  walk_at "z"
  refine z_if (fun hj => ?_) (fun _ => ?_)
  · walk_at "z"
    exact fun p H' hp s h => q p H' _ _ _ hp s h
  · walk_at "z"
    exact fun p H' hp s h => q p H' _ _ _ hp s h
theorem ok__law_next {P : Program} {w : World} {K : PySem.W.Frag} {mg : Str → Option Value} {base : Heap} {A : Nat → Addr} {D : Nat → FuncData} (T : Txt K mg A D) : FnOk P w K mg base (L2.CX P w) 1 (A 10) (D 10) ["stream", "size"] sp__law_next := by
  refine T.F__law_next.okX sc__law_next (fun vs H Q E h => ?_) (fun cdv A' outer s H vs Q E hr h => ?_)
  · obtain ⟨p, z, rfl, _⟩ := h
    rfl
  obtain ⟨p, z, rfl, ⟨a, b, m, hp⟩, hz, hz2, q⟩ := h
  refine ⟨_, (pss_cons (ps_if (pt_cmpR op_gt (pe_ix ix_list (pv 0) pe_int (fun _ _ => rfl)) pe_int (nomark _))
  (pss_cons (ps_set (i := 2) sc__law_next.nd rfl (.inl rfl) (pe_op op_mod (pe_callTy Z.c_int (by rfl) T.z_int (by decide +kernel) (pa_cons (pe_ix ix_list (pv 0) pe_int (fun _ _ => rfl)) pa_nil)) (pv 1)))
  (pss_cons (ps_asg (pe_op op_fdivW (pe_ix ix_list (pv 0) pe_int (fun _ _ => rfl)) (pv 1)) (pg_sub (pv 0) pe_int set_list))
  (pss_one (ps_ret (pv 2)))))
  pss_nil)
  (pss_cons (ps_asg (pe_op op_add (pe_ix ix_list (pv 0) pe_int (fun _ _ => rfl)) pe_int) (pg_sub (pv 0) pe_int set_list))
  (pss_cons (ps_set (i := 3) sc__law_next.nd rfl (.inl rfl) (pe_op op_mod (pe_callTy Z.c_int (by rfl) T.z_int (by decide +kernel) (pa_cons (pe_op op_add (pe_op op_mul (pe_ix ix_list (pv 0) pe_int (fun _ _ => rfl)) pe_int) (pe_op op_mul (pe_ix ix_list (pv 0) pe_int (fun _ _ => rfl)) pe_int)) pa_nil)) pe_int))
  (pss_cons (ps_set (i := 3) sc__law_next.nd rfl (.inl rfl) (pe_op op_mod (pe_callTy Z.c_int (by rfl) T.z_int (by decide +kernel) (pa_cons (pe_op op_add (pe_op op_mulW (pv 3) (pv 3)) (pe_op op_mul (pe_ix ix_list (pv 0) pe_int (fun _ _ => rfl)) pe_int)) pa_nil)) pe_int))
  (pss_cons (ps_set (i := 3) sc__law_next.nd rfl (.inl rfl) (pe_op op_mod (pe_callTy Z.c_int (by rfl) T.z_int (by decide +kernel) (pa_cons (pe_op op_add (pe_op op_mul (pv 3) pe_int) (pe_ix ix_list (pv 0) pe_int (fun _ _ => rfl))) pa_nil)) pe_int))
  (pss_one (ps_ret (pe_op op_mod (pe_callTy Z.c_int (by rfl) T.z_int (by decide +kernel) (pa_cons (pv 3) pa_nil)) (pv 1))))))))), ?_⟩
  walk_at "z"
  refine z_if (fun hj => ?_) (fun _ => ?_)
  · walk_at "z"
    refine z_I (wide_div hz hz2 (by decide) (by decide)) ?_
    walk_at "z"
    refine z_setL hp rfl ?_
    walk_at "z"
    exact q _ _ _ _ (Int.emod_nonneg _ (by omega)) (Int.emod_lt_of_pos _ hz)
  · walk_at "z"
    refine z_setL hp rfl ?_
    have hp1 : (upd H p (HO.lst ([V.int a, V.int b, V.int m].set (Int.toNat 1) (V.int (b + 1))))) p = some (.lst [V.int a, V.int (b + 1), V.int m]) := upd_same
    walk_at "z"
    refine z_I ?_ ?_
    · exact wide_mul (a := 32) (b := 32) (by omega) (by omega) (by decide) (by decide) (by decide)
    walk_at "z"
    exact q _ _ _ _ (Int.emod_nonneg _ (by omega)) (Int.emod_lt_of_pos _ hz)
end
def sp__law_is_integer : Sp := fun vs H Q _ => ∃ i, vs = [.int i] ∧ Q (.bl true) H
section
theorem ok__law_is_integer {P : Program} {w : World} {K : PySem.W.Frag} {mg : Str → Option Value} {base : Heap} {A : Nat → Addr} {D : Nat → FuncData} (T : Txt K mg A D) : FnOk P w K mg base (L2.CX P w) 1 (A 11) (D 11) ["actual"] sp__law_is_integer := by
  refine T.F__law_is_integer.okX sc__law_is_integer (fun vs H Q E h => ?_) (fun cdv A' outer s H vs Q E hr h => ?_)
  · obtain ⟨i, rfl, _⟩ := h
    rfl
  obtain ⟨i, rfl, q⟩ := h
  refine ⟨_, (pss_one (ps_ret (pe_and (pe_callB call_isi (by rfl) T.z_isinstance (by decide +kernel) (pa_cons (pv 0) (pa_cons (pe_bltn (v := .ty "int") (by rfl) T.z_int (by decide +kernel) rfl) pa_nil))) (pe_one (pe_not (pe_callB call_isi (by rfl) T.z_isinstance (by decide +kernel) (pa_cons (pv 0) (pa_cons (pe_bltn (v := .ty "bool") (by rfl) T.z_bool (by decide +kernel) rfl) pa_nil)))))))), ?_⟩
  walk_at "z"
  exact q
end
theorem isI {i : Int} {H : Hp} {Q : VK} {E : XK} (q : Q (.bl true) H) : sp__law_is_integer [.int i] H Q E := ⟨i, rfl, q⟩
local macro_rules | `(tactic| walk_at "z1") => `(tactic| with_reducible refine isI ?_)

/-! ### numbers in lowest terms -/
theorem gd_pos {n d : Int} (h : d ≠ 0) : 0 < gd n d := by
  unfold gd
  have : 0 < Nat.gcd n.natAbs d.natAbs := Nat.gcd_pos_of_pos_right _ (by omega)
  omega
theorem gd_dvd_l (n d : Int) : gd n d ∣ n := by
  unfold gd
  exact Int.dvd_trans (Int.natCast_dvd_natCast.mpr (Nat.gcd_dvd_left _ _)) (Int.natAbs_dvd_self)
theorem gd_dvd_r (n d : Int) : gd n d ∣ d := by
  unfold gd
  exact Int.dvd_trans (Int.natCast_dvd_natCast.mpr (Nat.gcd_dvd_right _ _)) (Int.natAbs_dvd_self)
theorem rd_pos {n d : Int} (h : d ≠ 0) : 0 < rd n d := by
  have g := gd_pos (n := n) h
  obtain ⟨k, hk⟩ := gd_dvd_r n d
  unfold rd
  split
  · rename_i hd
    have e : -d = gd n d * (-k) := by rw [Int.mul_neg, ← hk]
    rw [e, Int.mul_ediv_cancel_left _ (by omega)]
    have : ¬ 0 ≤ k := fun z => by have := Int.mul_nonneg (Int.le_of_lt g) z; omega
    omega
  · rename_i hd
    have e : d / gd n d = k := Int.ediv_eq_of_eq_mul_right (by omega) hk
    rw [e]
    have : ¬ k ≤ 0 := fun z => by have := Int.mul_nonpos_of_nonneg_of_nonpos (Int.le_of_lt g) z; omega
    omega
/-- what the program divides: by the negative of the common divisor where d is negative -/
theorem fdiv_neg {n g : Int} (hg : 0 < g) (h : g ∣ n) : Int.fdiv n (-g) = -n / g := by
  obtain ⟨k, rfl⟩ := h
  rw [show g * k = (-g) * (-k) by rw [Int.neg_mul_neg], Int.mul_fdiv_cancel_left _ (by omega), Int.neg_mul_neg, show -(g * k) = g * (-k) by rw [Int.mul_neg], Int.mul_ediv_cancel_left _ (by omega)]
theorem fdiv_pos {n g : Int} (hg : 0 < g) : Int.fdiv n g = n / g := Int.fdiv_eq_ediv_of_nonneg _ (by omega)
theorem gd_log {n d : Int} {k : Nat} (h : d ≠ 0) (hd : d.natAbs < 2 ^ k) : (gd n d).natAbs < 2 ^ k := by
  have : Nat.gcd n.natAbs d.natAbs ≤ d.natAbs := Nat.gcd_le_right _ (by omega)
  unfold gd
  omega
theorem cfd {j : Int} (h : j ≠ 0) (hj : j.natAbs < 2 ^ 1000) : CFd 0 j := ⟨h, Nat.lt_of_lt_of_le (PySem.Flt.log2_lt_of (by decide) hj) (by decide)⟩
theorem lt4 {a : Nat} (h : a < 2 ^ 400) : a < 2 ^ 1000 := Nat.lt_of_lt_of_le h (Nat.pow_le_pow_right (by decide) (by decide))
theorem lt1000 {a : Nat} (h : a < 2 ^ 100) : a < 2 ^ 1000 := Nat.lt_of_lt_of_le h (Nat.pow_le_pow_right (by decide) (by decide))



/-! ### the draws of a law: the heap H0 stands, a stream stands at p -/
structure Sd (H0 H : Hp) (p : Addr) : Prop where
  same : Same H0 H
  fresh : H0 p = none
  stm : IsStm H p
theorem Sd.mk0 {H H' : Hp} {p : Addr} {a b m : Int} (h : H p = none) (s : Same H H') (e : H' p = some (.lst [.int a, .int b, .int m])) : Sd H H' p := ⟨s, h, a, b, m, e⟩
theorem Sd.mono {H0 H H' : Hp} {p : Addr} (S : Sd H0 H p) (s : Same H H') : Sd H0 H' p := by
  obtain ⟨a, b, m, e⟩ := S.stm
  exact ⟨S.same.trans s, S.fresh, a, b, m, s _ _ e⟩
theorem nx {H0 H : Hp} {p : Addr} {z : Int} {Q : VK} {E : XK} (S : Sd H0 H p) (hz : 0 < z) (hz2 : z.natAbs < 2 ^ 1000) (q : ∀ v H', 0 ≤ v → v < z → Sd H0 H' p → (∀ b, b ≠ p → H' b = H b) → Q (.int v) H') : sp__law_next [.ref p, .int z] H Q E := by
  refine ⟨p, z, rfl, S.stm, hz, hz2, fun v a b m h0 h1 => q v _ h0 h1 ⟨fun c o e => ?_, S.fresh, a, b, m, upd_same⟩ fun b hb => upd_ne hb⟩
  rw [upd_ne (ne_of_none e S.fresh)]
  exact S.same c o e
theorem Sd.ext {H0 H : Hp} {p q : Addr} {o : HO} (S : Sd H0 H p) (h : H q = none) : Sd H0 (upd H q o) p := by
  obtain ⟨a, b, m, hp⟩ := S.stm
  exact ⟨S.same.trans (same_upd h), S.fresh, a, b, m, by rw [upd_ne (ne_of_none hp h)]; exact hp⟩
theorem kp_refl {p : Addr} {H : Hp} : Kp p H H := fun _ _ _ e => e
theorem _root_.Z.Kp.trans' {p : Addr} {H H1 H2 : Hp} (a : Kp p H H1) (b : Kp p H1 H2) : Kp p H H2 := fun c o h e => b c o h (a c o h e)
theorem kp_eq {p : Addr} {H H' : Hp} (k : ∀ b, b ≠ p → H' b = H b) : Kp p H H' := fun b o h e => by
  rw [k b h]
  exact e
theorem kp_of {p : Addr} {H H' : Hp} (s : Same H H') : Kp p H H' := fun b x _ e => s b x e
theorem Sd.ne {H0 H : Hp} {p q : Addr} {xs : List V} (S : Sd H0 H p) (h : H q = some (.tup xs)) : q ≠ p := by
  obtain ⟨_, _, _, e⟩ := S.stm
  exact ne_of h e (by intro z; cases z)
theorem Sd.ne0 {H0 H : Hp} {p q : Addr} (S : Sd H0 H p) (h : H q = none) : q ≠ p := by
  obtain ⟨_, _, _, e⟩ := S.stm
  exact Ne.symm (ne_of_none e h)
theorem lt400 {a : Nat} (h : a < 2 ^ 100) : a < 2 ^ 400 := Nat.lt_of_lt_of_le h (Nat.pow_le_pow_right (by decide) (by decide))
theorem kp_sd {H0 H H' : Hp} {p : Addr} {K : PySem.W.Frag} {v : V} {d : PyData} (S : Sd H0 H p) (k : Kp p H H') (t : tupOnly d = true) (h : Dp K H v d) : Dp K H' v d := by
  obtain ⟨a, b, m, e⟩ := S.stm
  exact dp_kp k e t h
/-! ### the four operations, and comparing -/






/-! ### grid points -/
abbrev GP := Int × Int
def gD (z : GP) : PyData := .tuple [.int z.1, .int z.2]
/-- both parts within N -/
def Gb (N : Nat) (z : GP) : Prop := z.1.natAbs ≤ N ∧ z.2.natAbs ≤ N
theorem Gb.le {N M : Nat} {z : GP} (h : Gb N z) (l : N ≤ M) : Gb M z := ⟨Nat.le_trans h.1 l, Nat.le_trans h.2 l⟩
theorem dp_g {K : PySem.W.Frag} {H : Hp} {v : V} {z : GP} (h : Dp K H v (gD z)) : ∃ p, v = .ref p ∧ SqT K H p [.int z.1, .int z.2] := by
  obtain ⟨p, v1, v2, e, hS, h1, h2⟩ := dp_t2 h
  rw [dp_int h1, dp_int h2] at hS
  exact ⟨p, e, hS⟩
theorem dp_mkg {K : PySem.W.Frag} {H : Hp} {p : Addr} {x y : Int} (h : H p = some (.tup [.int x, .int y])) : Dp K H (.ref p) (gD (x, y)) := dp_mk h (.cons (.int _) (.cons (.int _) .nil))
theorem dp_seqg {K : PySem.W.Frag} {H : Hp} {p : Addr} {x y : Int} (h : SqT K H p [.int x, .int y]) : Dp K H (.ref p) (gD (x, y)) := .tup h (.cons (.int _) (.cons (.int _) .nil))
/-- values that stand for grid points -/
def Gs (K : PySem.W.Frag) (H : Hp) : List V → List GP → Prop
  | [], [] => True
  | v :: vs, z :: zs => Dp K H v (gD z) ∧ Gs K H vs zs
  | _, _ => False
section
variable {K : PySem.W.Frag} {H H' : Hp}
theorem Gs.len : ∀ {vs : List V} {zs : List GP}, Gs K H vs zs → vs.length = zs.length
  | [], [], _ => rfl
  | _ :: _, _ :: _, h => congrArg (· + 1) (Gs.len h.2)
theorem Gs.mono (s : Same H H') : ∀ {vs : List V} {zs : List GP}, Gs K H vs zs → Gs K H' vs zs
  | [], [], _ => trivial
  | _ :: _, _ :: _, h => ⟨dp_mono s h.1, Gs.mono s h.2⟩
theorem Gs.kp {p : Addr} {xs : List V} (k : Kp p H H') (hp : H p = some (.lst xs)) : ∀ {vs : List V} {zs : List GP}, Gs K H vs zs → Gs K H' vs zs
  | [], [], _ => trivial
  | _ :: _, _ :: _, h => ⟨dp_kp k hp rfl h.1, Gs.kp k hp h.2⟩
theorem Gs.app : ∀ {vs ws : List V} {zs us : List GP}, Gs K H vs zs → Gs K H ws us → Gs K H (vs ++ ws) (zs ++ us)
  | [], _, [], _, _, k => k
  | _ :: _, _, _ :: _, _, h, k => ⟨h.1, Gs.app h.2 k⟩
theorem Gs.get {vs : List V} {zs : List GP} {i : Nat} {z : GP} (h : Gs K H vs zs) (e : zs[i]? = some z) : ∃ v, vs[i]? = some v ∧ Dp K H v (gD z) := by
  induction vs generalizing zs i with
  | nil =>
    cases zs with
    | nil => simp at e
    | cons => exact h.elim
  | cons w ws ih =>
    cases zs with
    | nil => exact h.elim
    | cons u us =>
      cases i with
      | zero =>
        cases e
        exact ⟨w, rfl, h.1⟩
      | succ i => exact ih h.2 (by simpa using e)
theorem Gs.getv {vs : List V} {zs : List GP} {i : Nat} {v : V} (h : Gs K H vs zs) (e : vs[i]? = some v) : ∃ z, zs[i]? = some z ∧ Dp K H v (gD z) := by
  have hi : i < vs.length := (List.getElem?_eq_some_iff.mp e).1
  obtain ⟨w, hw, d⟩ := h.get (z := zs[i]'(by rw [← h.len]; exact hi)) (List.getElem?_eq_getElem _)
  rw [e] at hw
  cases hw
  exact ⟨_, List.getElem?_eq_getElem _, d⟩
theorem Gs.data : ∀ {vs : List V} {zs : List GP}, Gs K H vs zs → DpAll K H vs (zs.map gD)
  | [], [], _ => .nil
  | _ :: _, _ :: _, h => .cons h.1 (Gs.data h.2)
theorem gs_nil : Gs K H [] [] := trivial
theorem gs_one {v : V} {z : GP} (h : Dp K H v (gD z)) : Gs K H [v] [z] := ⟨h, trivial⟩
end
theorem nat_idx {xs : List V} {k : Nat} {v : V} (h : xs[k]? = some v) : atI xs (k : Int) = some v := atI_nat h
/-- a grid point near an outline -/
def sp__law_near (K : PySem.W.Frag) : Sp := fun vs H Q _ => ∃ (p o : Addr) (H0 : Hp) (ws : List V) (zs : List GP) (N : Nat), vs = [.ref p, .ref o] ∧ Sd H0 H p ∧ H0 o = some (.lst ws) ∧ Gs K H ws zs ∧ (∀ z ∈ zs, Gb N z) ∧ N ≤ 1000000000000 ∧ 1 ≤ ws.length ∧ ws.length ≤ 200 ∧
  ∀ (v : V) (z : GP) (H' : Hp), Dp K H' v (gD z) → Gb (N + 5000) z → Sd H0 H' p → Kp p H H' → Q v H'
theorem idx_nat {xs : List V} {j : Int} (h0 : 0 ≤ j) (h1 : j < (xs.length : Int)) : ∃ v, xs[j.toNat]? = some v ∧ atI xs j = some v := by
  have hl : j.toNat < xs.length := by omega
  obtain ⟨v, hv⟩ : ∃ v, xs[j.toNat]? = some v := ⟨_, List.getElem?_eq_getElem hl⟩
  refine ⟨v, hv, ?_⟩
  have := nat_idx hv
  rwa [Int.toNat_of_nonneg h0] at this
section
end
/-- all but p -/
def hide (p : Addr) (H : Hp) : Hp := fun b => if b = p then none else H b
theorem same_hide {p : Addr} {H : Hp} : Same (hide p H) H := fun b o e => by
  unfold hide at e
  split at e
  · cases e
  · exact e
theorem hide_at {p b : Addr} {H : Hp} (h : b ≠ p) : hide p H b = H b := if_neg h
theorem Sd.hid {H0 H : Hp} {p : Addr} (S : Sd H0 H p) : Sd (hide p H) H p := ⟨same_hide, if_pos rfl, S.stm⟩
/-! ### crossings -/
def left (a b : GP) (x y : Int) : Prop := (b.1 - a.1) * (y - a.2) ≤ (x - a.1) * (b.2 - a.2)
instance {a b : GP} {x y : Int} : Decidable (left a b x y) := by unfold left; infer_instance
def crs (a b : GP) (x y : Int) : Int := if a.2 ≤ y ∧ y < b.2 ∧ left a b x y then -1 else if b.2 ≤ y ∧ y < a.2 ∧ left b a x y then 1 else 0
/-- a grid point within 10 ^ 13 -/
abbrev Gm (z : GP) : Prop := Gb 10000000000000 z
theorem gm_sub {a b : Int} (h : a.natAbs ≤ 10000000000000) (k : b.natAbs ≤ 10000000000000) : (a - b).natAbs < 2 ^ 60 := Nat.lt_of_le_of_lt (show (a - b).natAbs ≤ 20000000000000 by omega) (by decide)
theorem gm_mul {a b : Int} (h : a.natAbs < 2 ^ 60) (k : b.natAbs < 2 ^ 60) : CMulW a b := wide_mul h k (by decide) (by decide) (by decide)

theorem nep' {Ha Hb : Hp} {p q : Addr} (h : Hb q = none) (S : Sd Ha Hb p) : q ≠ p := fun z => by
  obtain ⟨_, _, _, e⟩ := S.stm
  rw [← z, h] at e
  cases e
theorem shaped_g (z : GP) : SeqAt.shaped (gD z) = true := rfl
theorem dp_gs {K : PySem.W.Frag} {H : Hp} {p : Addr} {ws : List V} {zs : List GP} (h : H p = some (.lst ws)) (g : Gs K H ws zs) : Dp K H (.ref p) (.list (zs.map gD)) := .lst (.inl (.inl h)) g.data
theorem shaped_gs (zs : List GP) : SeqAt.shaped (.list (zs.map gD)) = true := by
  have h1 : PyData.canLayAll0 (zs.map gD) = true := by
    induction zs with
    | nil => rfl
    | cons z zs ih =>
      show (PyData.canLay0 (gD z) && PyData.canLayAll0 (zs.map gD)) = true
      rw [ih]
      rfl
  have h2 : PyData.depthAll (zs.map gD) ≤ 1 := by
    induction zs with
    | nil => exact Nat.zero_le 1
    | cons z zs ih =>
      have h1' : PyData.canLayAll0 (zs.map gD) = true := by
        have h1 : (PyData.canLay0 (gD z) && PyData.canLayAll0 (zs.map gD)) = true := h1
        exact ((Bool.and_eq_true _ _).mp h1).2
      have := ih h1'
      show max (PyData.depth (gD z)) (PyData.depthAll (zs.map gD)) ≤ 1
      have e : PyData.depth (gD z) = 1 := rfl
      omega
  unfold SeqAt.shaped
  rw [Bool.and_eq_true]
  refine ⟨h1, decide_eq_true ?_⟩
  show PyData.depthAll (zs.map gD) + 1 ≤ 64
  omega
/-! ### [draw(stream, z) for k in range(m)] -/
theorem z_draws {H0 H : Hp} {p : Addr} {z : Int} {m k : Nat} {vs : List Nat} {te : TE} {σ : L2.St} {Q : VK} {v : Int} (S : Sd H0 H p) (hv : v = (m : Int)) (hm : m ≤ 500) (hz : 0 < z) (hz2 : z.natAbs < 2 ^ 1000) (hw : ∀ x, wipe ((wipe σ vs).set k (some x)) vs = wipe σ vs)
    (hte : ∀ (i : Nat) (H' : Hp) (R : VK), (∀ E, sp__law_next [.ref p, .int z] H' R E) → te ((wipe σ vs).set k (some (.int (i : Int)))) H' R)
    (q : ∀ (D : Addr) (H' : Hp) (ns : List Int), H D = none → D ≠ p → Sd H0 H' p → Kp p H H' → H' D = some (.lst (ns.map V.int)) → ns.length = m → (∀ x ∈ ns, 0 ≤ x ∧ x < z) → Q (.ref D) H') : LcRE (gName k) tYes te vs σ Q [.int v] H := by
  subst hv
  refine z_lcRr m (by omega) hw (fun i D acc H' => Sd H0 H' p ∧ Kp p H H' ∧ D ≠ p ∧ H D = none ∧ ∃ ns : List Int, acc = ns.map V.int ∧ ∀ x ∈ ns, 0 ≤ x ∧ x < z)
    (fun D H' f s e => ⟨S.mono s, kp_of s, S.ne0 f, f, [], rfl, fun x hx => nomatch hx⟩) (fun i D acc H' hi hl hD ⟨S', k', ne, f, ns, ea, hb⟩ => ?_)
    (fun D acc H' f hl hD ⟨S', k', ne, _, ns, ea, hb⟩ => q D H' ns f ne S' k' (by rw [hD, ea]) (by rw [← hl, ea, List.length_map]) hb)
  refine hte i H' _ fun E => nx S' hz hz2 fun x H2 x0 x1 S2 e2 => ?_
  have hD2 : H2 D = some (.lst acc) := (e2 D ne).trans hD
  refine z_lcB hD2 hl (by omega) fun H3 hD3 k3 e3 => ⟨?_, ?_, ne, f, ns ++ [x], by rw [ea, List.map_append]; rfl, fun y hy => ?_⟩
  · obtain ⟨a, b, c, st⟩ := S2.stm
    refine ⟨fun b o h => ?_, S2.fresh, a, b, c, by rw [e3 p ne.symm]; exact st⟩
    have hne : b ≠ D := fun z => by
      have h1 := S.same _ _ h
      rw [z, f] at h1
      cases h1
    rw [e3 b hne]
    exact S2.same _ _ h
  · intro b o hb h
    have hne : b ≠ D := fun z => by
      rw [z, f] at h
      cases h
    rw [e3 b hne, e2 b hb]
    exact k' b o hb h
  · rcases List.mem_append.mp hy with h | h
    · exact hb y h
    · rw [List.mem_singleton.mp h]
      exact ⟨x0, x1⟩
theorem Sd.put {H0 H : Hp} {p l : Addr} {o : HO} (S : Sd H0 H p) (h : H0 l = none) (ne : l ≠ p) : Sd H0 (upd H l o) p := by
  obtain ⟨a, b, c, e⟩ := S.stm
  exact ⟨fun x y h' => by rw [upd_ne (ne_of_none h' h)]; exact S.same _ _ h', S.fresh, a, b, c, by rw [upd_ne ne.symm]; exact e⟩
theorem kp_put {p l : Addr} {H H' : Hp} {o : HO} (k : Kp p H H') (h : H l = none) : Kp p H (upd H' l o) := fun b x hb e => by
  rw [upd_ne (ne_of_none e h)]
  exact k b x hb e
theorem kp_none {p a : Addr} {H H' : Hp} (k : Kp p H H') (h : H' a = none) (ne : a ≠ p) : H a = none := by
  cases z : H a with
  | none => rfl
  | some o =>
    have := k _ _ ne z
    rw [h] at this
    cases this
theorem Sd.none0 {H0 H : Hp} {p l : Addr} (S : Sd H0 H p) (h : H l = none) : H0 l = none := by
  cases z : H0 l with
  | none => rfl
  | some o =>
    have := S.same _ _ z
    rw [h] at this
    cases this
/-! ### groups of ascending values -/
/-- the groups from the current one on -/
def gs1 (e : Int) : GP → List Int → List GP
  | c, [] => [c]
  | c, v :: r => if v ≤ c.1 + e then gs1 e (c.1, v) r else c :: gs1 e (v, v) r
def grp (e : Int) : List Int → List GP
  | [] => []
  | v :: r => gs1 e (v, v) r
def Asc (r : List Int) : Prop := r.Pairwise (· < ·)
theorem gs1_yes {e v : Int} {c : GP} {r : List Int} (h : v ≤ c.1 + e) : gs1 e c (v :: r) = gs1 e (c.1, v) r := if_pos h
theorem gs1_no {e v : Int} {c : GP} {r : List Int} (h : ¬ v ≤ c.1 + e) : gs1 e c (v :: r) = c :: gs1 e (v, v) r := if_neg h
theorem asc_h {v : Int} {r : List Int} (h : Asc (v :: r)) : ∀ x ∈ r, v ≤ x := fun x hx => Int.le_of_lt ((List.pairwise_cons.mp h).1 x hx)
theorem asc_t {v : Int} {r : List Int} (h : Asc (v :: r)) : Asc r := (List.pairwise_cons.mp h).2
theorem gs_near (e : Int) : ∀ (r : List Int) (c c' : GP), c.1 ≤ c'.1 → (∀ x ∈ r, c'.1 ≤ x) → Asc r → (gs1 e c' r).length ≤ (gs1 e c r).length ∧ (gs1 e c r).length ≤ 1 + (gs1 e c' r).length
  | [], c, c', _, _, _ => ⟨Nat.le_refl 1, Nat.le_succ 1⟩
  | v :: r, c, c', h, hx, ha => by
    have hv : c'.1 ≤ v := hx v (.head _)
    have hr := asc_h ha
    have ht := asc_t ha
    by_cases h1 : v ≤ c.1 + e
    · rw [gs1_yes h1, gs1_yes (by omega)]
      exact gs_near e r _ _ h (fun x m => hx x (.tail _ m)) ht
    · rw [gs1_no h1]
      by_cases h2 : v ≤ c'.1 + e
      · rw [gs1_yes h2]
        have i1 := gs_near e r (c'.1, v) (v, v) hv (fun x m => hr x m) ht
        rw [List.length_cons]
        omega
      · rw [gs1_no h2, List.length_cons, List.length_cons]
        omega
theorem gs_mono {e e' : Int} (he : e ≤ e') : ∀ (r : List Int) (c c' : GP), c.1 ≤ c'.1 → (∀ x ∈ r, c'.1 ≤ x) → Asc r → (gs1 e' c' r).length ≤ (gs1 e c r).length
  | [], c, c', _, _, _ => Nat.le_refl 1
  | v :: r, c, c', h, hx, ha => by
    have hv : c'.1 ≤ v := hx v (.head _)
    have hr := asc_h ha
    have ht := asc_t ha
    by_cases h1 : v ≤ c.1 + e
    · rw [gs1_yes h1, gs1_yes (by omega)]
      exact gs_mono he r _ _ h (fun x m => hx x (.tail _ m)) ht
    · rw [gs1_no h1, List.length_cons]
      have ih := gs_mono he r (v, v) (v, v) (Int.le_refl _) hr ht
      by_cases h2 : v ≤ c'.1 + e'
      · rw [gs1_yes h2]
        have i1 := gs_near e' r (c'.1, v) (v, v) hv hr ht
        omega
      · rw [gs1_no h2, List.length_cons]
        omega
def cntG (e : Int) (r : List Int) : Nat := (grp e r).length
theorem cnt_mono {e e' : Int} (he : e ≤ e') : ∀ {r : List Int}, Asc r → cntG e' r ≤ cntG e r
  | [], _ => Nat.le_refl _
  | v :: r, h => gs_mono he r (v, v) (v, v) (Int.le_refl _) (asc_h h) (asc_t h)
/-- one more piece in front -/
theorem gs_rest {e : Int} (c : GP) : ∀ (r : List Int), (∀ x ∈ r, c.1 ≤ x) → Asc r → (gs1 e c r).length ≤ 1 + cntG e r
  | [], _, _ => Nat.le_refl 1
  | v :: r, h, ha => by
    show (gs1 e c (v :: r)).length ≤ 1 + (gs1 e (v, v) r).length
    have hv : c.1 ≤ v := h v (.head _)
    by_cases h1 : v ≤ c.1 + e
    · rw [gs1_yes h1]
      exact (gs_near e r (c.1, v) (v, v) hv (asc_h ha) (asc_t ha)).2
    · rw [gs1_no h1, List.length_cons]
      omega
theorem gs_skip {e : Int} : ∀ (p : List Int) (c : GP) (r : List Int), (∀ x ∈ p, x ≤ c.1 + e) → ∃ m, gs1 e c (p ++ r) = gs1 e (c.1, m) r
  | [], c, r, _ => ⟨c.2, rfl⟩
  | v :: p, c, r, h => by
    rw [List.cons_append, gs1_yes (h v (.head _))]
    exact gs_skip p (c.1, v) r fun x hx => h x (.tail _ hx)
theorem cnt_app {e : Int} (p r : List Int) (ha : Asc (p ++ r)) (h : ∀ v ∈ p.head?, ∀ x ∈ p, x ≤ v + e) : cntG e (p ++ r) ≤ 1 + cntG e r := by
  cases p with
  | nil => exact Nat.le_add_left _ _
  | cons v p =>
    show (gs1 e (v, v) (p ++ r)).length ≤ _
    obtain ⟨m, hm⟩ := gs_skip (e := e) p (v, v) r fun x hx => h v rfl x (.tail _ hx)
    rw [hm]
    have hp := List.pairwise_append.mp ha
    exact gs_rest (v, m) r (fun x hx => Int.le_of_lt (hp.2.2 v (.head _) x hx)) hp.2.1
/-- pieces that differ by at most e -/
def Near (e : Int) (p : List Int) : Prop := ∀ v ∈ p.head?, ∀ x ∈ p, x ≤ v + e
theorem cnt_pieces {e : Int} : ∀ (ps : List (List Int)), Asc ps.flatten → (∀ p ∈ ps, Near e p) → cntG e ps.flatten ≤ ps.length
  | [], _, _ => Nat.le_refl _
  | p :: ps, ha, h => by
    have hp := List.pairwise_append.mp (show Asc (p ++ ps.flatten) from ha)
    have ih := cnt_pieces ps hp.2.1 fun q hq => h q (.tail _ hq)
    have := cnt_app p ps.flatten ha (h p (.head _))
    show cntG e (p ++ ps.flatten) ≤ ps.length + 1
    omega
/-- what holds of a group -/
theorem gs_ok {e : Int} (he : 0 ≤ e) {vs : List Int} : ∀ (r : List Int) (c : GP), Asc r → (∀ x ∈ r, c.2 < x) → (∀ x ∈ r, x ∈ vs) → c.1 ∈ vs → c.2 ∈ vs → c.1 ≤ c.2 → c.2 - c.1 ≤ e →
    ∀ g ∈ gs1 e c r, g.1 ∈ vs ∧ g.2 ∈ vs ∧ g.1 ≤ g.2 ∧ g.2 - g.1 ≤ e
  | [], c, _, _, _, h1, h2, h3, h4, g, hg => by
    rw [List.mem_singleton.mp hg]
    exact ⟨h1, h2, h3, h4⟩
  | v :: r, c, ha, hc, hv, h1, h2, h3, h4, g, hg => by
    have hlt := hc v (.head _)
    have hh := fun x m => (List.pairwise_cons.mp ha).1 x m
    by_cases k : v ≤ c.1 + e
    · rw [gs1_yes k] at hg
      exact gs_ok he r (c.1, v) (asc_t ha) hh (fun x m => hv x (.tail _ m)) h1 (hv v (.head _)) (show c.1 ≤ v by omega) (show v - c.1 ≤ e by omega) g hg
    · rw [gs1_no k] at hg
      rcases List.mem_cons.mp hg with rfl | hg
      · exact ⟨h1, h2, h3, h4⟩
      · exact gs_ok he r (v, v) (asc_t ha) hh (fun x m => hv x (.tail _ m)) (hv v (.head _)) (hv v (.head _)) (Int.le_refl _) (show v - v ≤ e by omega) g hg
/-- each group begins beyond the one before -/
theorem gs_gap {e : Int} : ∀ (r : List Int) (c : GP) (i : Nat) (a b : GP), (gs1 e c r)[i]? = some a → (gs1 e c r)[i + 1]? = some b → e < b.1 - a.1
  | [], c, i, a, b, _, h => by simp [gs1] at h
  | v :: r, c, i, a, b, h1, h2 => by
    by_cases k : v ≤ c.1 + e
    · rw [gs1_yes k] at h1 h2
      exact gs_gap r _ i a b h1 h2
    · rw [gs1_no k] at h1 h2
      cases i with
      | zero =>
        cases h1
        have : ∀ (r : List Int) (c : GP) (b : GP), (gs1 e c r)[0]? = some b → b.1 = c.1 := by
          intro r
          induction r with
          | nil => intro c b h; cases h; rfl
          | cons w r ih =>
            intro c b h
            by_cases k2 : w ≤ c.1 + e
            · rw [gs1_yes k2] at h
              exact ih (c.1, w) b h
            · rw [gs1_no k2] at h
              cases h
              rfl
        have e1 := this r (v, v) b (by simpa using h2)
        rw [e1]
        show e < v - c.1
        omega
      | succ i => exact gs_gap r _ i a b (by simpa using h1) (by simpa using h2)
/-- every value is in a group -/
theorem gs_cov {e : Int} : ∀ (r : List Int) (c : GP), Asc r → (∀ x ∈ r, c.2 < x) → c.1 ≤ c.2 → ∀ x, x ∈ r ∨ (c.1 ≤ x ∧ x ≤ c.2) → ∃ g ∈ gs1 e c r, g.1 ≤ x ∧ x ≤ g.2
  | [], c, _, _, _, x, h => by
    rcases h with h | h
    · cases h
    · exact ⟨c, .head _, h⟩
  | v :: r, c, ha, hc, hcc, x, h => by
    have hlt := hc v (.head _)
    have hh := fun x m => (List.pairwise_cons.mp ha).1 x m
    by_cases k : v ≤ c.1 + e
    · rw [gs1_yes k]
      refine gs_cov r (c.1, v) (asc_t ha) hh (show c.1 ≤ v by omega) x ?_
      rcases h with h | h
      · rcases List.mem_cons.mp h with rfl | h
        · exact .inr ⟨by show c.1 ≤ x; omega, Int.le_refl _⟩
        · exact .inl h
      · exact .inr ⟨h.1, by show x ≤ v; omega⟩
    · rw [gs1_no k]
      rcases h with h | h
      · obtain ⟨g, hg, h1⟩ := gs_cov r (v, v) (asc_t ha) hh (Int.le_refl _) x (by
          rcases List.mem_cons.mp h with rfl | h
          · exact .inr ⟨Int.le_refl _, Int.le_refl _⟩
          · exact .inl h)
        exact ⟨g, .tail _ hg, h1⟩
      · exact ⟨c, .head _, h⟩
theorem grp_ok {e : Int} (he : 0 ≤ e) {vs : List Int} (ha : Asc vs) : ∀ g ∈ grp e vs, g.1 ∈ vs ∧ g.2 ∈ vs ∧ g.1 ≤ g.2 ∧ g.2 - g.1 ≤ e := by
  cases vs with
  | nil => intro g hg; cases hg
  | cons v r => exact gs_ok he r (v, v) (asc_t ha) (fun x m => (List.pairwise_cons.mp ha).1 x m) (fun x m => .tail _ m) (.head _) (.head _) (Int.le_refl _) (show v - v ≤ e by omega)
theorem grp_gap {e : Int} {vs : List Int} {i : Nat} {a b : GP} (h1 : (grp e vs)[i]? = some a) (h2 : (grp e vs)[i + 1]? = some b) : e < b.1 - a.1 := by
  cases vs with
  | nil => cases h1
  | cons v r => exact gs_gap r (v, v) i a b h1 h2
theorem grp_cov {e : Int} {vs : List Int} (ha : Asc vs) : ∀ x ∈ vs, ∃ g ∈ grp e vs, g.1 ≤ x ∧ x ≤ g.2 := by
  cases vs with
  | nil => intro x hx; cases hx
  | cons v r =>
    intro x hx
    refine gs_cov r (v, v) (asc_t ha) (fun x m => (List.pairwise_cons.mp ha).1 x m) (Int.le_refl _) x ?_
    rcases List.mem_cons.mp hx with rfl | h
    · exact .inr ⟨Int.le_refl _, Int.le_refl _⟩
    · exact .inl h
theorem gs1_len {e : Int} : ∀ (r : List Int) (c : GP), (gs1 e c r).length ≤ r.length + 1
  | [], c => Nat.le_refl 1
  | v :: r, c => by
    by_cases k : v ≤ c.1 + e
    · rw [gs1_yes k]
      exact Nat.le_succ_of_le (gs1_len r _)
    · rw [gs1_no k]
      exact Nat.succ_le_succ (gs1_len r _)
theorem cnt_len {e : Int} (vs : List Int) : cntG e vs ≤ vs.length := by
  cases vs with
  | nil => exact Nat.le_refl _
  | cons v r => exact gs1_len r _
theorem asc_ext : ∀ {as bs : List Int}, Asc as → Asc bs → (∀ k, k ∈ as ↔ k ∈ bs) → as = bs
  | [], [], _, _, _ => rfl
  | [], b :: bs, _, _, h => by
    have := (h b).mpr (.head _)
    cases this
  | a :: as, [], _, _, h => by
    have := (h a).mp (.head _)
    cases this
  | a :: as, b :: bs, ha, hb, h => by
    have ha' := List.pairwise_cons.mp ha
    have hb' := List.pairwise_cons.mp hb
    have e : a = b := by
      rcases List.mem_cons.mp ((h a).mp (.head _)) with e | m
      · exact e
      · rcases List.mem_cons.mp ((h b).mpr (.head _)) with e | m2
        · exact e.symm
        · have h1 := hb'.1 a m
          have h2 := ha'.1 b m2
          omega
    subst e
    refine congrArg (a :: ·) (asc_ext ha'.2 hb'.2 fun k => ⟨fun m => ?_, fun m => ?_⟩)
    · rcases List.mem_cons.mp ((h k).mp (.tail _ m)) with e | m'
      · have := ha'.1 k m
        omega
      · exact m'
    · rcases List.mem_cons.mp ((h k).mpr (.tail _ m)) with e | m'
      · have := hb'.1 k m
        omega
      · exact m'
/-- the least tolerance -/
def Tol (r : List Int) (n : Nat) (e : Int) : Prop := 0 ≤ e ∧ cntG e r ≤ n ∧ ∀ e', 0 ≤ e' → cntG e' r ≤ n → e ≤ e'
theorem asc_le {r : List Int} {b : Int} (ha : Asc r) (hl : r[r.length - 1]? = some b) : ∀ x ∈ r, x ≤ b := by
  intro x hx
  obtain ⟨j, hj⟩ := List.mem_iff_getElem?.mp hx
  obtain ⟨jj, e1⟩ := List.getElem?_eq_some_iff.mp hj
  obtain ⟨ii, e2⟩ := List.getElem?_eq_some_iff.mp hl
  rcases Nat.lt_or_ge j (r.length - 1) with h | h
  · have := (List.pairwise_iff_getElem.mp ha) j (r.length - 1) jj ii h
    omega
  · have : j = r.length - 1 := by omega
    subst this
    omega
theorem cnt_all {r : List Int} {a b : Int} (ha : Asc r) (h0 : r[0]? = some a) (hl : r[r.length - 1]? = some b) : cntG (b - a) r ≤ 1 := by
  have hle := asc_le ha hl
  have := cnt_pieces (e := b - a) [r] (by simpa using ha) (fun p hp => by
    rw [List.mem_singleton.mp hp]
    intro v hv x hx
    have : v = a := by
      cases r with
      | nil => cases hv
      | cons y r =>
        cases hv
        cases h0
        rfl
    have := hle x hx
    omega)
  simpa using this
theorem Tol.one {r : List Int} {n : Nat} {e e' : Int} (h : Tol r n e) (h' : Tol r n e') : e = e' := by
  have h1 := h.2.2 e' h'.1 h'.2.1
  have h2 := h'.2.2 e h.1 h.2.1
  omega
theorem gs_first {e : Int} : ∀ (r : List Int) (c : GP), Asc r → (∀ x ∈ r, c.2 < x) → ∃ m t, gs1 e c r = (c.1, m) :: t ∧ c.2 ≤ m
  | [], c, _, _ => ⟨c.2, [], rfl, Int.le_refl _⟩
  | v :: r, c, ha, hc => by
    have hlt := hc v (.head _)
    by_cases k : v ≤ c.1 + e
    · rw [gs1_yes k]
      obtain ⟨m, t, h1, h2⟩ := gs_first r (c.1, v) (asc_t ha) (fun x m => (List.pairwise_cons.mp ha).1 x m)
      exact ⟨m, t, h1, by have h2 : v ≤ m := h2; omega⟩
    · rw [gs1_no k]
      exact ⟨c.2, _, rfl, Int.le_refl _⟩
theorem gs_same {e d : Int} (hd : d ≤ e) : ∀ (r : List Int) (c : GP), Asc r → (∀ x ∈ r, c.2 < x) → (∀ g ∈ gs1 e c r, g.2 - g.1 ≤ d) → gs1 d c r = gs1 e c r
  | [], c, _, _, _ => rfl
  | v :: r, c, ha, hc, h => by
    have hh := fun x m => (List.pairwise_cons.mp ha).1 x m
    by_cases k : v ≤ c.1 + e
    · rw [gs1_yes k] at h ⊢
      obtain ⟨m, t, h1, h2⟩ := gs_first (e := e) r (c.1, v) (asc_t ha) hh
      have h3 := h (c.1, m) (by rw [h1]; exact .head _)
      have h3 : m - c.1 ≤ d := h3
      have h2 : v ≤ m := h2
      rw [gs1_yes (show v ≤ c.1 + d by omega)]
      exact gs_same hd r _ (asc_t ha) hh h
    · rw [gs1_no k] at h ⊢
      rw [gs1_no (by omega), gs_same hd r (v, v) (asc_t ha) hh fun g hg => h g (.tail _ hg)]
theorem grp_same {e d : Int} (hd : d ≤ e) {r : List Int} (ha : Asc r) (h : ∀ g ∈ grp e r, g.2 - g.1 ≤ d) : grp d r = grp e r := by
  cases r with
  | nil => rfl
  | cons v r => exact gs_same hd r (v, v) (asc_t ha) (fun x m => (List.pairwise_cons.mp ha).1 x m) h
theorem span_max : ∀ (zs : List GP), (∀ g ∈ zs, 0 ≤ g.2 - g.1) → ∃ d : Int, 0 ≤ d ∧ (d = 0 ∨ ∃ g ∈ zs, d = g.2 - g.1) ∧ ∀ g ∈ zs, g.2 - g.1 ≤ d
  | [], _ => ⟨0, Int.le_refl 0, .inl rfl, fun g h => by cases h⟩
  | z :: zs, h => by
    obtain ⟨d, d0, hd, hm⟩ := span_max zs fun g hg => h g (.tail _ hg)
    have hz := h z (.head _)
    by_cases c : z.2 - z.1 ≤ d
    · refine ⟨d, d0, ?_, fun g hg => ?_⟩
      · rcases hd with e | ⟨g, hg, e⟩
        · exact .inl e
        · exact .inr ⟨g, .tail _ hg, e⟩
      · rcases List.mem_cons.mp hg with rfl | hg
        · exact c
        · exact hm g hg
    · refine ⟨z.2 - z.1, hz, .inr ⟨z, .head _, rfl⟩, fun g hg => ?_⟩
      rcases List.mem_cons.mp hg with rfl | hg
      · exact Int.le_refl _
      · have := hm g hg
        omega
/-- a tolerance that is enough is not less than a difference that is enough -/
theorem tol_diff {r : List Int} (ha : Asc r) {n : Nat} {e : Int} (he : 0 ≤ e) (h : cntG e r ≤ n) : ∃ d, d ≤ e ∧ cntG d r ≤ n ∧ (d = 0 ∨ ∃ x ∈ r, ∃ y ∈ r, y ≤ x ∧ d = x - y) := by
  have ok := grp_ok he ha
  obtain ⟨d, d0, hd, hm⟩ := span_max (grp e r) fun g hg => by have := ok g hg; omega
  have hde : d ≤ e := by
    rcases hd with rfl | ⟨g, hg, rfl⟩
    · exact he
    · exact (ok g hg).2.2.2
  refine ⟨d, hde, ?_, ?_⟩
  · unfold cntG at *
    rw [grp_same hde ha hm]
    exact h
  · rcases hd with e | ⟨g, hg, e⟩
    · exact .inl e
    · have := ok g hg
      exact .inr ⟨g.2, this.2.1, g.1, this.1, this.2.2.1, e⟩
theorem gs_ge {e : Int} : ∀ (r : List Int) (c : GP), Asc r → (∀ x ∈ r, c.1 ≤ x) → ∀ g ∈ gs1 e c r, c.1 ≤ g.1
  | [], c, _, _, g, hg => by
    rw [List.mem_singleton.mp hg]
    exact Int.le_refl _
  | v :: r, c, ha, hc, g, hg => by
    have hv := hc v (.head _)
    by_cases k : v ≤ c.1 + e
    · rw [gs1_yes k] at hg
      exact gs_ge r (c.1, v) (asc_t ha) (fun x m => hc x (.tail _ m)) g hg
    · rw [gs1_no k] at hg
      rcases List.mem_cons.mp hg with rfl | hg
      · exact Int.le_refl _
      · have := gs_ge r (v, v) (asc_t ha) (asc_h ha) g hg
        have : v ≤ g.1 := this
        omega
/-- the groups stand apart -/
theorem gs_sep {e : Int} : ∀ (r : List Int) (c : GP), Asc r → (∀ x ∈ r, c.2 < x) → (gs1 e c r).Pairwise fun a b => a.2 < b.1
  | [], c, _, _ => List.pairwise_singleton _ _
  | v :: r, c, ha, hc => by
    have hlt := hc v (.head _)
    have hh := fun x m => (List.pairwise_cons.mp ha).1 x m
    by_cases k : v ≤ c.1 + e
    · rw [gs1_yes k]
      exact gs_sep r (c.1, v) (asc_t ha) hh
    · rw [gs1_no k]
      refine List.pairwise_cons.mpr ⟨fun g hg => ?_, gs_sep r (v, v) (asc_t ha) hh⟩
      have := gs_ge r (v, v) (asc_t ha) (asc_h ha) g hg
      have : v ≤ g.1 := this
      omega
theorem grp_one {e x : Int} (he : 0 ≤ e) {r : List Int} (ha : Asc r) {a b : GP} (h1 : a ∈ grp e r) (h2 : b ∈ grp e r) (x1 : a.1 ≤ x ∧ x ≤ a.2) (x2 : b.1 ≤ x ∧ x ≤ b.2) : a = b := by
  have sep : (grp e r).Pairwise fun a b => a.2 < b.1 := by
    cases r with
    | nil => exact .nil
    | cons v r => exact gs_sep r (v, v) (asc_t ha) (fun x m => (List.pairwise_cons.mp ha).1 x m)
  obtain ⟨i, hi⟩ := List.mem_iff_getElem?.mp h1
  obtain ⟨j, hj⟩ := List.mem_iff_getElem?.mp h2
  obtain ⟨ii, e1⟩ := List.getElem?_eq_some_iff.mp hi
  obtain ⟨jj, e2⟩ := List.getElem?_eq_some_iff.mp hj
  have pw := List.pairwise_iff_getElem.mp sep
  rcases Nat.lt_trichotomy i j with h | h | h
  · have := pw i j ii jj h
    rw [e1, e2] at this
    omega
  · subst h
    rw [← e1, ← e2]
  · have := pw j i jj ii h
    rw [e1, e2] at this
    omega
section
variable {K : PySem.W.Frag} {H : Hp}
theorem Gs.unapp : ∀ {ws : List V} {zs : List GP} {c : GP}, Gs K H ws (zs ++ [c]) → ∃ wd w, ws = wd ++ [w] ∧ Gs K H wd zs ∧ Dp K H w (gD c)
  | [], [], _, h => h.elim
  | [], _ :: _, _, h => h.elim
  | [w], [], c, h => ⟨[], w, rfl, trivial, h.1⟩
  | w :: w2 :: ws, [], c, h => h.2.elim
  | w :: ws, z :: zs, c, h => by
    obtain ⟨wd, w2, e, h1, h2⟩ := Gs.unapp h.2
    exact ⟨w :: wd, w2, by rw [e]; rfl, ⟨h.1, h1⟩, h2⟩
end
theorem set_last {α : Type} (wd : List α) (w x : α) : (wd ++ [w]).set wd.length x = wd ++ [x] := by
  rw [List.set_append_right _ _ (Nat.le_refl _), Nat.sub_self]
  rfl
theorem at_last (wd : List V) (w : V) : atI (wd ++ [w]) (-1) = some w := atI_last wd w
theorem ixN_last (wd : List V) (w : V) : ixN (wd ++ [w]).length (-1) = some wd.length := by
  rw [List.length_append, List.length_singleton]
  unfold ixN
  simp
  omega
local macro_rules | `(tactic| walk_at "z1") => `(tactic| first
  | with_reducible refine z_max2 ?_
  | with_reducible refine z_min2 ?_
  | with_reducible refine z_tru ?_)
def sp_values_in_order : Sp := fun vs H Q _ => ∃ (p : Addr) (ns : List Int), vs = [.ref p] ∧ H p = some (.lst (ns.map V.int)) ∧ ns.length ≤ 60 ∧
  ∀ a H' ms, H a = none → Same H H' → H' a = some (.lst (ms.map V.int)) → Asc ms → (∀ k, k ∈ ms ↔ k ∈ ns ∧ 0 < k) → ms.length ≤ ns.length → Q (.ref a) H'
section
theorem ok_values_in_order {P : Program} {w : World} {K : PySem.W.Frag} {mg : Str → Option Value} {base : Heap} {A : Nat → Addr} {D : Nat → FuncData} (T : Txt K mg A D) : FnOk P w K mg base (L2.CX P w) 1 (A 1) (D 1) ["values"] (sp_values_in_order) := by
  refine T.F_values_in_order.okX sc_values_in_order (fun vs H Q E h => ?_) (fun cdv A' outer s H vs Q E hr h => ?_)
  · obtain ⟨p, ns, rfl, _⟩ := h
    rfl
  obtain ⟨p, ns, rfl, hp, hl, q⟩ := h
  refine ⟨_, (pss_one (ps_ret (pe_callB (cr_sortedSet rfl) (by rfl) T.z_sorted (by decide +kernel) (pa_cons (Sc.pe_setI (own := [("value", 1)]) (g := gName 1) rfl sc_values_in_order.nd (pi_list (pv 0)) (blkOk_by (N := ["values", "value"]) (sc := defScope s_values_in_order) (by decide +kernel)) (fun _ _ _ _ _ => pg_name (i := 1) sc_values_in_order.nd rfl (Or.inl rfl)) (fun _ _ _ _ _ => (pts_one (pt_cmpR op_gt (pv 1) pe_int (nomark _)))) (fun _ _ _ _ _ => (pv 1))) pa_nil)))), ?_⟩
  walk_at "z"
  refine Sc.z_setE ?_
  walk_at "z"
  refine Sc.z_setI (fun k => decide (0 < k)) (by omega) hp (fun _ => rfl) (fun x H' R _ k => by walk_at "z"; exact k) (fun x H' R _ k => by walk_at "z"; exact k) fun D H1 S n f1 s1 e1 hin hn => ?_
  walk_at "z"
  refine Sc.z_sortedSet e1 (by omega) fun ms a H2 pw hm hml f2 s2 e2 => ?_
  refine q a H2 ms ?_ (s1.trans s2) e2 pw (fun k => ?_) (by omega)
  · cases z : H a with
    | none => rfl
    | some o =>
      have := s1 _ _ z
      rw [f2] at this
      cases this
  · rw [hm k, hin k, decide_eq_true_eq]
end
/-- the state of the greedy loop over vs after i values -/
def Gst (e : Int) (vs : List Int) (i : Nat) (zs : List GP) : Prop := (i = 0 ∧ zs = []) ∨ ∃ done c, zs = done ++ [c] ∧ grp e vs = done ++ gs1 e c (vs.drop i)
theorem Gst.new {e v : Int} {vs : List Int} {i : Nat} {zs : List GP} (h : Gst e vs i zs) (hv : vs[i]? = some v) (hn : ∀ done c, zs = done ++ [c] → ¬ v ≤ c.1 + e) : Gst e vs (i + 1) (zs ++ [(v, v)]) := by
  have hd : vs.drop i = v :: vs.drop (i + 1) := by
    obtain ⟨hi, e⟩ := List.getElem?_eq_some_iff.mp hv
    rw [List.drop_eq_getElem_cons hi, e]
  rcases h with ⟨rfl, rfl⟩ | ⟨done, c, rfl, h⟩
  · refine .inr ⟨[], (v, v), rfl, ?_⟩
    rw [List.drop_zero] at hd
    rw [hd]
    rfl
  · refine .inr ⟨done ++ [c], (v, v), rfl, ?_⟩
    rw [h, hd, gs1_no (hn _ _ rfl), List.append_assoc]
    rfl
theorem Gst.old {e v : Int} {vs : List Int} {i : Nat} {done : List GP} {c : GP} (h : Gst e vs i (done ++ [c])) (hv : vs[i]? = some v) (hn : v ≤ c.1 + e) : Gst e vs (i + 1) (done ++ [(c.1, v)]) := by
  have hd : vs.drop i = v :: vs.drop (i + 1) := by
    obtain ⟨hi, e⟩ := List.getElem?_eq_some_iff.mp hv
    rw [List.drop_eq_getElem_cons hi, e]
  rcases h with ⟨_, z⟩ | ⟨done', c', z, h⟩
  · simp at z
  · obtain ⟨z1, z2⟩ := List.append_inj' z rfl
    cases z2
    subst z1
    refine .inr ⟨done, _, rfl, ?_⟩
    rw [h, hd, gs1_yes hn]
theorem Gst.fin {e : Int} {vs : List Int} {zs : List GP} (h : Gst e vs vs.length zs) : zs = grp e vs := by
  rcases h with ⟨z, rfl⟩ | ⟨done, c, rfl, h⟩
  · have : vs = [] := List.length_eq_zero_iff.mp z
    subst this
    rfl
  · rw [h, List.drop_length]
    rfl
theorem Gst.len {e : Int} {vs : List Int} {i : Nat} {zs : List GP} (h : Gst e vs i zs) : zs.length ≤ vs.length := by
  have hc := cnt_len (e := e) vs
  unfold cntG at hc
  rcases h with ⟨z, rfl⟩ | ⟨done, c, rfl, h⟩
  · exact Nat.zero_le _
  · rw [h] at hc
    simp only [List.length_append, List.length_singleton] at hc ⊢
    have : ∀ (r : List Int) (c : GP), 1 ≤ (gs1 e c r).length := fun r => by
      induction r with
      | nil => intro c; exact Nat.le_refl 1
      | cons v r ih =>
        intro c
        by_cases k : v ≤ c.1 + e
        · rw [gs1_yes k]
          exact ih _
        · rw [gs1_no k]
          exact Nat.succ_pos _
    have := this (vs.drop i) c
    omega
def sp_greedy (K : PySem.W.Frag) : Sp := fun vs H Q _ => ∃ (p : Addr) (ns : List Int) (e : Int), vs = [.ref p, .int e] ∧ H p = some (.lst (ns.map V.int)) ∧ ns.length ≤ 60 ∧
  ∀ a H' ws, H a = none → Same H H' → H' a = some (.lst ws) → Gs K H' ws (grp e ns) → Q (.ref a) H'
section
theorem ok_groups_in_order {P : Program} {w : World} {K : PySem.W.Frag} {mg : Str → Option Value} {base : Heap} {A : Nat → Addr} {D : Nat → FuncData} (T : Txt K mg A D) : FnOk P w K mg base (L2.CX P w) 1 (A 2) (D 2) ["values", "tolerance"] (sp_greedy K) := by
  refine T.F_groups_in_order.okX sc_groups_in_order (fun vs H Q E h => ?_) (fun cdv A' outer s H vs Q E hr h => ?_)
  · obtain ⟨p, ns, e, rfl, _⟩ := h
    rfl
  obtain ⟨p, ns, e, rfl, hp, hl, q⟩ := h
  refine ⟨_, (pss_cons (ps_set (i := 2) sc_groups_in_order.nd rfl (.inl rfl) (pe_lst pa_nil))
  (pss_cons (ps_for (passes_of rfl) rfl (pi_list (pv 0)) (pg_name (i := 3) sc_groups_in_order.nd rfl (.inl rfl))
  (pss_one (ps_if (PW.pt (pw_and (Z.pt_tru (pv 2) (by intro _; rfl)) (pw_and1 (pt_cmpR op_le (pv 3) (pe_op op_add (pe_ix ix_tup (pe_ix ix_list (pv 2) (pe_un un_neg pe_int) (fun _ _ => rfl)) pe_int (fun _ _ => rfl)) (pv 1)) (nomark _)))))
  (pss_one (ps_asg (pe_tup (pa_cons (pe_ix ix_tup (pe_ix ix_list (pv 2) (pe_un un_neg pe_int) (fun _ _ => rfl)) pe_int (fun _ _ => rfl)) (pa_cons (pv 3) pa_nil))) (pg_sub (pv 2) (pe_un un_neg pe_int) set_list)))
  (pss_one (ps_expr (pe_bm PySem.F.plainAttrs_list PySem.F.slot_list_append PySem.F.type_list_append mt_append (pv 2) (pa_cons (pe_tup (pa_cons (pv 3) (pa_cons (pv 3) pa_nil))) pa_nil)))))))
  (pss_one (ps_ret (pv 2))))), ?_⟩
  walk_at "z"
  intro l H1 f1 s1 e1
  walk_at "z"
  refine z_forL (fun R q => by walk_at "z"; exact q) (.inl (.inl (s1 _ _ hp))) (fun i σ' H' => Same H H' ∧ ∃ u ws zs, σ' = [some (.ref p), some (.int e), some (.ref l), u] ∧ H' l = some (.lst ws) ∧ Gs K H' ws zs ∧ Gst e ns i zs) ⟨s1, _, [], [], rfl, e1, trivial, .inl ⟨rfl, rfl⟩⟩
    (fun i σ' H' _ h => .inl (.inl (h.1 _ _ hp))) ?_ ?_
  · rintro i x σ' H' hx ⟨sm, u, ws, zs, rfl, hl', g, G⟩
    rw [List.getElem?_map] at hx
    cases hj : ns[i]? with
    | none => rw [hj] at hx; cases hx
    | some v =>
    rw [hj] at hx
    cases hx
    have lz := G.len
    have lw := g.len
    -- a new group
    have new : (∀ done c, zs = done ++ [c] → ¬ v ≤ c.1 + e) → ∀ t H2, Same H' H2 → H2 t = some (.tup [.int v, .int v]) → ∀ (u : Option V), (Same H (upd H2 l (.lst (ws ++ [.ref t]))) ∧ ∃ u' ws' zs', [some (.ref p), some (.int e), some (.ref l), u] = [some (.ref p), some (.int e), some (.ref l), u'] ∧ (upd H2 l (.lst (ws ++ [.ref t]))) l = some (.lst ws') ∧ Gs K (upd H2 l (.lst (ws ++ [.ref t]))) ws' zs' ∧ Gst e ns (i + 1) zs') := by
      intro hn t H2 s2 e2 u
      have hl2 := s2 _ _ hl'
      refine ⟨fun b o h => ?_, _, _, _, rfl, upd_same, ?_, G.new hj hn⟩
      · rw [upd_ne (ne_of_none h f1)]
        exact s2 _ _ (sm _ _ h)
      · have k2 : Kp l H2 (upd H2 l (.lst (ws ++ [.ref t]))) := fun b o hb h => by
          rw [upd_ne hb]
          exact h
        exact Gs.kp k2 hl2 ((g.mono s2).app (gs_one (dp_mkg e2)))
    walk_at "z"
    refine z_truL hl' ?_
    rcases List.eq_nil_or_concat zs with hz | ⟨done, c, hz⟩
    · have hw : ws = [] := List.length_eq_zero_iff.mp (by rw [g.len, hz]; rfl)
      subst hw
      rw [show (![].isEmpty : Bool) = false from rfl]
      refine z_ifF ?_
      walk_at "z"
      refine z_bmL (fun R q => by walk_at "z"; exact q) hl' ?_
      walk_at "z"
      intro t H2 f2 s2 e2
      walk_at "z"
      refine z_append (s2 _ _ hl') (by omega) ?_
      exact new (fun done c z => by rw [hz] at z; simp at z) t H2 s2 e2 _
    · rw [List.concat_eq_append] at hz
      subst hz
      obtain ⟨wd, w, rfl, gd, dw⟩ := g.unapp
      obtain ⟨tw, rfl, htw⟩ := dp_g dw
      rw [show (!(wd ++ [V.ref tw]).isEmpty : Bool) = true by simp]
      walk_at "z"
      refine z_ixL (.inl (.inl hl')) (at_last wd _) ?_
      walk_at "z"
      refine z_if (fun hc => ?_) (fun hc => ?_)
      · walk_at "z"
        refine z_ixL (.inl (.inl hl')) (at_last wd _) ?_
        walk_at "z"
        intro t H2 f2 s2 e2
        have hl2 := s2 _ _ hl'
        walk_at "z"
        refine z_setL hl2 (ixN_last wd _) ?_
        rw [set_last]
        refine ⟨fun b o h => ?_, _, _, _, rfl, upd_same, ?_, G.old hj hc⟩
        · rw [upd_ne (ne_of_none h f1)]
          exact s2 _ _ (sm _ _ h)
        · have k2 : Kp l H2 (upd H2 l (.lst (wd ++ [.ref t]))) := fun b o hb h => by
            rw [upd_ne hb]
            exact h
          exact Gs.kp k2 hl2 ((gd.mono s2).app (gs_one (dp_mkg e2)))
      · walk_at "z"
        refine z_bmL (fun R q => by walk_at "z"; exact q) hl' ?_
        walk_at "z"
        intro t H2 f2 s2 e2
        walk_at "z"
        refine z_append (s2 _ _ hl') (by omega) ?_
        refine new (fun done' c' z => ?_) t H2 s2 e2 _
        obtain ⟨_, z2⟩ := List.append_inj' z rfl
        cases z2
        exact hc
  · rintro σ' H' ⟨sm, u, ws, zs, rfl, hl', g, G⟩
    rw [List.length_map] at G
    have := G.fin
    subst this
    walk_at "z"
    exact q l H' ws f1 sm hl' g
end
def sp_groups (K : PySem.W.Frag) : Sp := fun vs H Q _ => ∃ (p : Addr) (ns : List Int) (e : Int), vs = [.ref p, .int e] ∧ H p = some (.lst (ns.map V.int)) ∧ ns.length ≤ 60 ∧
  ∀ a H' ws ms, H a = none → Same H H' → H' a = some (.lst ws) → Asc ms → (∀ k, k ∈ ms ↔ k ∈ ns ∧ 0 < k) → ms.length ≤ ns.length → Gs K H' ws (grp e ms) → Q (.ref a) H'
section
theorem ok_groups {P : Program} {w : World} {K : PySem.W.Frag} {mg : Str → Option Value} {base : Heap} {A : Nat → Addr} {D : Nat → FuncData} (T : Txt K mg A D) : FnOk P w K mg base (L2.CX P w) 2 (A 0) (D 0) ["values", "tolerance"] (sp_groups K) := by
  refine T.F_groups.okX sc_groups (fun vs H Q E h => ?_) (fun cdv A' outer s H vs Q E hr h => ?_)
  · obtain ⟨p, ns, e, rfl, _⟩ := h
    rfl
  obtain ⟨p, ns, e, rfl, hp, hl, q⟩ := h
  refine ⟨_, (pss_one (ps_ret (pe_call (ok_groups_in_order T) (hr.mono (by decide)) (by rfl) T.m_groups_in_order T.F_groups_in_order.kp T.b_groups_in_order .nil (passes_call (takes_of rfl rfl rfl rfl) (fun _ _ _ _ h => h)) (pa_cons (pe_call (ok_values_in_order T) (hr.mono (by decide)) (by rfl) T.m_values_in_order T.F_values_in_order.kp T.b_values_in_order .nil (passes_call (takes_of rfl rfl rfl rfl) (fun _ _ _ _ h => h)) (pa_cons (pv 0) pa_nil)) (pa_cons (pv 1) pa_nil))))), ?_⟩
  walk_at "z"
  refine ⟨p, ns, rfl, hp, hl, fun a H1 ms f1 s1 e1 ha' hm' hl' => ?_⟩
  walk_at "z"
  exact ⟨a, ms, e, rfl, e1, by omega, fun b H2 ws f2 s2 e2 g => q b H2 ws ms (fresh_of s1 f2) (s1.trans s2) e2 ha' hm' hl' g⟩
end
section
theorem ok__law_greedy {P : Program} {w : World} {K : PySem.W.Frag} {mg : Str → Option Value} {base : Heap} {A : Nat → Addr} {D : Nat → FuncData} (T : Txt K mg A D) : FnOk P w K mg base (L2.CX P w) 1 (A 14) (D 14) ["rest", "e"] (sp_greedy K) := by
  refine T.F__law_greedy.okX sc__law_greedy (fun vs H Q E h => ?_) (fun cdv A' outer s H vs Q E hr h => ?_)
  · obtain ⟨p, ns, e, rfl, _⟩ := h
    rfl
  obtain ⟨p, ns, e, rfl, hp, hl, q⟩ := h
  refine ⟨_, (pss_cons (ps_set (i := 2) sc__law_greedy.nd rfl (.inl rfl) (pe_lst pa_nil))
  (pss_cons (ps_for (passes_of rfl) rfl (pi_list (pv 0)) (pg_name (i := 3) sc__law_greedy.nd rfl (.inl rfl))
  (pss_one (ps_if (PW.pt (pw_and (pt_cmpR op_gt (pe_callB Z.c_len (by rfl) T.z_len (by decide +kernel) (pa_cons (pv 2) pa_nil)) pe_int (nomark _)) (pw_and1 (pt_cmpR op_le (pe_op op_sub (pv 3) (pe_ix ix_tup (pe_ix ix_list (pv 2) (pe_un un_neg pe_int) (fun _ _ => rfl)) pe_int (fun _ _ => rfl))) (pv 1) (nomark _)))))
  (pss_one (ps_asg (pe_tup (pa_cons (pe_ix ix_tup (pe_ix ix_list (pv 2) (pe_un un_neg pe_int) (fun _ _ => rfl)) pe_int (fun _ _ => rfl)) (pa_cons (pv 3) pa_nil))) (pg_sub (pv 2) (pe_un un_neg pe_int) set_list)))
  (pss_one (ps_expr (pe_bm PySem.F.plainAttrs_list PySem.F.slot_list_append PySem.F.type_list_append mt_append (pv 2) (pa_cons (pe_tup (pa_cons (pv 3) (pa_cons (pv 3) pa_nil))) pa_nil)))))))
  (pss_one (ps_ret (pv 2))))), ?_⟩
  walk_at "z"
  intro l H1 f1 s1 e1
  walk_at "z"
  refine z_forL (fun R q => by walk_at "z"; exact q) (.inl (.inl (s1 _ _ hp))) (fun i σ' H' => Same H H' ∧ ∃ u ws zs, σ' = [some (.ref p), some (.int e), some (.ref l), u] ∧ H' l = some (.lst ws) ∧ Gs K H' ws zs ∧ Gst e ns i zs) ⟨s1, _, [], [], rfl, e1, trivial, .inl ⟨rfl, rfl⟩⟩
    (fun i σ' H' _ h => .inl (.inl (h.1 _ _ hp))) ?_ ?_
  · rintro i x σ' H' hx ⟨sm, u, ws, zs, rfl, hl', g, G⟩
    rw [List.getElem?_map] at hx
    cases hj : ns[i]? with
    | none => rw [hj] at hx; cases hx
    | some v =>
    rw [hj] at hx
    cases hx
    have lz := G.len
    have lw := g.len
    -- a new group
    have new : (∀ done c, zs = done ++ [c] → ¬ v ≤ c.1 + e) → ∀ t H2, Same H' H2 → H2 t = some (.tup [.int v, .int v]) → ∀ (u : Option V), (Same H (upd H2 l (.lst (ws ++ [.ref t]))) ∧ ∃ u' ws' zs', [some (.ref p), some (.int e), some (.ref l), u] = [some (.ref p), some (.int e), some (.ref l), u'] ∧ (upd H2 l (.lst (ws ++ [.ref t]))) l = some (.lst ws') ∧ Gs K (upd H2 l (.lst (ws ++ [.ref t]))) ws' zs' ∧ Gst e ns (i + 1) zs') := by
      intro hn t H2 s2 e2 u
      have hl2 := s2 _ _ hl'
      refine ⟨fun b o h => ?_, _, _, _, rfl, upd_same, ?_, G.new hj hn⟩
      · rw [upd_ne (ne_of_none h f1)]
        exact s2 _ _ (sm _ _ h)
      · have k2 : Kp l H2 (upd H2 l (.lst (ws ++ [.ref t]))) := fun b o hb h => by
          rw [upd_ne hb]
          exact h
        exact Gs.kp k2 hl2 ((g.mono s2).app (gs_one (dp_mkg e2)))
    walk_at "z"
    rcases List.eq_nil_or_concat zs with hz | ⟨done, c, hz⟩
    · have hw : ws = [] := List.length_eq_zero_iff.mp (by rw [g.len, hz]; rfl)
      subst hw
      refine z_if (fun c => absurd c (by decide)) (fun _ => ?_)
      walk_at "z"
      refine z_bmL (fun R q => by walk_at "z"; exact q) hl' ?_
      walk_at "z"
      intro t H2 f2 s2 e2
      walk_at "z"
      refine z_append (s2 _ _ hl') (by omega) ?_
      exact new (fun done c z => by rw [hz] at z; simp at z) t H2 s2 e2 _
    · rw [List.concat_eq_append] at hz
      subst hz
      obtain ⟨wd, w, rfl, gd, dw⟩ := g.unapp
      obtain ⟨tw, rfl, htw⟩ := dp_g dw
      refine z_if (fun _ => ?_) (fun c => absurd (show (0 : Int) < ((wd ++ [V.ref tw]).length : Int) by rw [List.length_append, List.length_singleton]; omega) c)
      walk_at "z"
      refine z_ixL (.inl (.inl hl')) (at_last wd _) ?_
      walk_at "z"
      refine z_if (fun hc => ?_) (fun hc => ?_)
      · walk_at "z"
        refine z_ixL (.inl (.inl hl')) (at_last wd _) ?_
        walk_at "z"
        intro t H2 f2 s2 e2
        have hl2 := s2 _ _ hl'
        walk_at "z"
        refine z_setL hl2 (ixN_last wd _) ?_
        rw [set_last]
        refine ⟨fun b o h => ?_, _, _, _, rfl, upd_same, ?_, G.old hj (by omega)⟩
        · rw [upd_ne (ne_of_none h f1)]
          exact s2 _ _ (sm _ _ h)
        · have k2 : Kp l H2 (upd H2 l (.lst (wd ++ [.ref t]))) := fun b o hb h => by
            rw [upd_ne hb]
            exact h
          exact Gs.kp k2 hl2 ((gd.mono s2).app (gs_one (dp_mkg e2)))
      · walk_at "z"
        refine z_bmL (fun R q => by walk_at "z"; exact q) hl' ?_
        walk_at "z"
        intro t H2 f2 s2 e2
        walk_at "z"
        refine z_append (s2 _ _ hl') (by omega) ?_
        refine new (fun done' c' z => ?_) t H2 s2 e2 _
        obtain ⟨_, z2⟩ := List.append_inj' z rfl
        cases z2
        omega
  · rintro σ' H' ⟨sm, u, ws, zs, rfl, hl', g, G⟩
    rw [List.length_map] at G
    have := G.fin
    subst this
    walk_at "z"
    exact q l H' ws f1 sm hl' g
end
section
theorem ok__law_ascending {P : Program} {w : World} {K : PySem.W.Frag} {mg : Str → Option Value} {base : Heap} {A : Nat → Addr} {D : Nat → FuncData} (T : Txt K mg A D) : FnOk P w K mg base (L2.CX P w) 1 (A 13) (D 13) ["values"] (sp_values_in_order) := by
  refine T.F__law_ascending.okX sc__law_ascending (fun vs H Q E h => ?_) (fun cdv A' outer s H vs Q E hr h => ?_)
  · obtain ⟨p, ns, rfl, _⟩ := h
    rfl
  obtain ⟨p, ns, rfl, hp, hl, q⟩ := h
  refine ⟨_, (pss_cons (ps_set (i := 1) sc__law_ascending.nd rfl (.inl rfl) (pe_lst pa_nil))
  (pss_cons (ps_for (passes_of rfl) rfl (pi_list (pe_callB cr_sorted (by rfl) T.z_sorted (by decide +kernel) (pa_cons (pv 0) pa_nil))) (pg_name (i := 2) sc__law_ascending.nd rfl (.inl rfl))
  (pss_one (ps_if (PW.pt (pw_and (pt_cmpR op_gt (pv 2) pe_int (nomark _)) (pw_and1 (pt_cmpR op_notIn_seq (pv 2) (pv 1) (by rfl)))))
  (pss_one (ps_expr (pe_bm PySem.F.plainAttrs_list PySem.F.slot_list_append PySem.F.type_list_append mt_append (pv 1) (pa_cons (pv 2) pa_nil))))
  pss_nil)))
  (pss_one (ps_ret (pv 1))))), ?_⟩
  walk_at "z"
  intro l H1 f1 s1 e1
  walk_at "z"
  refine z_forE ?_
  walk_at "z"
  refine z_sorted (s1 _ _ hp) (by omega) fun ms a H2 pm pw f2 s2 e2 => ?_
  have hml : ms.length = ns.length := pm.length_eq
  have fl : H1 l = some (.lst []) := e1
  unfold ForL
  have nal : a ≠ l := fun z => by rw [z, e1] at f2; cases f2
  refine z_forL (fun R q => q) (.inl (.inl e2)) (fun i σ' H' => Same H H' ∧ H' a = some (.lst (ms.map V.int)) ∧ ∃ u ts, σ' = [some (.ref p), some (.ref l), u] ∧ H' l = some (.lst (ts.map V.int)) ∧ Asc ts ∧ (∀ k, k ∈ ts ↔ k ∈ ms.take i ∧ 0 < k) ∧ ts.length ≤ i)
    ⟨s1.trans s2, e2, _, [], rfl, s2 _ _ e1, .nil, fun k => by simp, Nat.le_refl _⟩ (fun i σ' H' _ h => .inl (.inl h.2.1)) ?_ ?_
  · rintro i x σ' H' hx ⟨sm, ha, u, ts, rfl, hl', asc, hm, tl⟩
    rw [List.getElem?_map] at hx
    cases hj : ms[i]? with
    | none => rw [hj] at hx; cases hx
    | some v =>
    rw [hj] at hx
    cases hx
    have hi : i < ms.length := (List.getElem?_eq_some_iff.mp hj).1
    have tk : ms.take (i + 1) = ms.take i ++ [v] := by rw [List.take_add_one, hj]; rfl
    have skip : (¬ 0 < v ∨ v ∈ ts) → ∀ k, k ∈ ts ↔ k ∈ ms.take (i + 1) ∧ 0 < k := fun c k => by
      rw [hm k, tk, List.mem_append, List.mem_singleton]
      constructor
      · rintro ⟨z1, z2⟩
        exact ⟨.inl z1, z2⟩
      · rintro ⟨z1 | rfl, z2⟩
        · exact ⟨z1, z2⟩
        · rcases c with c | c
          · exact absurd z2 c
          · exact (hm k).mp c
    walk_at "z"
    refine z_if (fun c => ?_) (fun c => ?_)
    · walk_at "z"
      refine z_notInI hl' ?_
      walk_at "z"
      refine z_if (fun c2 => ?_) (fun c2 => ?_)
      · walk_at "z"
        refine z_bmL (fun R q => by walk_at "z"; exact q) hl' ?_
        walk_at "z"
        refine z_append hl' (by rw [List.length_map]; omega) ?_
        refine ⟨fun b o h => ?_, ?_, _, ts ++ [v], rfl, ?_, ?_, fun k => ?_, by simp; omega⟩
        · rw [upd_ne (ne_of_none h f1)]
          exact sm _ _ h
        · rw [upd_ne nal]
          exact ha
        · rw [upd_same, List.map_append]
          rfl
        · refine List.pairwise_append.mpr ⟨asc, List.pairwise_singleton _ _, fun y hy z hz => ?_⟩
          rw [List.mem_singleton.mp hz]
          have h1 := ((hm y).mp hy).1
          obtain ⟨j, hj2⟩ := List.mem_iff_getElem?.mp h1
          have hlt : j < i := by
            have := (List.getElem?_eq_some_iff.mp hj2).1
            rw [List.length_take] at this
            omega
          rw [List.getElem?_take_of_lt hlt] at hj2
          obtain ⟨jj, e1'⟩ := List.getElem?_eq_some_iff.mp hj2
          obtain ⟨ii, e2'⟩ := List.getElem?_eq_some_iff.mp hj
          have := (List.pairwise_iff_getElem.mp pw) j i jj ii hlt
          rw [e1', e2'] at this
          have hne : y ≠ v := fun z => c2 (by rw [← z]; exact hy)
          omega
        · rw [List.mem_append, List.mem_singleton, hm k, tk, List.mem_append, List.mem_singleton]
          constructor
          · rintro (⟨z1, z2⟩ | rfl)
            · exact ⟨.inl z1, z2⟩
            · exact ⟨.inr rfl, c⟩
          · rintro ⟨z1 | rfl, z2⟩
            · exact .inl ⟨z1, z2⟩
            · exact .inr rfl
      · walk_at "z"
        exact ⟨sm, ha, _, ts, rfl, hl', asc, skip (.inr (Decidable.not_not.mp c2)), by omega⟩
    · walk_at "z"
      exact ⟨sm, ha, _, ts, rfl, hl', asc, skip (.inl c), by omega⟩
  · rintro σ' H' ⟨sm, ha, u, ts, rfl, hl', asc, hm, tl⟩
    walk_at "z"
    rw [List.length_map] at hm tl
    exact q l H' ts f1 sm hl' asc (fun k => by rw [hm k, List.take_length, pm.mem_iff]) (by omega)
end
def sp__law_values : Sp := fun vs H Q _ => ∃ (p : Addr) (H0 : Hp), vs = [.ref p] ∧ Sd H0 H p ∧ ∀ (D : Addr) (H' : Hp) (ns : List Int), H D = none → D ≠ p → Sd H0 H' p → Kp p H H' → H' D = some (.lst (ns.map V.int)) → ns.length ≤ 24 → (∀ x ∈ ns, 0 ≤ x ∧ x ≤ 1000000000000) → Q (.ref D) H'
section
theorem ok__law_values {P : Program} {w : World} {K : PySem.W.Frag} {mg : Str → Option Value} {base : Heap} {A : Nat → Addr} {D : Nat → FuncData} (T : Txt K mg A D) : FnOk P w K mg base (L2.CX P w) 2 (A 12) (D 12) ["stream"] (sp__law_values) := by
  refine T.F__law_values.okX sc__law_values (fun vs H Q E h => ?_) (fun cdv A' outer s H vs Q E hr h => ?_)
  · obtain ⟨p, H0, rfl, _⟩ := h
    rfl
  obtain ⟨p, H0, rfl, S, q⟩ := h
  refine ⟨_, (pss_cons (ps_set (i := 1) sc__law_values.nd rfl (.inl rfl) (pe_call (ok__law_next T) (hr.mono (by decide)) (by rfl) T.m__law_next T.F__law_next.kp T.b__law_next .nil (passes_call (takes_of rfl rfl rfl rfl) (fun _ _ _ _ h => h)) (pa_cons (pv 0) (pa_cons pe_int pa_nil))))
  (Evl.pss_cut (ps_if (pt_cmpR op_eq (pe_call (ok__law_next T) (hr.mono (by decide)) (by rfl) T.m__law_next T.F__law_next.kp T.b__law_next .nil (passes_call (takes_of rfl rfl rfl rfl) (fun _ _ _ _ h => h)) (pa_cons (pv 0) (pa_cons pe_int pa_nil))) pe_int (nomark _))
  (pss_one (ps_set (i := 1) sc__law_values.nd rfl (.inl rfl) (pe_call (ok__law_next T) (hr.mono (by decide)) (by rfl) T.m__law_next T.F__law_next.kp T.b__law_next .nil (passes_call (takes_of rfl rfl rfl rfl) (fun _ _ _ _ h => h)) (pa_cons (pv 0) (pa_cons pe_int pa_nil)))))
  pss_nil)
  (pss_cons (ps_set (i := 2) sc__law_values.nd rfl (.inr rfl) (pe_ix ix_list (pe_lst (pa_cons pe_int (pa_cons pe_int (pa_cons pe_int pa_nil)))) (pe_call (ok__law_next T) (hr.mono (by decide)) (by rfl) T.m__law_next T.F__law_next.kp T.b__law_next .nil (passes_call (takes_of rfl rfl rfl rfl) (fun _ _ _ _ h => h)) (pa_cons (pv 0) (pa_cons pe_int pa_nil))) (fun _ _ => rfl)))
  (Evl.pss_cut (ps_if (pt_cmpR op_eq (pe_call (ok__law_next T) (hr.mono (by decide)) (by rfl) T.m__law_next T.F__law_next.kp T.b__law_next .nil (passes_call (takes_of rfl rfl rfl rfl) (fun _ _ _ _ h => h)) (pa_cons (pv 0) (pa_cons pe_int pa_nil))) pe_int (nomark _))
  (pss_one (ps_set (i := 2) sc__law_values.nd rfl (.inr rfl) (Z.pe_powc (v := 1000000000000) ⟨by decide, by decide, by decide⟩ (by decide))))
  pss_nil)
  (pss_one (ps_ret (pe_lc (own := [("k", 3)]) (g := gName 3) (tt := tYes) rfl sc__law_values.nd (pi_range1 (by rfl) T.z_range (pa_cons (pv 1) pa_nil)) (blkOk_by (N := ["stream", "count", "top", "k"]) (sc := defScope s__law_values) (by decide +kernel)) (fun _ _ _ _ _ => pg_name (i := 3) sc__law_values.nd rfl (Or.inl rfl)) (fun _ _ _ _ _ => pts_nil) (fun _ _ _ _ _ => (pe_call (ok__law_next T) (hr.mono (by decide)) (by rfl) T.m__law_next T.F__law_next.kp T.b__law_next .nil passL (pa_cons (pv 0) (pa_cons (pe_op op_add (pv 2) pe_int) pa_nil))))))))))), ?_⟩
  walk_at "z"
  refine nx S (by decide) (lt1000 (by decide)) fun c H1 c0 c1 S1 e1 => ?_
  walk_at "z"
  refine z_cut (fun σ' H' => Sd H0 H' p ∧ (∀ b, b ≠ p → H' b = H b) ∧ ∃ n : Nat, σ' = [some (.ref p), some (.int (n : Int)), none, none] ∧ n ≤ 24) ?_ ?_
  · walk_at "z"
    refine nx S1 (by decide) (lt1000 (by decide)) fun d H2 _ _ S2 e2 => ?_
    walk_at "z"
    refine z_if (fun _ => ?_) (fun _ => ?_)
    · walk_at "z"
      refine nx S2 (by decide) (lt1000 (by decide)) fun d2 H3 d20 d21 S3 e3 => ?_
      walk_at "z"
      exact ⟨S3, fun b hb => by rw [e3 b hb, e2 b hb, e1 b hb], d2.toNat, by rw [show ((d2.toNat : Nat) : Int) = d2 by omega]; rfl, by omega⟩
    · walk_at "z"
      exact ⟨S2, fun b hb => by rw [e2 b hb, e1 b hb], c.toNat, by rw [show ((c.toNat : Nat) : Int) = c by omega]; rfl, by omega⟩
  clear e1 S1 c0 c1
  rintro σ' H1 ⟨S1, e1, n, rfl, hn⟩
  walk_at "z"
  intro a2 H2 f2 s2 h2
  have S2 := S1.mono s2
  walk_at "z"
  refine nx S2 (by decide) (lt1000 (by decide)) fun j H3 j0 j1 S3 e3 => ?_
  have h23 : H3 a2 = _ := (e3 a2 (S1.ne0 f2)).trans h2
  obtain ⟨t, ht, t0, t1⟩ : ∃ t : Int, atI [V.int 12, V.int 60, V.int 6400] j = some (.int t) ∧ 0 ≤ t ∧ t ≤ 6400 := by
    rcases (show j = 0 ∨ j = 1 ∨ j = 2 by omega) with rfl | rfl | rfl
    · exact ⟨_, rfl, by omega, by omega⟩
    · exact ⟨_, rfl, by omega, by omega⟩
    · exact ⟨_, rfl, by omega, by omega⟩
  refine z_ixL (.inl (.inl h23)) ht ?_
  have k3 : Kp p H H3 := fun b o hb h => by
    rw [e3 b hb]
    exact s2 _ _ (by rw [e1 b hb]; exact h)
  walk_at "z"
  clear h23 e3 S2 h2 ht e1 j0 j1
  refine z_cut (fun σ' H' => Sd H0 H' p ∧ Kp p H H' ∧ ∃ t : Int, σ' = [some (.ref p), some (.int (n : Int)), some (.int t), none] ∧ 0 ≤ t ∧ t ≤ 1000000000000) ?_ ?_
  · walk_at "z"
    refine nx S3 (by decide) (lt1000 (by decide)) fun d H4 _ _ S4 e4 => ?_
    have k4 := k3.trans' (kp_eq e4)
    walk_at "z"
    refine z_if (fun _ => ?_) (fun _ => ?_)
    · walk_at "z"
      exact ⟨S4, k4, _, rfl, by decide, by decide⟩
    · walk_at "z"
      exact ⟨S4, k4, _, rfl, t0, by omega⟩
  clear k3 S3 t0 t1
  rintro σ' H4 ⟨S4, k4, t, rfl, t0, t1⟩
  walk_at "z"
  refine z_lcRE ?_
  walk_at "z"
  refine z_draws S4 (z := t + 1) (m := n) rfl (by omega) (by omega) (lt1000 (Nat.lt_of_le_of_lt (show (t + 1).natAbs ≤ 1000000000001 by omega) (by decide))) (fun _ => rfl) (fun i H' R h => by walk_at "z"; exact h _) fun D H5 ns f5 ne5 S5 k5 h5 l5 b5 => ?_
  refine q D H5 ns ?_ ne5 S5 (k4.trans' k5) h5 (by omega) fun x hx => by have := b5 x hx; omega
  cases z : H D with
  | none => rfl
  | some o =>
    have := k4 _ _ ne5 z
    rw [f5] at this
    cases this
end
section
variable {K : PySem.W.Frag} {H : Hp}
theorem Gs.take : ∀ {vs : List V} {zs : List GP} (n : Nat), Gs K H vs zs → Gs K H (vs.take n) (zs.take n)
  | _, _, 0, _ => trivial
  | [], [], _ + 1, _ => trivial
  | _ :: _, _ :: _, n + 1, h => ⟨h.1, Gs.take n h.2⟩
theorem Gs.drop : ∀ {vs : List V} {zs : List GP} (n : Nat), Gs K H vs zs → Gs K H (vs.drop n) (zs.drop n)
  | _, _, 0, h => h
  | [], [], _ + 1, _ => trivial
  | _ :: _, _ :: _, n + 1, h => Gs.drop n h.2
theorem Gs.rev : ∀ {vs : List V} {zs : List GP}, Gs K H vs zs → Gs K H vs.reverse zs.reverse
  | [], [], _ => trivial
  | _ :: _, _ :: _, h => by
    rw [List.reverse_cons, List.reverse_cons]
    exact (Gs.rev h.2).app (gs_one h.1)
end
theorem cut_to {xs : List V} {k : Nat} (h : k ≤ xs.length) : cutV xs none (some (k : Int)) = xs.take k := by
  unfold cutV
  rw [HT.sIx_nat, HT.sIx_none, Nat.min_eq_left h]
  rfl
theorem cut_from {xs : List V} {k : Nat} (h : k ≤ xs.length) : cutV xs (some (k : Int)) none = xs.drop k := by
  unfold cutV
  rw [HT.sIx_nat, HT.sIx_none, Nat.min_eq_left h, List.take_of_length_le (by rw [List.length_drop]; omega)]
theorem cut_mid {xs : List V} {j k : Nat} (hj : j ≤ xs.length) (h : k ≤ xs.length) : cutV xs (some (j : Int)) (some (k : Int)) = (xs.drop j).take (k - j) := by
  unfold cutV
  rw [HT.sIx_nat, HT.sIx_nat, Nat.min_eq_left h, Nat.min_eq_left hj]
def sp_least_tolerance : Sp := fun vs H Q _ => ∃ (p : Addr) (ns : List Int) (n : Nat), vs = [.ref p, .int (n : Int)] ∧ H p = some (.lst (ns.map V.int)) ∧ ns.length ≤ 60 ∧ 1 ≤ n ∧
  ∀ e ms H', Same H H' → Asc ms → (∀ k, k ∈ ms ↔ k ∈ ns ∧ 0 < k) → ms.length ≤ ns.length → Tol ms n e → Q (.int e) H'
section
theorem ok_least_tolerance {P : Program} {w : World} {K : PySem.W.Frag} {mg : Str → Option Value} {base : Heap} {A : Nat → Addr} {D : Nat → FuncData} (T : Txt K mg A D) : FnOk P w K mg base (L2.CX P w) 2 (A 3) (D 3) ["values", "limit"] (sp_least_tolerance) := by
  refine T.F_least_tolerance.okX sc_least_tolerance (fun vs H Q E h => ?_) (fun cdv A' outer s H vs Q E hr h => ?_)
  · obtain ⟨p, ns, n, rfl, _⟩ := h
    rfl
  obtain ⟨p, ns, n, rfl, hp, hl, hn, q⟩ := h
  refine ⟨_, (pss_cons (ps_set (i := 2) sc_least_tolerance.nd rfl (.inl rfl) (pe_call (ok_values_in_order T) (hr.mono (by decide)) (by rfl) T.m_values_in_order T.F_values_in_order.kp T.b_values_in_order .nil (passes_call (takes_of rfl rfl rfl rfl) (fun _ _ _ _ h => h)) (pa_cons (pv 0) pa_nil)))
  (pss_cons (ps_if (pt_not (Z.pt_tru (pv 2) (by intro _; rfl)))
  (pss_one (ps_ret pe_int))
  pss_nil)
  (pss_cons (ps_set (i := 3) sc_least_tolerance.nd rfl (.inl rfl) pe_int)
  (pss_cons (ps_set (i := 4) sc_least_tolerance.nd rfl (.inl rfl) (pe_op op_sub (pe_ix ix_list (pv 2) (pe_un un_neg pe_int) (fun _ _ => rfl)) (pe_ix ix_list (pv 2) pe_int (fun _ _ => rfl))))
  (pss_cons (ps_while (passes_of rfl) (pt_cmpR op_lt (pv 3) (pv 4) (nomark _))
  (pss_cons (ps_set (i := 5) sc_least_tolerance.nd rfl (.inl rfl) (pe_op op_fdivW (pe_op op_add (pv 3) (pv 4)) pe_int))
  (pss_one (ps_if (pt_cmpR op_le (pe_callB Z.c_len (by rfl) T.z_len (by decide +kernel) (pa_cons (pe_call (ok_groups_in_order T) (hr.mono (by decide)) (by rfl) T.m_groups_in_order T.F_groups_in_order.kp T.b_groups_in_order .nil (passes_call (takes_of rfl rfl rfl rfl) (fun _ _ _ _ h => h)) (pa_cons (pv 2) (pa_cons (pv 5) pa_nil))) pa_nil)) (pv 1) (nomark _))
  (pss_one (ps_set (i := 4) sc_least_tolerance.nd rfl (.inl rfl) (pv 5)))
  (pss_one (ps_set (i := 3) sc_least_tolerance.nd rfl (.inl rfl) (pe_op op_add (pv 5) pe_int)))))))
  (pss_one (ps_ret (pv 3)))))))), ?_⟩
  walk_at "z"
  refine ⟨p, ns, rfl, hp, hl, fun a H1 ms f1 s1 e1 am mm lm => ?_⟩
  walk_at "z"
  refine z_truL e1 ?_
  walk_at "z"
  rcases List.eq_nil_or_concat ms with hz | ⟨rd, b, hz⟩
  · subst hz
    walk_at "z"
    exact q 0 [] H1 s1 am mm lm ⟨Int.le_refl 0, Nat.zero_le _, fun e' h _ => h⟩
  rw [List.concat_eq_append] at hz
  have hb : ms[ms.length - 1]? = some b := by rw [hz]; simp
  obtain ⟨a0, ha0⟩ : ∃ z, ms[0]? = some z := ⟨_, List.getElem?_eq_getElem (show 0 < ms.length by rw [hz]; simp)⟩
  rw [show (!(!(ms.map V.int).isEmpty) : Bool) = false by rw [hz]; simp]
  walk_at "z"
  have e1' := e1
  rw [hz, List.map_append] at e1'
  refine z_ixL (.inl (.inl e1')) (at_last _ _) ?_
  walk_at "z"
  refine z_ixL (.inl (.inl e1)) (v := .int a0) (show atI _ ((0 : Nat) : Int) = _ from atI_nat (by rw [List.getElem?_map, ha0]; rfl)) ?_
  walk_at "z"
  have h1 := cnt_all am ha0 hb
  have hab : a0 ≤ b := asc_le am hb a0 (List.mem_of_getElem? ha0)
  refine z_while (fun σ' H' => Same H1 H' ∧ ∃ (lo hi : Int) (u : Option V), σ' = [some (.ref p), some (.int (n : Int)), some (.ref a), some (.int lo), some (.int hi), u] ∧ 0 ≤ lo ∧ lo ≤ hi ∧ cntG hi ms ≤ n ∧ ∀ e', 0 ≤ e' → cntG e' ms ≤ n → lo ≤ e')
    (fun σ' H' => muI 4 σ' H' - muI 3 σ' H') ⟨fun _ _ e => e, 0, b - a0, _, rfl, Int.le_refl 0, by omega, by omega, fun e' h _ => h⟩ ?_
  rintro σ' H2 ⟨s2, lo, hi, u, rfl, l0, lh, ch, cl⟩
  walk_at "z"
  refine z_wb (fun c => ?_) (fun c => ?_)
  · walk_at "z"
    refine z_I (wide_div (b := 2) (by decide) (by decide) (by decide) (by decide)) ?_
    walk_at "z"
    generalize hm : (lo + hi) / 2 = mid
    refine ⟨a, ms, mid, rfl, s2 _ _ e1, by omega, fun g H3 ws f3 s3 e3 gg => ?_⟩
    have lw := gg.len
    walk_at "z"
    refine z_if (fun c2 => ?_) (fun c2 => ?_)
    · walk_at "z"
      refine ⟨⟨s2.trans s3, lo, mid, _, rfl, l0, by omega, by unfold cntG; omega, cl⟩, ?_⟩
      show mid.toNat - lo.toNat < hi.toNat - lo.toNat
      omega
    · walk_at "z"
      refine ⟨⟨s2.trans s3, mid + 1, hi, _, rfl, by omega, by omega, ch, fun e' h0 h' => ?_⟩, ?_⟩
      · rcases Int.lt_or_le mid e' with z | z
        · omega
        · have := cnt_mono z am
          unfold cntG at *
          omega
      · show hi.toNat - (mid + 1).toNat < hi.toNat - lo.toNat
        omega
  · walk_at "z"
    have : lo = hi := by omega
    subst this
    exact q lo ms H2 (s1.trans s2) am mm lm ⟨l0, ch, cl⟩
end

def mid (g : GP) : Int := (g.1 + g.2) / 2
theorem wd2 {a : Int} : CDivW a 2 := wide_div (b := 2) (by decide) (by decide) (by decide) (by decide)
def sp_group_value (K : PySem.W.Frag) : Sp := fun vs H Q _ => ∃ (v : V) (g : GP), vs = [v] ∧ Dp K H v (gD g) ∧ Q (.int (mid g)) H
section
theorem ok_group_value {P : Program} {w : World} {K : PySem.W.Frag} {mg : Str → Option Value} {base : Heap} {A : Nat → Addr} {D : Nat → FuncData} (T : Txt K mg A D) : FnOk P w K mg base (L2.CX P w) 1 (A 5) (D 5) ["group"] (sp_group_value K) := by
  refine T.F_group_value.okX sc_group_value (fun vs H Q E h => ?_) (fun cdv A' outer s H vs Q E hr h => ?_)
  · obtain ⟨v, g, rfl, _⟩ := h
    rfl
  obtain ⟨v, g, rfl, dv, q⟩ := h
  refine ⟨_, (pss_one (ps_ret (pe_op op_fdivW (pe_op op_add (pe_ix ix_tup (pv 0) pe_int (fun _ _ => rfl)) (pe_ix ix_tup (pv 0) pe_int (fun _ _ => rfl))) pe_int))), ?_⟩
  obtain ⟨p, rfl, hp⟩ := dp_g dv
  walk_at "z"
  refine z_I wd2 ?_
  exact q
end
/-- the groups of a table -/
def sp_table_groups (K : PySem.W.Frag) : Sp := fun vs H Q _ => ∃ (p : Addr) (ns : List Int) (n : Nat), vs = [.ref p, .int (n : Int)] ∧ H p = some (.lst (ns.map V.int)) ∧ ns.length ≤ 60 ∧ 1 ≤ n ∧
  ∀ a H' ws e ms, H a = none → Same H H' → H' a = some (.lst ws) → Asc ms → (∀ k, k ∈ ms ↔ k ∈ ns ∧ 0 < k) → ms.length ≤ ns.length → Tol ms n e → Gs K H' ws (grp e ms) → Q (.ref a) H'
section
theorem ok_table_groups {P : Program} {w : World} {K : PySem.W.Frag} {mg : Str → Option Value} {base : Heap} {A : Nat → Addr} {D : Nat → FuncData} (T : Txt K mg A D) : FnOk P w K mg base (L2.CX P w) 3 (A 4) (D 4) ["values", "limit"] (sp_table_groups K) := by
  refine T.F_table_groups.okX sc_table_groups (fun vs H Q E h => ?_) (fun cdv A' outer s H vs Q E hr h => ?_)
  · obtain ⟨p, ns, n, rfl, _⟩ := h
    rfl
  obtain ⟨p, ns, n, rfl, hp, hl, hn, q⟩ := h
  refine ⟨_, (pss_one (ps_ret (pe_call (ok_groups T) (hr.mono (by decide)) (by rfl) T.m_groups T.F_groups.kp T.b_groups .nil (passes_call (takes_of rfl rfl rfl rfl) (fun _ _ _ _ h => h)) (pa_cons (pv 0) (pa_cons (pe_call (ok_least_tolerance T) (hr.mono (by decide)) (by rfl) T.m_least_tolerance T.F_least_tolerance.kp T.b_least_tolerance .nil (passes_call (takes_of rfl rfl rfl rfl) (fun _ _ _ _ h => h)) (pa_cons (pv 0) (pa_cons (pv 1) pa_nil))) pa_nil))))), ?_⟩
  walk_at "z"
  refine ⟨p, ns, n, rfl, hp, hl, hn, fun e ms H1 s1 am mm lm T1 => ?_⟩
  walk_at "z"
  refine ⟨p, ns, e, rfl, s1 _ _ hp, hl, fun a H2 ws ms' f2 s2 h2 am' mm' _ g2 => ?_⟩
  have := asc_ext am am' (fun k => (mm k).trans (mm' k).symm)
  subst this
  exact q a H2 ws e ms (fresh_of s1 f2) (s1.trans s2) h2 am mm lm T1 g2
end
def sp_table : Sp := fun vs H Q _ => ∃ (p : Addr) (ns : List Int) (n : Nat), vs = [.ref p, .int (n : Int)] ∧ H p = some (.lst (ns.map V.int)) ∧ ns.length ≤ 60 ∧ 1 ≤ n ∧
  ∀ a H' e ms, H a = none → Same H H' → H' a = some (.lst ((0 :: (grp e ms).map mid).map V.int)) → Asc ms → (∀ k, k ∈ ms ↔ k ∈ ns ∧ 0 < k) → ms.length ≤ ns.length → Tol ms n e → Q (.ref a) H'
section
theorem ok_table {P : Program} {w : World} {K : PySem.W.Frag} {mg : Str → Option Value} {base : Heap} {A : Nat → Addr} {D : Nat → FuncData} (T : Txt K mg A D) : FnOk P w K mg base (L2.CX P w) 4 (A 6) (D 6) ["values", "limit"] (sp_table) := by
  refine T.F_table.okX sc_table (fun vs H Q E h => ?_) (fun cdv A' outer s H vs Q E hr h => ?_)
  · obtain ⟨p, ns, n, rfl, _⟩ := h
    rfl
  obtain ⟨p, ns, n, rfl, hp, hl, hn, q⟩ := h
  refine ⟨_, (pss_one (ps_ret (pe_op op_cat (pe_lst (pa_cons pe_int pa_nil)) (pe_lc (own := [("group", 2)]) (g := gName 2) (tt := tYes) rfl sc_table.nd (pi_list (pe_call (ok_table_groups T) (hr.mono (by decide)) (by rfl) T.m_table_groups T.F_table_groups.kp T.b_table_groups .nil (passes_call (takes_of rfl rfl rfl rfl) (fun _ _ _ _ h => h)) (pa_cons (pv 0) (pa_cons (pv 1) pa_nil)))) (blkOk_by (N := ["values", "limit", "group"]) (sc := defScope s_table) (by decide +kernel)) (fun _ _ _ _ _ => pg_name (i := 2) sc_table.nd rfl (Or.inl rfl)) (fun _ _ _ _ _ => pts_nil) (fun _ _ _ _ _ => (pe_call (ok_group_value T) (hr.mono (by decide)) (by rfl) T.m_group_value T.F_group_value.kp T.b_group_value .nil passL (pa_cons (pv 2) pa_nil))))))), ?_⟩
  walk_at "z"
  intro a1 H1 f1 s1 h1
  walk_at "z"
  refine z_lcE ?_
  walk_at "z"
  refine ⟨p, ns, n, rfl, s1 _ _ hp, hl, hn, fun a2 H2 ws e ms f2 s2 h2 am mm lm T2 g2 => ?_⟩
  have lw := g2.len
  have lc : (grp e ms).length ≤ 60 := by
    have := cnt_len (e := e) ms
    unfold cntG at this
    omega
  walk_at "z"
  refine z_lcLs (by omega) (.inl (.inl h2)) (fun _ => rfl) (fun i D acc H' => Same H2 H' ∧ H2 D = none ∧ acc = ((grp e ms).take i).map fun g => V.int (mid g)) (fun D H' f s _ => ⟨s, f, rfl⟩) (fun i D acc H' h => .inl (.inl (h.1 _ _ h2)))
    (fun i x D acc H' hx hl' hD ⟨s', fD, ea⟩ => ?_) (fun D acc H' fD hl' hD ⟨s', _, ea⟩ => ?_)
  · obtain ⟨z, hz, dz⟩ := (g2.mono s').getv hx
    walk_at "z"
    refine ⟨_, z, rfl, dz, ?_⟩
    refine z_lcB hD hl' (by have := (List.getElem?_eq_some_iff.mp hz).1; omega) fun H4 hD4 k4 e4 => ⟨fun b o h => ?_, fD, ?_⟩
    · rw [e4 b (ne_of_none h fD)]
      exact s' _ _ h
    · rw [ea, List.take_add_one, hz, List.map_append]
      rfl
  · rw [ea, lw, List.take_length] at hD
    walk_at "z"
    refine z_cat ((s2.trans s') _ _ h1) hD (by simp only [List.length_map, List.length_cons, List.length_nil]; omega) fun b H4 f4 s4 h4 => ?_
    refine q b H4 e ms (fresh_of ((s1.trans s2).trans s') f4) (((s1.trans s2).trans s').trans s4) ?_ am mm lm T2
    rw [h4, List.map_cons, List.map_map]
    rfl
end
def sp_table_value : Sp := fun vs H Q _ => ∃ (p : Addr) (ns : List Int) (n : Nat) (v : Int), vs = [.ref p, .int (n : Int), .int v] ∧ H p = some (.lst (ns.map V.int)) ∧ ns.length ≤ 60 ∧ 1 ≤ n ∧
  ∀ t H' e ms, Same H H' → Asc ms → (∀ k, k ∈ ms ↔ k ∈ ns ∧ 0 < k) → Tol ms n e → ((∃ g ∈ grp e ms, g.1 ≤ v ∧ v ≤ g.2 ∧ t = mid g) ∨ ((∀ g ∈ grp e ms, ¬ (g.1 ≤ v ∧ v ≤ g.2)) ∧ t = 0)) → Q (.int t) H'
section
theorem ok_table_value {P : Program} {w : World} {K : PySem.W.Frag} {mg : Str → Option Value} {base : Heap} {A : Nat → Addr} {D : Nat → FuncData} (T : Txt K mg A D) : FnOk P w K mg base (L2.CX P w) 4 (A 7) (D 7) ["values", "limit", "value"] (sp_table_value) := by
  refine T.F_table_value.okX sc_table_value (fun vs H Q E h => ?_) (fun cdv A' outer s H vs Q E hr h => ?_)
  · obtain ⟨p, ns, n, v, rfl, _⟩ := h
    rfl
  obtain ⟨p, ns, n, v, rfl, hp, hl, hn, q⟩ := h
  refine ⟨_, (pss_cons (ps_for (passes_of rfl) rfl (pi_list (pe_call (ok_table_groups T) (hr.mono (by decide)) (by rfl) T.m_table_groups T.F_table_groups.kp T.b_table_groups .nil (passes_call (takes_of rfl rfl rfl rfl) (fun _ _ _ _ h => h)) (pa_cons (pv 0) (pa_cons (pv 1) pa_nil)))) (pg_name (i := 3) sc_table_value.nd rfl (.inl rfl))
  (pss_one (ps_if (pt_chain op_le op_le (pe_ix ix_tup (pv 3) pe_int (fun _ _ => rfl)) (pv 2) (pe_ix ix_tup (pv 3) pe_int (fun _ _ => rfl)))
  (pss_one (ps_ret (pe_call (ok_group_value T) (hr.mono (by decide)) (by rfl) T.m_group_value T.F_group_value.kp T.b_group_value .nil (passes_call (takes_of rfl rfl rfl rfl) (fun _ _ _ _ h => h)) (pa_cons (pv 3) pa_nil))))
  pss_nil)))
  (pss_one (ps_ret pe_int))), ?_⟩
  walk_at "z"
  refine z_forE ?_
  walk_at "z"
  refine ⟨p, ns, n, rfl, hp, hl, hn, fun a2 H2 ws e ms f2 s2 h2 am mm lm T2 g2 => ?_⟩
  unfold ForL
  have lw := g2.len
  refine z_forL (fun R q => q) (.inl (.inl h2)) (fun i σ' H' => H' = H2 ∧ (∃ u, σ' = [some (.ref p), some (.int (n : Int)), some (.int v), u]) ∧ ∀ g ∈ (grp e ms).take i, ¬ (g.1 ≤ v ∧ v ≤ g.2)) ⟨rfl, ⟨_, rfl⟩, fun g hg => by cases hg⟩ (fun i σ' H' _ h => by rw [h.1]; exact .inl (.inl h2)) ?_ ?_
  · rintro i x σ' H' hx ⟨rfl, ⟨u, rfl⟩, no⟩
    obtain ⟨z, hz, dz⟩ := g2.getv hx
    obtain ⟨tz, rfl, hzt⟩ := dp_g dz
    have mz := List.mem_of_getElem? hz
    have next : ¬ (z.1 ≤ v ∧ v ≤ z.2) → ∀ g ∈ (grp e ms).take (i + 1), ¬ (g.1 ≤ v ∧ v ≤ g.2) := fun c g hg => by
      rw [List.take_add_one, hz] at hg
      rcases List.mem_append.mp hg with h | h
      · exact no g h
      · cases List.mem_singleton.mp h
        exact c
    walk_at "z"
    refine z_if (fun c1 => ?_) (fun c1 => ?_)
    · walk_at "z"
      refine z_if (fun c2 => ?_) (fun c2 => ?_)
      · walk_at "z"
        refine ⟨_, z, rfl, dz, ?_⟩
        exact q _ _ e ms s2 am mm T2 (.inl ⟨z, mz, c1, c2, rfl⟩)
      · walk_at "z"
        exact ⟨rfl, ⟨_, rfl⟩, next fun h => c2 h.2⟩
    · walk_at "z"
      exact ⟨rfl, ⟨_, rfl⟩, next fun h => c1 h.1⟩
  · rintro σ' H' ⟨rfl, ⟨u, rfl⟩, no⟩
    rw [lw, List.take_length] at no
    walk_at "z"
    exact q 0 _ e ms s2 am mm T2 (.inr ⟨no, rfl⟩)
end
/-- the differences that the law looks at -/
def Difs (r : List Int) (i : Nat) (ds : List Int) : Prop := (0 : Int) ∈ ds ∧ (∀ d ∈ ds, 0 ≤ d) ∧ ∀ k x y, k < i → r[k]? = some y → x ∈ r.drop k → x - y ∈ ds
def sp__law_tolerance : Sp := fun vs H Q _ => ∃ (a : Addr) (r : List Int) (n : Nat), vs = [.ref a, .int (n : Int)] ∧ H a = some (.lst (r.map V.int)) ∧ Asc r ∧ r.length ≤ 24 ∧ 1 ≤ n ∧ ∀ e H', Same H H' → Tol r n e → Q (.int e) H'
section
theorem ok__law_tolerance {P : Program} {w : World} {K : PySem.W.Frag} {mg : Str → Option Value} {base : Heap} {A : Nat → Addr} {D : Nat → FuncData} (T : Txt K mg A D) : FnOk P w K mg base (L2.CX P w) 2 (A 15) (D 15) ["rest", "limit"] (sp__law_tolerance) := by
  refine T.F__law_tolerance.okX sc__law_tolerance (fun vs H Q E h => ?_) (fun cdv A' outer s H vs Q E hr h => ?_)
  · obtain ⟨a, r, n, rfl, _⟩ := h
    rfl
  obtain ⟨a, r, n, rfl, ha, asc, lr, hn, q⟩ := h
  refine ⟨_, (pss_cons (ps_set (i := 2) sc__law_tolerance.nd rfl (.inl rfl) (pe_lst (pa_cons pe_int pa_nil)))
  (pss_cons (ps_for (passes_of rfl) rfl (pi_range1 (by rfl) T.z_range (pa_cons (pe_callB Z.c_len (by rfl) T.z_len (by decide +kernel) (pa_cons (pv 0) pa_nil)) pa_nil)) (pg_name (i := 3) sc__law_tolerance.nd rfl (.inr rfl))
  (pss_one (ps_set (i := 2) sc__law_tolerance.nd rfl (.inl rfl) (pe_op op_cat (pv 2) (pe_lc (own := [("value", 4)]) (g := gName 4) (tt := tYes) rfl sc__law_tolerance.nd (pi_list (pe_slice sl_list (pv 0) (po_some (pv 3)) po_none)) (blkOk_by (N := ["rest", "limit", "differences", "k", "value", "e"]) (sc := defScope s__law_tolerance) (by decide +kernel)) (fun _ _ _ _ _ => pg_name (i := 4) sc__law_tolerance.nd rfl (Or.inl rfl)) (fun _ _ _ _ _ => pts_nil) (fun _ _ _ _ _ => (pe_op op_sub (pv 4) (pe_ix (show IxR _ (rIxL K) from ix_list) (pv 0) (pv 3) (fun _ _ => rfl)))))))))
  (pss_cons (ps_for (passes_of rfl) rfl (pi_list (pe_callB cr_sortedI (by rfl) T.z_sorted (by decide +kernel) (pa_cons (pv 2) pa_nil))) (pg_name (i := 5) sc__law_tolerance.nd rfl (.inl rfl))
  (pss_one (ps_if (pt_cmpR op_le (pe_callB Z.c_len (by rfl) T.z_len (by decide +kernel) (pa_cons (pe_call (ok__law_greedy T) (hr.mono (by decide)) (by rfl) T.m__law_greedy T.F__law_greedy.kp T.b__law_greedy .nil (passes_call (takes_of rfl rfl rfl rfl) (fun _ _ _ _ h => h)) (pa_cons (pv 0) (pa_cons (pv 5) pa_nil))) pa_nil)) (pv 1) (nomark _))
  (pss_one (ps_ret (pv 5)))
  pss_nil)))
  (pss_one (ps_ret pe_int))))), ?_⟩
  walk_at "z"
  intro d1 H1 f1 s1 h1
  walk_at "z"
  refine z_forR1 r.length (by omega) (fun R q => by
    walk_at "z"
    refine z_lenL (.inl (.inl (s1 _ _ ha))) ?_
    walk_at "z"
    rw [List.length_map]
    exact q) (fun i σ' H' => Same H H' ∧ ∃ (d : Addr) (ds : List Int) (u3 : Option V), σ' = [some (.ref a), some (.int (n : Int)), some (.ref d), u3, none, none] ∧ H' d = some (.lst (ds.map V.int)) ∧ Difs r i ds ∧ ds.length ≤ 1 + 24 * i)
    ⟨s1, d1, [0], _, rfl, h1, ⟨.head _, fun d hd => (by rw [List.mem_singleton.mp hd]; omega), fun k x y h => (by omega)⟩, Nat.le_refl 1⟩ ?_ ?_
  · rintro i σ' H2 hi ⟨s2, d, ds, u3, rfl, hd, ⟨D0, D1, D2⟩, ld⟩
    obtain ⟨y, hy⟩ : ∃ z, r[i]? = some z := ⟨_, List.getElem?_eq_getElem hi⟩
    walk_at "z"
    refine z_lcE ?_
    walk_at "z"
    refine ⟨_, rfl, ?_⟩
    walk_at "z"
    refine z_slL (.inl (.inl (s2 _ _ ha))) (ys := (r.drop i).map V.int) (by rw [cut_from (by rw [List.length_map]; omega), List.map_drop]) fun b H3 f3 s3 h3 => ?_
    have ha3 := s3 _ _ (s2 _ _ ha)
    refine z_lcS (((r.drop i).map fun x => x - y).map V.int) (by simp only [List.length_map]) (by rw [List.length_map, List.length_drop]; omega) h3 (fun _ => rfl) (fun j x w' H' hx hw s' R q => ?_) fun D H4 f4 s4 h4 => ?_
    · rw [List.map_map, List.getElem?_map] at hw
      rw [List.getElem?_map] at hx
      cases z : (r.drop i)[j]? with
      | none => rw [z] at hw; cases hw
      | some t =>
        rw [z] at hw hx
        cases hw
        cases hx
        walk_at "z"
        refine z_ixL (.inl (.inl (s' _ _ ha3))) (v := .int y) (atI_nat (by rw [List.getElem?_map, hy]; rfl)) ?_
        walk_at "z"
        exact q
    have s24 := s3.trans s4
    refine z_cat (s24 _ _ hd) h4 (by simp only [List.length_map, List.length_drop]; omega) fun c H5 f5 s5 h5 => ?_
    refine ⟨(s2.trans s24).trans s5, c, ds ++ (r.drop i).map (fun x => x - y), _, rfl, by rw [h5, List.map_append], ⟨List.mem_append.mpr (.inl D0), fun z hz => ?_, fun k x z hk hz hx => ?_⟩, by simp only [List.length_append, List.length_map, List.length_drop]; omega⟩
    · rcases List.mem_append.mp hz with h | h
      · exact D1 z h
      · obtain ⟨x, hx, rfl⟩ := List.mem_map.mp h
        have : y ≤ x := by
          have e : r.drop i = y :: r.drop (i + 1) := by
            obtain ⟨ii, e⟩ := List.getElem?_eq_some_iff.mp hy
            rw [List.drop_eq_getElem_cons ii, e]
          rw [e] at hx
          have pw := asc.sublist (List.drop_sublist i r)
          rw [e] at pw
          rcases List.mem_cons.mp hx with rfl | m
          · exact Int.le_refl _
          · exact asc_h pw x m
        omega
    · rcases Nat.lt_or_ge k i with h | h
      · exact List.mem_append.mpr (.inl (D2 k x z h hz hx))
      · have : k = i := by omega
        subst this
        rw [hy] at hz
        cases hz
        exact List.mem_append.mpr (.inr (List.mem_map.mpr ⟨x, hx, rfl⟩))
  rintro σ' H2 ⟨s2, d, ds, u3, rfl, hd, ⟨D0, D1, D2⟩, ld⟩
  -- every difference of two values
  have all : ∀ x ∈ r, ∀ y ∈ r, y ≤ x → x - y ∈ ds := fun x hx y hy l => by
    obtain ⟨k, hk⟩ := List.mem_iff_getElem?.mp hy
    have hkl := (List.getElem?_eq_some_iff.mp hk).1
    refine D2 k x y hkl hk ?_
    obtain ⟨j, hj⟩ := List.mem_iff_getElem?.mp hx
    have hjk : k ≤ j := by
      rcases Nat.lt_or_ge j k with h | h
      · obtain ⟨jj, e1⟩ := List.getElem?_eq_some_iff.mp hj
        obtain ⟨kk, e2⟩ := List.getElem?_eq_some_iff.mp hk
        have := (List.pairwise_iff_getElem.mp asc) j k jj kk h
        omega
      · exact h
    refine List.mem_iff_getElem?.mpr ⟨j - k, ?_⟩
    rw [List.getElem?_drop, show k + (j - k) = j by omega]
    exact hj
  walk_at "z"
  refine z_forE ?_
  walk_at "z"
  refine z_sortedI hd fun ms b H3 pm pw f3 s3 h3 => ?_
  have ha3 := s3 _ _ (s2 _ _ ha)
  unfold ForL
  refine z_forL (fun R q => q) (.inl (.inl h3)) (fun i σ' H' => Same H3 H' ∧ (∃ u5, σ' = [some (.ref a), some (.int (n : Int)), some (.ref d), u3, none, u5]) ∧ ∀ j x, j < i → ms[j]? = some x → n < cntG x r) ⟨fun _ _ e => e, ⟨_, rfl⟩, fun j x h => by omega⟩ (fun i σ' H' _ h => .inl (.inl (h.1 _ _ h3))) ?_ ?_
  · rintro i x σ' H4 hx ⟨s4, ⟨u5, rfl⟩, no⟩
    rw [List.getElem?_map] at hx
    cases hj : ms[i]? with
    | none => rw [hj] at hx; cases hx
    | some e =>
    rw [hj] at hx
    cases hx
    have e0 := D1 e (pm.mem_iff.mp (List.mem_of_getElem? hj))
    walk_at "z"
    refine ⟨a, r, e, rfl, s4 _ _ ha3, by omega, fun g H5 ws f5 s5 h5 gg => ?_⟩
    have lw : ws.length = cntG e r := gg.len
    walk_at "z"
    refine z_if (fun c => ?_) (fun c => ?_)
    · walk_at "z"
      refine q e H5 (((s2.trans s3).trans s4).trans s5) ⟨e0, by omega, fun e' h0 h' => ?_⟩
      obtain ⟨d', l1, l2, l3⟩ := tol_diff asc h0 h'
      have md : d' ∈ ds := by
        rcases l3 with rfl | ⟨x, hx, y, hy, l, rfl⟩
        · exact D0
        · exact all x hx y hy l
      obtain ⟨j, hj2⟩ := List.mem_iff_getElem?.mp (pm.mem_iff.mpr md)
      rcases Nat.lt_or_ge j i with h | h
      · have := no j d' h hj2
        omega
      · obtain ⟨ii, e1⟩ := List.getElem?_eq_some_iff.mp hj
        obtain ⟨jj, e2⟩ := List.getElem?_eq_some_iff.mp hj2
        rcases Nat.lt_or_ge i j with h' | h'
        · have := (List.pairwise_iff_getElem.mp pw) i j ii jj h'
          omega
        · have : i = j := by omega
          subst this
          omega
    · walk_at "z"
      refine ⟨s4.trans s5, ⟨_, rfl⟩, fun j x hj' hx => ?_⟩
      rcases Nat.lt_or_ge j i with h | h
      · exact no j x h hx
      · have : j = i := by omega
        subst this
        rw [hj] at hx
        cases hx
        omega
  · rintro σ' H4 ⟨s4, ⟨u5, rfl⟩, no⟩
    -- some difference is enough
    exfalso
    rw [List.length_map] at no
    have md : ∃ e ∈ ds, cntG e r ≤ n := by
      cases r with
      | nil => exact ⟨0, D0, Nat.zero_le _⟩
      | cons y r =>
        obtain ⟨b, hb⟩ : ∃ z, (y :: r)[(y :: r).length - 1]? = some z := ⟨_, List.getElem?_eq_getElem (by simp)⟩
        have := cnt_all asc rfl hb
        exact ⟨b - y, all b (List.mem_of_getElem? hb) y (.head _) (asc_le asc hb y (.head _)), by omega⟩
    obtain ⟨e, me, he⟩ := md
    obtain ⟨j, hj⟩ := List.mem_iff_getElem?.mp (pm.mem_iff.mpr me)
    have := no j e (List.getElem?_eq_some_iff.mp hj).1 hj
    omega
end
theorem mem_mids {zs : List GP} {g : GP} (h : g ∈ zs) : mid g ∈ 0 :: zs.map mid := .tail _ (List.mem_map.mpr ⟨g, h, rfl⟩)
def sp_law (K : PySem.W.Frag) : Sp := fun vs H Q _ => ∃ (a : Addr) (ns : List Int), vs = [.ref a] ∧ SqL K H a (ns.map V.int) ∧ ns.length ≤ 63 ∧ ∀ H', Q (.bl true) H'
section
theorem ok_law {P : Program} {w : World} {K : PySem.W.Frag} {mg : Str → Option Value} {base : Heap} {A : Nat → Addr} {D : Nat → FuncData} (T : Txt K mg A D) : FnOk P w K mg base CX0 5 (A 16) (D 16) ["script"] (sp_law K) := by
  refine T.F_law.ok sc_law (fun vs H Q E h => ?_) (fun cdv A' outer s H vs Q E hr h => ?_)
  · obtain ⟨l, ns, rfl, _⟩ := h
    rfl
  obtain ⟨l, ns, rfl, hS, _, q⟩ := h
  refine ⟨_, (pss_cons (ps_set (i := 1) sc_law.nd rfl (.inl rfl) (pe_call (ok__law_stream T) (hr.mono (by decide)) (by rfl) T.m__law_stream T.F__law_stream.kp T.b__law_stream .nil passL (pa_cons (pe_call (ok__law_cell T) (hr.mono (by decide)) (by rfl) T.m__law_cell T.F__law_cell.kp T.b__law_cell .nil passL (pa_cons (pv 0) (pa_cons pe_int pa_nil))) pa_nil)))
  (pss_cons (ps_set (i := 2) sc_law.nd rfl (.inl rfl) (pe_call (ok__law_values T) (hr.mono (by decide)) (by rfl) T.m__law_values T.F__law_values.kp T.b__law_values .nil passL (pa_cons (pv 1) pa_nil)))
  (pss_cons (ps_set (i := 3) sc_law.nd rfl (.inl rfl) (pe_op op_add (pe_call (ok__law_next T) (hr.mono (by decide)) (by rfl) T.m__law_next T.F__law_next.kp T.b__law_next .nil passL (pa_cons (pv 1) (pa_cons pe_int pa_nil))) pe_int))
  (pss_cons (ps_set (i := 4) sc_law.nd rfl (.inl rfl) (pe_call (ok__law_ascending T) (hr.mono (by decide)) (by rfl) T.m__law_ascending T.F__law_ascending.kp T.b__law_ascending .nil passL (pa_cons (pv 2) pa_nil)))
  (pss_cons (ps_set (i := 5) sc_law.nd rfl (.inl rfl) (pe_call (ok__law_tolerance T) (hr.mono (by decide)) (by rfl) T.m__law_tolerance T.F__law_tolerance.kp T.b__law_tolerance .nil passL (pa_cons (pv 4) (pa_cons (pv 3) pa_nil))))
  (pss_cons (ps_setLc (i := 6) (own := [("least", 7), ("greatest", 8)]) (g := gTup K 2 (gCons (gName 7) (gCons (gName 8) gNil))) (tt := tYes) rfl sc_law.nd rfl rfl (sw_true rfl rfl rfl (by decide +kernel)) (pi_list (pe_call (ok__law_greedy T) (hr.mono (by decide)) (by rfl) T.m__law_greedy T.F__law_greedy.kp T.b__law_greedy .nil passL (pa_cons (pv 4) (pa_cons (pv 5) pa_nil)))) (blkOk_by (N := ["script", "stream", "values", "limit", "rest", "tolerance", "middles", "least", "greatest", "handed", "actual", "value", "told"]) (sc := defScope s_law) (by decide +kernel)) (fun _ _ _ _ _ => pg_tup (by rfl) (pgs_cons (pg_name (i := 7) sc_law.nd rfl (Or.inl rfl)) (pgs_cons (pg_name (i := 8) sc_law.nd rfl (Or.inl rfl)) pgs_nil))) (fun _ _ _ _ _ => pts_nil) (fun _ _ _ _ _ => (pe_op op_fdivW (pe_op op_add (pv 7) (pv 8)) pe_int)))
  (pss_cons (ps_set (i := 9) sc_law.nd rfl (.inl rfl) (pe_callTy Z.c_listOf (by rfl) T.z_list (by decide +kernel) (pa_cons (pv 2) pa_nil)))
  (pss_cons (ps_set (i := 10) sc_law.nd rfl (.inl rfl) (pe_call (ok_table T) (hr.mono (by decide)) (by rfl) T.m_table T.F_table.kp T.b_table .nil passL (pa_cons (pv 9) (pa_cons (pv 3) pa_nil))))
  (pss_cons (ps_if (PW.pt (pw_or (pt_not (pt_val (pe_callB call_isi (by rfl) T.z_isinstance (by decide +kernel) (pa_cons (pv 10) (pa_cons (pe_bltn (v := .ty "list") (by rfl) T.z_list (by decide +kernel) rfl) pa_nil))))) (pw_or (pt_cmpR (op_neD hr.units) (pv 10) (pe_op op_cat (pe_lst (pa_cons pe_int pa_nil)) (pv 6)) (nomark _)) (pw_or1 (pt_cmpR (op_neD hr.units) (pv 9) (pv 2) (nomark _))))))
  (pss_one (ps_ret pe_bl))
  pss_nil)
  (pss_cons (ps_for PassesOwn.never rfl (pi_list (pe_op op_cat (pv 2) (pe_lst (pa_cons pe_int pa_nil)))) (pg_name (i := 11) sc_law.nd rfl (.inl rfl))
  (pss_cons (ps_set (i := 12) sc_law.nd rfl (.inl rfl) (pe_call (ok_table_value T) (hr.mono (by decide)) (by rfl) T.m_table_value T.F_table_value.kp T.b_table_value .nil passL (pa_cons (pv 9) (pa_cons (pv 3) (pa_cons (pv 11) pa_nil)))))
  (pss_cons (ps_if (PW.pt (pw_or (pt_not (pt_val (pe_call (ok__law_is_integer T) (hr.mono (by decide)) (by rfl) T.m__law_is_integer T.F__law_is_integer.kp T.b__law_is_integer .nil passL (pa_cons (pv 12) pa_nil)))) (pw_or1 (pt_cmpR op_notIn_seq (pv 12) (pv 10) (by rfl)))))
  (pss_one (ps_ret pe_bl))
  pss_nil)
  (pss_cons (ps_if (PW.pt (pw_or (PW.pt (pw_and (pt_cmpR op_eq (pv 11) pe_int (nomark _)) (pw_and1 (pt_cmpR op_ne (pv 12) pe_int (nomark _))))) (pw_or1 (PW.pt (pw_and (pt_cmpR op_gt (pv 11) pe_int (nomark _)) (pw_and (pt_cmpR op_eq (pv 12) pe_int (nomark _)) (pw_and1 (pt_cmpR op_notIn_seq pe_int (pv 6) (by rfl)))))))))
  (pss_one (ps_ret pe_bl))
  pss_nil)
  (pss_cons (ps_if (pt_cmpR op_gt (pe_callB Z.c_abs (by rfl) T.z_abs (by decide +kernel) (pa_cons (pe_op op_sub (pv 12) (pv 11)) pa_nil)) (pe_op op_fdivW (pe_op op_add (pv 5) pe_int) pe_int) (nomark _))
  (pss_one (ps_ret pe_bl))
  pss_nil)
  (pss_one (ps_for PassesOwn.never rfl (pi_list (pe_call (ok__law_greedy T) (hr.mono (by decide)) (by rfl) T.m__law_greedy T.F__law_greedy.kp T.b__law_greedy .nil passL (pa_cons (pv 4) (pa_cons (pv 5) pa_nil)))) (pg_tup (by rfl) (pgs_cons (pg_name (i := 7) sc_law.nd rfl (.inl rfl)) (pgs_cons (pg_name (i := 8) sc_law.nd rfl (.inl rfl)) pgs_nil)))
  (pss_one (ps_if (PW.pt (pw_and (pt_cmpR op_le (pv 7) (pv 11) (nomark _)) (pw_and (pt_cmpR op_le (pv 11) (pv 8) (nomark _)) (pw_and1 (pt_cmpR op_ne (pv 12) (pe_op op_fdivW (pe_op op_add (pv 7) (pv 8)) pe_int) (nomark _))))))
  (pss_one (ps_ret pe_bl))
  pss_nil)))))))))
  (pss_one (ps_ret (pe_cmpR (op_eqD hr.units) (pv 9) (pv 2) (nomark _)))))))))))))), ?_⟩
  walk_at "z"
  refine ⟨l, ns, 0, rfl, hS, fun v => ?_⟩
  walk_at "z"
  refine ⟨v, rfl, fun p H1 i1 j1 m hp s1 h1 => ?_⟩
  have S1 := Sd.mk0 hp s1 h1
  walk_at "z"
  refine ⟨p, H, rfl, S1, fun a H2 vs f2 ne2 S2 k2 h2 lv bv => ?_⟩
  walk_at "z"
  refine nx S2 (by decide) (lt1000 (by decide)) fun n0 H3 n00 n01 S3 e3 => ?_
  have h3 := (e3 a ne2).trans h2
  obtain ⟨n, hn⟩ : ∃ n : Nat, n0 + 1 = (n : Int) := ⟨(n0 + 1).toNat, by omega⟩
  walk_at "z"
  rw [hn]
  have n1 : 1 ≤ n := by omega
  have n9 : n ≤ 9 := by omega
  clear hn n00 n01
  refine ⟨a, vs, rfl, h3, by omega, fun r H4 ms f4 s4 h4 am mm lm => ?_⟩
  have h24 := s4 _ _ h3
  clear h3 e3 S3 S2 k2 h2 S1 s1 h1
  walk_at "z"
  refine ⟨r, ms, n, rfl, h4, am, by omega, n1, fun e H5 s5 T5 => ?_⟩
  have h25 := s5 _ _ h24
  have h45 := s5 _ _ h4
  walk_at "z"
  refine z_lcE ?_
  walk_at "z"
  refine ⟨r, ms, e, rfl, h45, by omega, fun c H6 ws f6 s6 h6 g6 => ?_⟩
  have lw := g6.len
  have lc : (grp e ms).length ≤ 24 := by
    have := cnt_len (e := e) ms
    unfold cntG at this
    omega
  refine z_lcG (by omega) (.inl (.inl h6)) (fun i D acc H' => Same H6 H' ∧ H6 D = none ∧ acc = ((grp e ms).take i).map fun g => V.int (mid g)) (fun D H' f s _ => ⟨s, f, rfl⟩) (fun i D acc H' h => .inl (.inl (h.1 _ _ h6)))
    (fun i x D acc H' hx hl' hD ⟨s', fD, ea⟩ => ?_) (fun mi acc H7 f7 hl' h7 ⟨s7, _, ea⟩ => ?_)
  · obtain ⟨z, hz, dz⟩ := (g6.mono s').getv hx
    obtain ⟨tz, rfl, hzt⟩ := dp_g dz
    walk_at "z"
    refine ⟨rfl, ?_⟩
    walk_at "z"
    refine z_I wd2 ?_
    refine z_lcB hD hl' (by have := (List.getElem?_eq_some_iff.mp hz).1; omega) fun H4 hD4 k4 e4 => ⟨fun b o h => ?_, fD, ?_⟩
    · rw [e4 b (ne_of_none h fD)]
      exact s' _ _ h
    · rw [ea, List.take_add_one, hz, List.map_append]
      rfl
  have em : acc = ((grp e ms).map mid).map V.int := by
    rw [ea, lw, List.take_length, List.map_map]
    rfl
  rw [em] at h7
  have s57 := s6.trans s7
  have h27 := s57 _ _ h25
  have h47 := s57 _ _ h45
  clear em ea hl' h6 g6 lw s6 s7 f6 f7 h25 h45 s5 h24 h4 s4 f4 s57
  walk_at "z"
  refine z_listOf (.inl (.inl h27)) fun b H8 f8 s8 h8 => ?_
  walk_at "z"
  refine ⟨b, vs, n, rfl, h8, by omega, n1, fun t H9 e' ms' f9 s9 h9 am' mm' _ T9 => ?_⟩
  have := asc_ext am am' (fun k => (mm k).trans (mm' k).symm)
  subst this
  have := T5.one T9
  subst this
  walk_at "z"
  intro c1 H10 f10 s10 h10
  have s710 := (s8.trans s9).trans s10
  walk_at "z"
  refine z_cat h10 (s710 _ _ h7) (by simp only [List.length_map, List.length_cons, List.length_nil]; omega) fun c2 H11 f11 s11 h11 => ?_
  rw [show [V.int 0] ++ ((grp e ms).map mid).map V.int = (0 :: (grp e ms).map mid).map V.int from rfl] at h11
  have h911 := s11 _ _ (s10 _ _ h9)
  have s711 := s710.trans s11
  have h2B := s711 _ _ h27
  have h4B := s711 _ _ h47
  have h7B := s711 _ _ h7
  have h8B := s11 _ _ (s10 _ _ (s9 _ _ h8))
  refine z_neInts h911 h11 ?_
  walk_at "z"
  refine z_if (fun c => absurd (show (0 :: (grp e ms).map mid) = (0 :: (grp e ms).map mid) from rfl) c) (fun _ => ?_)
  walk_at "z"
  refine z_neInts h8B h2B ?_
  walk_at "z"
  refine z_if (fun c => absurd (show vs = vs from rfl) c) (fun _ => ?_)
  clear s711 s710 h11 f11 s11 h10 s10 f10 h9 s9 f9 h8 s8 f8 h7 h27 h47 am' mm' T9
  walk_at "z"
  refine z_forE ?_
  walk_at "z"
  intro c3 H12 f12 s12 h12
  refine z_cat (s12 _ _ h2B) h12 (by simp only [List.length_map, List.length_cons, List.length_nil]; omega) fun c4 H13 f13 s13 h13 => ?_
  have s1113 := s12.trans s13
  have h2D := s1113 _ _ h2B
  have h4D := s1113 _ _ h4B
  have h7D := s1113 _ _ h7B
  have h8D := s1113 _ _ h8B
  have h9D := s1113 _ _ h911
  clear s1113 h12 s12 f12 s13 f13 h2B h4B h7B h8B h911 f2 hS
  unfold ForL
  rw [show vs.map V.int ++ [V.int 0] = (vs ++ [0]).map V.int by rw [List.map_append]; rfl] at h13
  refine z_forL (fun R q => q) (.inl (.inl h13)) (fun i σ' H' => Same H13 H' ∧ ∃ u9 u10 u11 u12, σ' = [some (.ref l), some (.ref p), some (.ref a), some (.int (n : Int)), some (.ref r), some (.int e), some (.ref mi), u9, u10, some (.ref b), some (.ref t), u11, u12]) ⟨fun _ _ e => e, _, _, _, _, rfl⟩ (fun i σ' H' _ h => .inl (.inl (h.1 _ _ h13))) ?_ ?_
  · rintro i x σ' H14 hx ⟨s14, u9, u10, u11, u12, rfl⟩
    obtain ⟨w, hw, rfl⟩ := List.mem_map.mp (List.mem_of_getElem? hx)
    have hw : w ∈ vs ∨ w = 0 := by
      rcases List.mem_append.mp hw with h | h
      · exact .inl h
      · exact .inr (List.mem_singleton.mp h)
    have w0 : 0 ≤ w := by
      rcases hw with h | rfl
      · exact (bv w h).1
      · exact Int.le_refl _
    walk_at "z"
    refine ⟨b, vs, n, w, rfl, s14 _ _ h8D, by omega, n1, fun tv H15 e' ms' s15 am' mm' T15 ht => ?_⟩
    have := asc_ext am am' (fun k => (mm k).trans (mm' k).symm)
    subst this
    have := T5.one T15
    subst this
    have s1415 := s14.trans s15
    have gok := grp_ok T5.1 am
    have tm : tv ∈ 0 :: (grp e ms).map mid := by
      rcases ht with ⟨g, hg, _, _, rfl⟩ | ⟨_, rfl⟩
      · exact mem_mids hg
      · exact .head _
    walk_at "z"
    refine z_notInI (s1415 _ _ h9D) ?_
    walk_at "z"
    refine z_if (fun c => absurd tm c) (fun _ => ?_)
    walk_at "z1"
    walk_at "z1"
    -- what is known of the table value
    have know : (w = 0 ∧ tv = 0) ∨ (0 < w ∧ ∃ g ∈ grp e ms, g.1 ≤ w ∧ w ≤ g.2 ∧ tv = mid g) := by
      rcases ht with ⟨g, hg, g1, g2, g3⟩ | ⟨no, h0⟩
      · have := ((mm g.1).mp (gok g hg).1).2
        exact .inr ⟨by omega, g, hg, g1, g2, g3⟩
      · rcases hw with h | h
        · rcases Int.lt_or_le 0 w with z | z
          · obtain ⟨g, hg, g1⟩ := grp_cov (e := e) am w ((mm w).mpr ⟨h, z⟩)
            exact absurd g1 (no g hg)
          · exact .inl ⟨by omega, h0⟩
        · exact .inl ⟨h, h0⟩
    refine z_skip (fun R h => ?_) ?_
    · walk_at "z"
      rcases know with ⟨k1, k2⟩ | ⟨k1, g, hg, _, _, k2⟩
      · refine z_if (fun _ => ?_) (fun c => absurd k1 c)
        walk_at "z"
        refine z_if (fun c => absurd k2 c) (fun _ => ?_)
        walk_at "z"
        refine z_if (fun c => absurd c (by omega)) (fun _ => ?_)
        exact h
      · refine z_if (fun c => absurd c (by omega)) (fun _ => ?_)
        walk_at "z"
        refine z_if (fun _ => ?_) (fun c => absurd k1 c)
        walk_at "z"
        refine z_if (fun c => ?_) (fun _ => h)
        walk_at "z"
        refine z_notInI (s1415 _ _ h7D) ?_
        walk_at "z"
        rw [decide_eq_false (fun z : ¬ (0 : Int) ∈ (grp e ms).map mid => z (List.mem_map.mpr ⟨g, hg, by omega⟩))]
        exact h
    walk_at "z"
    refine z_I wd2 ?_
    walk_at "z"
    refine z_if (fun c => ?_) (fun _ => ?_)
    · exfalso
      have e0 := T5.1
      rcases know with ⟨k1, k2⟩ | ⟨k1, g, hg, g1, g2, k2⟩
      · subst k1
        subst k2
        revert c
        split <;> omega
      · have := (gok g hg).2.2.2
        unfold mid at k2
        revert c
        split <;> omega
    walk_at "z"
    refine z_forE ?_
    walk_at "z"
    refine ⟨r, ms, e, rfl, s1415 _ _ h4D, by omega, fun c16 H16 ws f16 s16 h16 g16 => ?_⟩
    have s1416 := s1415.trans s16
    unfold ForL
    have lw := g16.len
    refine z_forL (fun R q => q) (.inl (.inl h16)) (fun i σ' H' => Same H16 H' ∧ ∃ u9 u10, σ' = [some (.ref l), some (.ref p), some (.ref a), some (.int (n : Int)), some (.ref r), some (.int e), some (.ref mi), u9, u10, some (.ref b), some (.ref t), some (.int w), some (.int tv)]) ⟨fun _ _ e => e, _, _, rfl⟩ (fun i σ' H' _ h => .inl (.inl (h.1 _ _ h16))) ?_ ?_
    · rintro i x σ' H17 hx ⟨s17, u9, u10, rfl⟩
      obtain ⟨z, hz, dz⟩ := (g16.mono s17).getv hx
      obtain ⟨tz, rfl, hzt⟩ := dp_g dz
      have mz := List.mem_of_getElem? hz
      walk_at "z"
      refine z_if (fun c1 => ?_) (fun c1 => ?_)
      · walk_at "z"
        refine z_if (fun c2 => ?_) (fun c2 => ?_)
        · walk_at "z"
          refine z_I wd2 ?_
          walk_at "z"
          refine z_if (fun c3 => ?_) (fun _ => ?_)
          · exfalso
            refine c3 ?_
            rcases know with ⟨k1, k2⟩ | ⟨k1, g, hg, g1, g2, k2⟩
            · have := ((mm z.1).mp (gok z mz).1).2
              omega
            · rw [k2, grp_one T5.1 am hg mz ⟨g1, g2⟩ ⟨c1, c2⟩]
              rfl
          · walk_at "z"
            exact ⟨s17, _, _, rfl⟩
        · walk_at "z"
          exact ⟨s17, _, _, rfl⟩
      · walk_at "z"
        exact ⟨s17, _, _, rfl⟩
    · rintro σ' H17 ⟨s17, u9, u10, rfl⟩
      exact ⟨s1416.trans s17, _, _, _, _, rfl⟩
  · rintro σ' H14 ⟨s14, u9, u10, u11, u12, rfl⟩
    walk_at "z"
    refine z_eqInts (s14 _ _ h8D) (s14 _ _ h2D) ?_
    rw [decide_eq_true (show vs = vs from rfl)]
    exact q _
end

theorem all_mk {l : PySem.W.OpenLaw} {w : World} {K : PySem.W.Frag} {h : Heap} {mg : Str → Option Value} {fa : Addr} (X : K.In h) (G : h.Ns mainGlobals mg) (hfa : mg "law" = some (.ref fa))
    {a0 : Addr} {od0 an0 : Option Addr} {sl0 : Array (Option Value)} {oc0 kV0 dc0 pm0 cd0 ct0 : Value} {a1 : Addr} {od1 an1 : Option Addr} {sl1 : Array (Option Value)} {oc1 kV1 dc1 pm1 cd1 ct1 : Value} {a2 : Addr} {od2 an2 : Option Addr} {sl2 : Array (Option Value)} {oc2 kV2 dc2 pm2 cd2 ct2 : Value} {a3 : Addr} {od3 an3 : Option Addr} {sl3 : Array (Option Value)} {oc3 kV3 dc3 pm3 cd3 ct3 : Value} {a4 : Addr} {od4 an4 : Option Addr} {sl4 : Array (Option Value)} {oc4 kV4 dc4 pm4 cd4 ct4 : Value} {a5 : Addr} {od5 an5 : Option Addr} {sl5 : Array (Option Value)} {oc5 kV5 dc5 pm5 cd5 ct5 : Value} {a6 : Addr} {od6 an6 : Option Addr} {sl6 : Array (Option Value)} {oc6 kV6 dc6 pm6 cd6 ct6 : Value} {a7 : Addr} {od7 an7 : Option Addr} {sl7 : Array (Option Value)} {oc7 kV7 dc7 pm7 cd7 ct7 : Value} {a8 : Addr} {od8 an8 : Option Addr} {sl8 : Array (Option Value)} {oc8 kV8 dc8 pm8 cd8 ct8 : Value} {a9 : Addr} {od9 an9 : Option Addr} {sl9 : Array (Option Value)} {oc9 kV9 dc9 pm9 cd9 ct9 : Value} {a10 : Addr} {od10 an10 : Option Addr} {sl10 : Array (Option Value)} {oc10 kV10 dc10 pm10 cd10 ct10 : Value} {a11 : Addr} {od11 an11 : Option Addr} {sl11 : Array (Option Value)} {oc11 kV11 dc11 pm11 cd11 ct11 : Value} {a12 : Addr} {od12 an12 : Option Addr} {sl12 : Array (Option Value)} {oc12 kV12 dc12 pm12 cd12 ct12 : Value} {a13 : Addr} {od13 an13 : Option Addr} {sl13 : Array (Option Value)} {oc13 kV13 dc13 pm13 cd13 ct13 : Value} {a14 : Addr} {od14 an14 : Option Addr} {sl14 : Array (Option Value)} {oc14 kV14 dc14 pm14 cd14 ct14 : Value} {a15 : Addr} {od15 an15 : Option Addr} {sl15 : Array (Option Value)} {oc15 kV15 dc15 pm15 cd15 ct15 : Value} {a16 : Addr} {od16 an16 : Option Addr} {sl16 : Array (Option Value)} {oc16 kV16 dc16 pm16 cd16 ct16 : Value}
    (n0 : PySem.W.nsIn K mainGlobals "groups" = some (some (.ref a0)))
    (l0 : K.lookup a0 = some ⟨oc0, od0, .func (PySem.W.fnOf "groups" "groups" (defArgs s_groups) (defBody s_groups) (defScope s_groups) .none kV0 dc0 pm0 an0 cd0 ct0), sl0⟩)
    (c0 : PySem.W.codeIn K cd0 "groups" = true) (k0 : PySem.W.keepIn K (.ref a0) = true)
    (n1 : PySem.W.nsIn K mainGlobals "values_in_order" = some (some (.ref a1)))
    (l1 : K.lookup a1 = some ⟨oc1, od1, .func (PySem.W.fnOf "values_in_order" "values_in_order" (defArgs s_values_in_order) (defBody s_values_in_order) (defScope s_values_in_order) .none kV1 dc1 pm1 an1 cd1 ct1), sl1⟩)
    (c1 : PySem.W.codeIn K cd1 "values_in_order" = true) (k1 : PySem.W.keepIn K (.ref a1) = true)
    (n2 : PySem.W.nsIn K mainGlobals "groups_in_order" = some (some (.ref a2)))
    (l2 : K.lookup a2 = some ⟨oc2, od2, .func (PySem.W.fnOf "groups_in_order" "groups_in_order" (defArgs s_groups_in_order) (defBody s_groups_in_order) (defScope s_groups_in_order) .none kV2 dc2 pm2 an2 cd2 ct2), sl2⟩)
    (c2 : PySem.W.codeIn K cd2 "groups_in_order" = true) (k2 : PySem.W.keepIn K (.ref a2) = true)
    (n3 : PySem.W.nsIn K mainGlobals "least_tolerance" = some (some (.ref a3)))
    (l3 : K.lookup a3 = some ⟨oc3, od3, .func (PySem.W.fnOf "least_tolerance" "least_tolerance" (defArgs s_least_tolerance) (defBody s_least_tolerance) (defScope s_least_tolerance) .none kV3 dc3 pm3 an3 cd3 ct3), sl3⟩)
    (c3 : PySem.W.codeIn K cd3 "least_tolerance" = true) (k3 : PySem.W.keepIn K (.ref a3) = true)
    (n4 : PySem.W.nsIn K mainGlobals "table_groups" = some (some (.ref a4)))
    (l4 : K.lookup a4 = some ⟨oc4, od4, .func (PySem.W.fnOf "table_groups" "table_groups" (defArgs s_table_groups) (defBody s_table_groups) (defScope s_table_groups) .none kV4 dc4 pm4 an4 cd4 ct4), sl4⟩)
    (c4 : PySem.W.codeIn K cd4 "table_groups" = true) (k4 : PySem.W.keepIn K (.ref a4) = true)
    (n5 : PySem.W.nsIn K mainGlobals "group_value" = some (some (.ref a5)))
    (l5 : K.lookup a5 = some ⟨oc5, od5, .func (PySem.W.fnOf "group_value" "group_value" (defArgs s_group_value) (defBody s_group_value) (defScope s_group_value) .none kV5 dc5 pm5 an5 cd5 ct5), sl5⟩)
    (c5 : PySem.W.codeIn K cd5 "group_value" = true) (k5 : PySem.W.keepIn K (.ref a5) = true)
    (n6 : PySem.W.nsIn K mainGlobals "table" = some (some (.ref a6)))
    (l6 : K.lookup a6 = some ⟨oc6, od6, .func (PySem.W.fnOf "table" "table" (defArgs s_table) (defBody s_table) (defScope s_table) .none kV6 dc6 pm6 an6 cd6 ct6), sl6⟩)
    (c6 : PySem.W.codeIn K cd6 "table" = true) (k6 : PySem.W.keepIn K (.ref a6) = true)
    (n7 : PySem.W.nsIn K mainGlobals "table_value" = some (some (.ref a7)))
    (l7 : K.lookup a7 = some ⟨oc7, od7, .func (PySem.W.fnOf "table_value" "table_value" (defArgs s_table_value) (defBody s_table_value) (defScope s_table_value) .none kV7 dc7 pm7 an7 cd7 ct7), sl7⟩)
    (c7 : PySem.W.codeIn K cd7 "table_value" = true) (k7 : PySem.W.keepIn K (.ref a7) = true)
    (n8 : PySem.W.nsIn K mainGlobals "_law_cell" = some (some (.ref a8)))
    (l8 : K.lookup a8 = some ⟨oc8, od8, .func (PySem.W.fnOf "_law_cell" "_law_cell" (defArgs s__law_cell) (defBody s__law_cell) (defScope s__law_cell) .none kV8 dc8 pm8 an8 cd8 ct8), sl8⟩)
    (c8 : PySem.W.codeIn K cd8 "_law_cell" = true) (k8 : PySem.W.keepIn K (.ref a8) = true)
    (n9 : PySem.W.nsIn K mainGlobals "_law_stream" = some (some (.ref a9)))
    (l9 : K.lookup a9 = some ⟨oc9, od9, .func (PySem.W.fnOf "_law_stream" "_law_stream" (defArgs s__law_stream) (defBody s__law_stream) (defScope s__law_stream) .none kV9 dc9 pm9 an9 cd9 ct9), sl9⟩)
    (c9 : PySem.W.codeIn K cd9 "_law_stream" = true) (k9 : PySem.W.keepIn K (.ref a9) = true)
    (n10 : PySem.W.nsIn K mainGlobals "_law_next" = some (some (.ref a10)))
    (l10 : K.lookup a10 = some ⟨oc10, od10, .func (PySem.W.fnOf "_law_next" "_law_next" (defArgs s__law_next) (defBody s__law_next) (defScope s__law_next) .none kV10 dc10 pm10 an10 cd10 ct10), sl10⟩)
    (c10 : PySem.W.codeIn K cd10 "_law_next" = true) (k10 : PySem.W.keepIn K (.ref a10) = true)
    (n11 : PySem.W.nsIn K mainGlobals "_law_is_integer" = some (some (.ref a11)))
    (l11 : K.lookup a11 = some ⟨oc11, od11, .func (PySem.W.fnOf "_law_is_integer" "_law_is_integer" (defArgs s__law_is_integer) (defBody s__law_is_integer) (defScope s__law_is_integer) .none kV11 dc11 pm11 an11 cd11 ct11), sl11⟩)
    (c11 : PySem.W.codeIn K cd11 "_law_is_integer" = true) (k11 : PySem.W.keepIn K (.ref a11) = true)
    (n12 : PySem.W.nsIn K mainGlobals "_law_values" = some (some (.ref a12)))
    (l12 : K.lookup a12 = some ⟨oc12, od12, .func (PySem.W.fnOf "_law_values" "_law_values" (defArgs s__law_values) (defBody s__law_values) (defScope s__law_values) .none kV12 dc12 pm12 an12 cd12 ct12), sl12⟩)
    (c12 : PySem.W.codeIn K cd12 "_law_values" = true) (k12 : PySem.W.keepIn K (.ref a12) = true)
    (n13 : PySem.W.nsIn K mainGlobals "_law_ascending" = some (some (.ref a13)))
    (l13 : K.lookup a13 = some ⟨oc13, od13, .func (PySem.W.fnOf "_law_ascending" "_law_ascending" (defArgs s__law_ascending) (defBody s__law_ascending) (defScope s__law_ascending) .none kV13 dc13 pm13 an13 cd13 ct13), sl13⟩)
    (c13 : PySem.W.codeIn K cd13 "_law_ascending" = true) (k13 : PySem.W.keepIn K (.ref a13) = true)
    (n14 : PySem.W.nsIn K mainGlobals "_law_greedy" = some (some (.ref a14)))
    (l14 : K.lookup a14 = some ⟨oc14, od14, .func (PySem.W.fnOf "_law_greedy" "_law_greedy" (defArgs s__law_greedy) (defBody s__law_greedy) (defScope s__law_greedy) .none kV14 dc14 pm14 an14 cd14 ct14), sl14⟩)
    (c14 : PySem.W.codeIn K cd14 "_law_greedy" = true) (k14 : PySem.W.keepIn K (.ref a14) = true)
    (n15 : PySem.W.nsIn K mainGlobals "_law_tolerance" = some (some (.ref a15)))
    (l15 : K.lookup a15 = some ⟨oc15, od15, .func (PySem.W.fnOf "_law_tolerance" "_law_tolerance" (defArgs s__law_tolerance) (defBody s__law_tolerance) (defScope s__law_tolerance) .none kV15 dc15 pm15 an15 cd15 ct15), sl15⟩)
    (c15 : PySem.W.codeIn K cd15 "_law_tolerance" = true) (k15 : PySem.W.keepIn K (.ref a15) = true)
    (n16 : PySem.W.nsIn K mainGlobals "law" = some (some (.ref a16)))
    (l16 : K.lookup a16 = some ⟨oc16, od16, .func (PySem.W.fnOf "law" "law" (defArgs s_law) (defBody s_law) (defScope s_law) .none kV16 dc16 pm16 an16 cd16 ct16), sl16⟩)
    (c16 : PySem.W.codeIn K cd16 "law" = true) (k16 : PySem.W.keepIn K (.ref a16) = true)
    (z_abs : PySem.W.nsIn K mainGlobals "abs" = some none)
    (z_bool : PySem.W.nsIn K mainGlobals "bool" = some none)
    (z_int : PySem.W.nsIn K mainGlobals "int" = some none)
    (z_isinstance : PySem.W.nsIn K mainGlobals "isinstance" = some none)
    (z_len : PySem.W.nsIn K mainGlobals "len" = some none)
    (z_list : PySem.W.nsIn K mainGlobals "list" = some none)
    (z_range : PySem.W.nsIn K mainGlobals "range" = some none)
    (z_sorted : PySem.W.nsIn K mainGlobals "sorted" = some none)
    : ∃ fd : FuncData, (∀ (s : Shared) (v : Value), BindsTo s fd ⟨[v], []⟩ [("script", v)]) ∧ ∀ base : Heap, K.In base → base.Ns mainGlobals mg → FnOk l.prog w K mg base CX0 5 fa fd ["script"] (sp_law K) := by
  have e := hfa.symm.trans (PySem.W.mg_of X G n16)
  cases e
  have F0 := fun_mk (st := s_groups) l0 c0 k0
  have b0 := F0.binds (ps := ["values", "tolerance"]) fun _ _ _ _ _ _ us hl => match us, hl with | [_, _], _ => rfl
  have F1 := fun_mk (st := s_values_in_order) l1 c1 k1
  have b1 := F1.binds (ps := ["values"]) fun _ _ _ _ _ _ us hl => match us, hl with | [_], _ => rfl
  have F2 := fun_mk (st := s_groups_in_order) l2 c2 k2
  have b2 := F2.binds (ps := ["values", "tolerance"]) fun _ _ _ _ _ _ us hl => match us, hl with | [_, _], _ => rfl
  have F3 := fun_mk (st := s_least_tolerance) l3 c3 k3
  have b3 := F3.binds (ps := ["values", "limit"]) fun _ _ _ _ _ _ us hl => match us, hl with | [_, _], _ => rfl
  have F4 := fun_mk (st := s_table_groups) l4 c4 k4
  have b4 := F4.binds (ps := ["values", "limit"]) fun _ _ _ _ _ _ us hl => match us, hl with | [_, _], _ => rfl
  have F5 := fun_mk (st := s_group_value) l5 c5 k5
  have b5 := F5.binds (ps := ["group"]) fun _ _ _ _ _ _ us hl => match us, hl with | [_], _ => rfl
  have F6 := fun_mk (st := s_table) l6 c6 k6
  have b6 := F6.binds (ps := ["values", "limit"]) fun _ _ _ _ _ _ us hl => match us, hl with | [_, _], _ => rfl
  have F7 := fun_mk (st := s_table_value) l7 c7 k7
  have b7 := F7.binds (ps := ["values", "limit", "value"]) fun _ _ _ _ _ _ us hl => match us, hl with | [_, _, _], _ => rfl
  have F8 := fun_mk (st := s__law_cell) l8 c8 k8
  have b8 := F8.binds (ps := ["script", "k"]) fun _ _ _ _ _ _ us hl => match us, hl with | [_, _], _ => rfl
  have F9 := fun_mk (st := s__law_stream) l9 c9 k9
  have b9 := F9.binds (ps := ["cell"]) fun _ _ _ _ _ _ us hl => match us, hl with | [_], _ => rfl
  have F10 := fun_mk (st := s__law_next) l10 c10 k10
  have b10 := F10.binds (ps := ["stream", "size"]) fun _ _ _ _ _ _ us hl => match us, hl with | [_, _], _ => rfl
  have F11 := fun_mk (st := s__law_is_integer) l11 c11 k11
  have b11 := F11.binds (ps := ["actual"]) fun _ _ _ _ _ _ us hl => match us, hl with | [_], _ => rfl
  have F12 := fun_mk (st := s__law_values) l12 c12 k12
  have b12 := F12.binds (ps := ["stream"]) fun _ _ _ _ _ _ us hl => match us, hl with | [_], _ => rfl
  have F13 := fun_mk (st := s__law_ascending) l13 c13 k13
  have b13 := F13.binds (ps := ["values"]) fun _ _ _ _ _ _ us hl => match us, hl with | [_], _ => rfl
  have F14 := fun_mk (st := s__law_greedy) l14 c14 k14
  have b14 := F14.binds (ps := ["rest", "e"]) fun _ _ _ _ _ _ us hl => match us, hl with | [_, _], _ => rfl
  have F15 := fun_mk (st := s__law_tolerance) l15 c15 k15
  have b15 := F15.binds (ps := ["rest", "limit"]) fun _ _ _ _ _ _ us hl => match us, hl with | [_, _], _ => rfl
  have F16 := fun_mk (st := s_law) l16 c16 k16
  have b16 := F16.binds (ps := ["script"]) fun _ _ _ _ _ _ us hl => match us, hl with | [_], _ => rfl
  let A : Nat → Addr := fun | 0 => a0 | 1 => a1 | 2 => a2 | 3 => a3 | 4 => a4 | 5 => a5 | 6 => a6 | 7 => a7 | 8 => a8 | 9 => a9 | 10 => a10 | 11 => a11 | 12 => a12 | 13 => a13 | 14 => a14 | 15 => a15 | 16 => fa | _ => 0
  let D : Nat → FuncData := fun | 0 => PySem.W.fnOf "groups" "groups" (defArgs s_groups) (defBody s_groups) (defScope s_groups) .none kV0 dc0 pm0 an0 cd0 ct0 | 1 => PySem.W.fnOf "values_in_order" "values_in_order" (defArgs s_values_in_order) (defBody s_values_in_order) (defScope s_values_in_order) .none kV1 dc1 pm1 an1 cd1 ct1 | 2 => PySem.W.fnOf "groups_in_order" "groups_in_order" (defArgs s_groups_in_order) (defBody s_groups_in_order) (defScope s_groups_in_order) .none kV2 dc2 pm2 an2 cd2 ct2 | 3 => PySem.W.fnOf "least_tolerance" "least_tolerance" (defArgs s_least_tolerance) (defBody s_least_tolerance) (defScope s_least_tolerance) .none kV3 dc3 pm3 an3 cd3 ct3 | 4 => PySem.W.fnOf "table_groups" "table_groups" (defArgs s_table_groups) (defBody s_table_groups) (defScope s_table_groups) .none kV4 dc4 pm4 an4 cd4 ct4 | 5 => PySem.W.fnOf "group_value" "group_value" (defArgs s_group_value) (defBody s_group_value) (defScope s_group_value) .none kV5 dc5 pm5 an5 cd5 ct5 | 6 => PySem.W.fnOf "table" "table" (defArgs s_table) (defBody s_table) (defScope s_table) .none kV6 dc6 pm6 an6 cd6 ct6 | 7 => PySem.W.fnOf "table_value" "table_value" (defArgs s_table_value) (defBody s_table_value) (defScope s_table_value) .none kV7 dc7 pm7 an7 cd7 ct7 | 8 => PySem.W.fnOf "_law_cell" "_law_cell" (defArgs s__law_cell) (defBody s__law_cell) (defScope s__law_cell) .none kV8 dc8 pm8 an8 cd8 ct8 | 9 => PySem.W.fnOf "_law_stream" "_law_stream" (defArgs s__law_stream) (defBody s__law_stream) (defScope s__law_stream) .none kV9 dc9 pm9 an9 cd9 ct9 | 10 => PySem.W.fnOf "_law_next" "_law_next" (defArgs s__law_next) (defBody s__law_next) (defScope s__law_next) .none kV10 dc10 pm10 an10 cd10 ct10 | 11 => PySem.W.fnOf "_law_is_integer" "_law_is_integer" (defArgs s__law_is_integer) (defBody s__law_is_integer) (defScope s__law_is_integer) .none kV11 dc11 pm11 an11 cd11 ct11 | 12 => PySem.W.fnOf "_law_values" "_law_values" (defArgs s__law_values) (defBody s__law_values) (defScope s__law_values) .none kV12 dc12 pm12 an12 cd12 ct12 | 13 => PySem.W.fnOf "_law_ascending" "_law_ascending" (defArgs s__law_ascending) (defBody s__law_ascending) (defScope s__law_ascending) .none kV13 dc13 pm13 an13 cd13 ct13 | 14 => PySem.W.fnOf "_law_greedy" "_law_greedy" (defArgs s__law_greedy) (defBody s__law_greedy) (defScope s__law_greedy) .none kV14 dc14 pm14 an14 cd14 ct14 | 15 => PySem.W.fnOf "_law_tolerance" "_law_tolerance" (defArgs s__law_tolerance) (defBody s__law_tolerance) (defScope s__law_tolerance) .none kV15 dc15 pm15 an15 cd15 ct15 | _ => PySem.W.fnOf "law" "law" (defArgs s_law) (defBody s_law) (defScope s_law) .none kV16 dc16 pm16 an16 cd16 ct16
  have T : Txt K mg A D :=
    {F_groups := F0,
     m_groups := PySem.W.mg_of X G n0,
     b_groups := b0,
     F_values_in_order := F1,
     m_values_in_order := PySem.W.mg_of X G n1,
     b_values_in_order := b1,
     F_groups_in_order := F2,
     m_groups_in_order := PySem.W.mg_of X G n2,
     b_groups_in_order := b2,
     F_least_tolerance := F3,
     m_least_tolerance := PySem.W.mg_of X G n3,
     b_least_tolerance := b3,
     F_table_groups := F4,
     m_table_groups := PySem.W.mg_of X G n4,
     b_table_groups := b4,
     F_group_value := F5,
     m_group_value := PySem.W.mg_of X G n5,
     b_group_value := b5,
     F_table := F6,
     m_table := PySem.W.mg_of X G n6,
     b_table := b6,
     F_table_value := F7,
     m_table_value := PySem.W.mg_of X G n7,
     b_table_value := b7,
     F__law_cell := F8,
     m__law_cell := PySem.W.mg_of X G n8,
     b__law_cell := b8,
     F__law_stream := F9,
     m__law_stream := PySem.W.mg_of X G n9,
     b__law_stream := b9,
     F__law_next := F10,
     m__law_next := PySem.W.mg_of X G n10,
     b__law_next := b10,
     F__law_is_integer := F11,
     m__law_is_integer := PySem.W.mg_of X G n11,
     b__law_is_integer := b11,
     F__law_values := F12,
     m__law_values := PySem.W.mg_of X G n12,
     b__law_values := b12,
     F__law_ascending := F13,
     m__law_ascending := PySem.W.mg_of X G n13,
     b__law_ascending := b13,
     F__law_greedy := F14,
     m__law_greedy := PySem.W.mg_of X G n14,
     b__law_greedy := b14,
     F__law_tolerance := F15,
     m__law_tolerance := PySem.W.mg_of X G n15,
     b__law_tolerance := b15,
     F_law := F16,
     m_law := PySem.W.mg_of X G n16,
     b_law := b16,
     z_abs := PySem.W.mg_none_of X G z_abs,
     z_bool := PySem.W.mg_none_of X G z_bool,
     z_int := PySem.W.mg_none_of X G z_int,
     z_isinstance := PySem.W.mg_none_of X G z_isinstance,
     z_len := PySem.W.mg_none_of X G z_len,
     z_list := PySem.W.mg_none_of X G z_list,
     z_range := PySem.W.mg_none_of X G z_range,
     z_sorted := PySem.W.mg_none_of X G z_sorted}
  exact ⟨_, fun s v => .of_eq rfl, fun base _ _ => ok_law T⟩
end G
open PySem PySem.W PyProof.Rows
set_option maxRecDepth 100000 in
set_option maxHeartbeats 0 in
theorem PySem.Challenge.cw_fontwinding_k60_tables_and_their_values_holds : PySem.Challenge.rw_fontwinding_k60_tables_and_their_values.Holds := by
  w_on; o_law; k_head; (case hw => w_witness2)
  k_fill
  refine L2.walk_of (l := PySem.Challenge.rw_fontwinding_k60_tables_and_their_values) (n := 63) (k := 5) (x := "script") (CX := fun _ => L2.CX0) (sp := fun w => G.sp_law _) rfl (by decide) rfl ⟨rfl, by decide, by decide⟩ (fun w h Y => PySem.W.kIn_of Y) ?F (fun _ _ a ns hl _ hS => ⟨a, ns, rfl, hS, hl, fun _ => rfl⟩) (fun _ _ _ _ _ h => h)
  case F =>
    intro w mg fa h KX G0 hmg
    refine' G.all_mk KX G0 hmg ?n0 ?l0 ?c0 ?k0 ?n1 ?l1 ?c1 ?k1 ?n2 ?l2 ?c2 ?k2 ?n3 ?l3 ?c3 ?k3 ?n4 ?l4 ?c4 ?k4 ?n5 ?l5 ?c5 ?k5 ?n6 ?l6 ?c6 ?k6 ?n7 ?l7 ?c7 ?k7 ?n8 ?l8 ?c8 ?k8 ?n9 ?l9 ?c9 ?k9 ?n10 ?l10 ?c10 ?k10 ?n11 ?l11 ?c11 ?k11 ?n12 ?l12 ?c12 ?k12 ?n13 ?l13 ?c13 ?k13 ?n14 ?l14 ?c14 ?k14 ?n15 ?l15 ?c15 ?k15 ?n16 ?l16 ?c16 ?k16 ?z_abs ?z_bool ?z_int ?z_isinstance ?z_len ?z_list ?z_range ?z_sorted
    (case n0 => k_is)
    (case l0 => k_is)
    (case c0 => k_is)
    (case k0 => k_is)
    (case n1 => k_is)
    (case l1 => k_is)
    (case c1 => k_is)
    (case k1 => k_is)
    (case n2 => k_is)
    (case l2 => k_is)
    (case c2 => k_is)
    (case k2 => k_is)
    (case n3 => k_is)
    (case l3 => k_is)
    (case c3 => k_is)
    (case k3 => k_is)
    (case n4 => k_is)
    (case l4 => k_is)
    (case c4 => k_is)
    (case k4 => k_is)
    (case n5 => k_is)
    (case l5 => k_is)
    (case c5 => k_is)
    (case k5 => k_is)
    (case n6 => k_is)
    (case l6 => k_is)
    (case c6 => k_is)
    (case k6 => k_is)
    (case n7 => k_is)
    (case l7 => k_is)
    (case c7 => k_is)
    (case k7 => k_is)
    (case n8 => k_is)
    (case l8 => k_is)
    (case c8 => k_is)
    (case k8 => k_is)
    (case n9 => k_is)
    (case l9 => k_is)
    (case c9 => k_is)
    (case k9 => k_is)
    (case n10 => k_is)
    (case l10 => k_is)
    (case c10 => k_is)
    (case k10 => k_is)
    (case n11 => k_is)
    (case l11 => k_is)
    (case c11 => k_is)
    (case k11 => k_is)
    (case n12 => k_is)
    (case l12 => k_is)
    (case c12 => k_is)
    (case k12 => k_is)
    (case n13 => k_is)
    (case l13 => k_is)
    (case c13 => k_is)
    (case k13 => k_is)
    (case n14 => k_is)
    (case l14 => k_is)
    (case c14 => k_is)
    (case k14 => k_is)
    (case n15 => k_is)
    (case l15 => k_is)
    (case c15 => k_is)
    (case k15 => k_is)
    (case n16 => k_is)
    (case l16 => k_is)
    (case c16 => k_is)
    (case k16 => k_is)
    (case z_abs => k_is)
    (case z_bool => k_is)
    (case z_int => k_is)
    (case z_isinstance => k_is)
    (case z_len => k_is)
    (case z_list => k_is)
    (case z_range => k_is)
    (case z_sorted => k_is)
