import PyProof.Rows.All
import Wide.All
import OpenK.AllK
import Wide.FinOn
import HandS.GenOver
import HandS.GenList
import HandS.Zip
import HandS.ForMost
import HandS.ForExc
import HandS.Wide
import HandS.Gcd
import HandS.IsInst
import HandS.ExcIs
import HandS.TryMany
import HandS.Evl
import HandS.Style
import HandS.SetBool
import HandS.Strs
import HandS.SortInts
import PyProof.ListIndex
import PyProof.ListIndexNeg
import HandS.Defaults
import HandS.MakeKwOnly
import HandS.Property
import HandS.Walk
import HandS.CallSlots
import HandS.Comp
import HandS.AnyAll
import PyProof.TupleOfGen
import HandS.EndOwn
import HandS.WordsExc
import HandS.TupAny
import HandS.FStr
import HandS.RaiseMore
import HandS.TupMul
import KE.KNestM
import OpenK.KWalk
import PySem.Challenge.RW_fontwinding_k16_joined_points
set_option Elab.async false
set_option linter.all false
set_option maxRecDepth 100000
set_option maxHeartbeats 4000000
/-! Sw: what runs while generators sleep leaves them as they are. Each sleeper is put in the place of one that cannot be woken; a run that ends there has woken none, so it ends alike with the sleepers themselves. -/
namespace Sw
open PySem
open Sem (wp)
/-- asleep, and without a way on -/
def St (x : GenState) : Prop := ∃ (w : String) (l : List Value) (c : Code) (p : Pos) (fs : List Frame) (cl : Bool), x = .suspended (fun _ => .unsupported w) l c p fs cl
def NG (x : GenState) : Prop := ∀ k l c p fs cl, x = .suspended k l c p fs cl → splitAtGen fs = none
def Rl (x y : GenState) : Prop := (x = y ∧ NG x) ∨ (St x ∧ x.seen = y.seen ∧ x.bare = y.bare)
structure GR (a b : Array GenState) : Prop where
  sz : b.size = a.size
  rl : ∀ (i : Nat) x y, a[i]? = some x → b[i]? = some y → Rl x y
structure Kp (a b c d : Array GenState) : Prop where
  kp : ∀ (i : Nat) x, a[i]? = some x → St x → c[i]? = some x ∧ d[i]? = b[i]?
theorem st_fresh {c : Code} : ¬ St (.fresh c) := by rintro ⟨_, _, _, _, _, _, e⟩; cases e
theorem st_run : ¬ St .running := by rintro ⟨_, _, _, _, _, _, e⟩; cases e
theorem st_fin : ¬ St .finished := by rintro ⟨_, _, _, _, _, _, e⟩; cases e
theorem rl_self {x : GenState} (h : NG x) : Rl x x := .inl ⟨rfl, h⟩
theorem ng_run : NG .running := by intro _ _ _ _ _ _ e; cases e
theorem ng_fin : NG .finished := by intro _ _ _ _ _ _ e; cases e
theorem ng_fresh {c : Code} : NG (.fresh c) := by intro _ _ _ _ _ _ e; cases e
variable {a b c d e f : Array GenState} {g : Nat} {x y : GenState}
theorem GR.get (h : GR a b) (e : a[g]? = some x) : ∃ y, b[g]? = some y ∧ Rl x y := by
  have hg : g < a.size := (Array.getElem?_eq_some_iff.mp e).1
  have hb : g < b.size := by rw [h.sz]; exact hg
  exact ⟨b[g], Array.getElem?_eq_getElem hb, h.rl g x _ e (Array.getElem?_eq_getElem hb)⟩
theorem GR.awake (h : GR a b) (e : a[g]? = some x) (n : ¬ St x) : b[g]? = some x ∧ NG x := by
  obtain ⟨y, hy, r⟩ := h.get e
  rcases r with ⟨rfl, ng⟩ | ⟨s, _⟩
  · exact ⟨hy, ng⟩
  · exact absurd s n
theorem get_set {i : Nat} : (a.setIfInBounds g x)[i]? = if i = g then (if g < a.size then some x else none) else a[i]? := by
  by_cases h : i = g
  · subst h
    rw [if_pos rfl]
    by_cases h2 : i < a.size
    · rw [if_pos h2]; simp [h2]
    · rw [if_neg h2]; simp [h2]
  · rw [if_neg h, Array.getElem?_setIfInBounds_ne (Ne.symm h)]
theorem GR.set (h : GR a b) (r : Rl x y) : GR (a.setIfInBounds g x) (b.setIfInBounds g y) := by
  refine ⟨by rw [Array.size_setIfInBounds, Array.size_setIfInBounds, h.sz], fun i u v e1 e2 => ?_⟩
  rw [get_set] at e1 e2
  by_cases z : i = g
  · rw [if_pos z] at e1 e2
    rw [h.sz] at e2
    by_cases z2 : g < a.size
    · rw [if_pos z2] at e1 e2
      cases e1; cases e2; exact r
    · rw [if_neg z2] at e1
      cases e1
  · rw [if_neg z] at e1 e2
    exact h.rl i u v e1 e2
theorem GR.push (h : GR a b) (r : Rl x y) : GR (a.push x) (b.push y) := by
  refine ⟨by rw [Array.size_push, Array.size_push, h.sz], fun i u v e1 e2 => ?_⟩
  rw [Array.getElem?_push] at e1 e2
  rw [h.sz] at e2
  split at e1
  · rename_i z
    rw [if_pos z] at e2
    cases e1; cases e2; exact r
  · rename_i z
    rw [if_neg z] at e2
    exact h.rl i u v e1 e2
theorem Kp.refl : Kp a b a b := ⟨fun _ _ e _ => ⟨e, rfl⟩⟩
theorem Kp.trans (h : Kp a b c d) (k : Kp c d e f) : Kp a b e f := ⟨fun i x ex sx => by
  obtain ⟨h1, h2⟩ := h.kp i x ex sx
  obtain ⟨k1, k2⟩ := k.kp i x h1 sx
  exact ⟨k1, k2.trans h2⟩⟩
theorem Kp.pushed (h : GR a b) : Kp a b (a.push x) (b.push y) := ⟨fun i u e _ => by
  have hi : i < a.size := (Array.getElem?_eq_some_iff.mp e).1
  rw [Array.getElem?_push, Array.getElem?_push, if_neg (by omega), if_neg (by rw [h.sz]; omega)]
  exact ⟨e, rfl⟩⟩
/-- one that is awake is set -/
theorem Kp.setr (k : Kp a b c d) (n : ∀ z, a[g]? = some z → ¬ St z) : Kp a b (c.setIfInBounds g x) (d.setIfInBounds g y) := ⟨fun i u e su => by
  have hne : i ≠ g := fun z => n u (by rw [← z]; exact e) su
  obtain ⟨h1, h2⟩ := k.kp i u e su
  rw [get_set, get_set, if_neg hne, if_neg hne]
  exact ⟨h1, h2⟩⟩
theorem Kp.setl (k : Kp (a.setIfInBounds g x) (b.setIfInBounds g y) c d) (n : ∀ z, a[g]? = some z → ¬ St z) : Kp a b c d := ⟨fun i u e su => by
  have hne : i ≠ g := fun z => n u (by rw [← z]; exact e) su
  obtain ⟨h1, h2⟩ := k.kp i u (by rw [get_set, if_neg hne]; exact e) su
  rw [get_set, if_neg hne] at h2
  exact ⟨h1, h2⟩⟩
theorem split_ret {k : Result → Sem Fin} {h : Option Value} {g : Bool} {l : List Value} {c : Code} {p : Pos} {kp : List Value} {fs : List Frame} (e : splitAtGen (.ret k h g l c p kp :: fs) = none) : splitAtGen fs = none := by
  have e : (splitAtGen fs).map _ = none := e
  cases q : splitAtGen fs with
  | none => rfl
  | some z => rw [q] at e; cases e
theorem split_gen {n : Nat} {k : GenResult → Sem Fin} {l : List Value} {c : Code} {p : Pos} {fs : List Frame} (e : splitAtGen (.gen n k l c p :: fs) = none) : False := by
  cases (show some _ = none from e)
theorem split_app : ∀ {fs gs : List Frame}, splitAtGen fs = none → splitAtGen gs = none → splitAtGen (fs ++ gs) = none
  | [], _, _, h => h
  | .gen .. :: _, _, h, _ => (split_gen h).elim
  | .ret k h g l c p kp :: fs, gs, h1, h2 => by
    show (splitAtGen (fs ++ gs)).map _ = none
    rw [split_app (split_ret h1) h2]
    rfl
def NGE : End → Prop
  | .ret _ => True
  | .susp _ _ _ _ _ _ fs => splitAtGen fs = none
theorem nge_gen {e : End} (h : NGE e) : NG e.genState := by
  cases e with
  | ret r => exact ng_fin
  | susp v g l k c p fs =>
    intro k' l' c' p' fs' cl' q
    cases q
    exact h
/-- nothing that cannot go on ends -/
theorem no_run {M : Model} {Γ : Ctx} {p : Pos} {t : Sem Fin} {fs : List Frame} {s s' : Shared} {e : End} (h : Runs M Γ p t fs s e s') : ∀ w, t ≠ .unsupported w := by
  induction h with
  | segRet _ _ ih _ => exact ih
  | segGen _ _ ih _ => exact ih
  | segSuspOut _ _ ih => exact ih
  | segSuspGen _ _ _ _ ih _ => exact ih
  | _ => intro w z; cases z
theorem not_st {M : Model} {Γ : Ctx} {p : Pos} {r : Resume} {k : Resume → Sem Fin} {l : List Value} {c : Code} {p0 : Pos} {fs : List Frame} {cl : Bool} {s s' : Shared} {e : End} (h : Runs M Γ p (k r) fs s e s') : ¬ St (.suspended k l c p0 fs cl) := by
  rintro ⟨w, _, _, _, _, _, z⟩
  cases z
  exact no_run h w rfl
theorem runs_sw {M : Model} {Γ : Ctx} {p : Pos} {t : Sem Fin} {fs : List Frame} {s s' : Shared} {e : End} (h : Runs M Γ p t fs s e s') : splitAtGen fs = none → ∀ G, GR s.gens G →
    ∃ G', Runs M Γ p t fs { s with gens := G } e { s' with gens := G' } ∧ GR s'.gens G' ∧ NGE e ∧ Kp s.gens G s'.gens G' := by
  induction h with
  | done => intro _ G hG; exact ⟨G, .done, hG, trivial, .refl⟩
  | raise => intro _ G hG; exact ⟨G, .raise, hG, trivial, .refl⟩
  | again q _ ih => intro hf G hG; obtain ⟨G', r, a1, a2, a3⟩ := ih hf G hG; exact ⟨G', .again q r, a1, a2, a3⟩
  | rule _ ih => intro hf G hG; obtain ⟨G', r, a1, a2, a3⟩ := ih hf G hG; exact ⟨G', .rule r, a1, a2, a3⟩
  | «at» _ ih => intro hf G hG; obtain ⟨G', r, a1, a2, a3⟩ := ih hf G hG; exact ⟨G', .at r, a1, a2, a3⟩
  | load q _ ih => intro hf G hG; obtain ⟨G', r, a1, a2, a3⟩ := ih hf G hG; exact ⟨G', .load q r, a1, a2, a3⟩
  | update q _ ih => intro hf G hG; obtain ⟨G', r, a1, a2, a3⟩ := ih hf G hG; exact ⟨G', .update q r, a1, a2, a3⟩
  | loadIfAlive _ ih => intro hf G hG; obtain ⟨G', r, a1, a2, a3⟩ := ih hf G hG; exact ⟨G', .loadIfAlive r, a1, a2, a3⟩
  | point _ ih => intro hf G hG; obtain ⟨G', r, a1, a2, a3⟩ := ih hf G hG; exact ⟨G', .point r, a1, a2, a3⟩
  | alloc _ ih => intro hf G hG; obtain ⟨G', r, a1, a2, a3⟩ := ih hf G hG; exact ⟨G', .alloc r, a1, a2, a3⟩
  | fresh _ ih => intro hf G hG; obtain ⟨G', r, a1, a2, a3⟩ := ih hf G hG; exact ⟨G', .fresh r, a1, a2, a3⟩
  | ask _ ih => intro hf G hG; obtain ⟨G', r, a1, a2, a3⟩ := ih hf G hG; exact ⟨G', .ask r, a1, a2, a3⟩
  | choose q _ ih => intro hf G hG; obtain ⟨G', r, a1, a2, a3⟩ := ih hf G hG; exact ⟨G', .choose q r, a1, a2, a3⟩
  | os _ ih => intro hf G hG; obtain ⟨G', r, a1, a2, a3⟩ := ih hf G hG; exact ⟨G', .os r, a1, a2, a3⟩
  | handled _ ih => intro hf G hG; obtain ⟨G', r, a1, a2, a3⟩ := ih hf G hG; exact ⟨G', .handled r, a1, a2, a3⟩
  | genState q _ ih =>
    intro hf G hG
    obtain ⟨G', r, a1, a2, a3⟩ := ih hf G hG
    obtain ⟨y, hy, rl⟩ := hG.get q
    rcases rl with ⟨rfl, _⟩ | ⟨_, z, _⟩
    · exact ⟨G', .genState hy r, a1, a2, a3⟩
    · rw [z] at r
      exact ⟨G', .genState hy r, a1, a2, a3⟩
  | stack _ ih => intro hf G hG; obtain ⟨G', r, a1, a2, a3⟩ := ih hf G hG; exact ⟨G', .stack r, a1, a2, a3⟩
  | thread _ ih => intro hf G hG; obtain ⟨G', r, a1, a2, a3⟩ := ih hf G hG; exact ⟨G', .thread r, a1, a2, a3⟩
  | newGen _ ih =>
    intro hf G hG
    obtain ⟨G', r, a1, a2, a3⟩ := ih hf _ (hG.push (rl_self ng_fresh))
    rw [← hG.sz] at r
    exact ⟨G', .newGen r, a1, a2, (Kp.pushed hG).trans a3⟩
  | call _ _ ih1 ih2 =>
    intro hf G hG
    obtain ⟨G1, r1, a1, a2, a3⟩ := ih1 rfl G hG
    obtain ⟨G2, r2, b1, b2, b3⟩ := ih2 rfl G1 a1
    exact ⟨G2, .call r1 r2, b1, b2, a3.trans b3⟩
  | callSusp _ ih =>
    intro hf G hG
    obtain ⟨G1, r1, a1, a2, a3⟩ := ih rfl G hG
    exact ⟨G1, .callSusp r1, a1, split_app a2 rfl, a3⟩
  | yield => intro hf G hG; exact ⟨G, .yield, hG, rfl, .refl⟩
  | @resumeFresh Γ p g l k s c e1 s1 e s' q _ hq _ ih1 ih2 =>
    intro hf G hG
    obtain ⟨hy, _⟩ := hG.awake q st_fresh
    have na : ∀ z, s.gens[g]? = some z → ¬ St z := fun z hz => by rw [q] at hz; cases hz; exact st_fresh
    obtain ⟨G1, r1, a1, a2, a3⟩ := ih1 rfl _ (hG.set (g := g) (rl_self ng_run))
    obtain ⟨G2, r2, b1, b2, b3⟩ := ih2 hf _ (a1.set (g := g) (rl_self (nge_gen a2)))
    exact ⟨G2, .resumeFresh hy r1 hq r2, b1, b2, ((Kp.setl a3 na).setr na).trans b3⟩
  | @resumeSuspended Γ p g r l k s k0 l0 c0 p0 fs cl e1 s1 e s' q h1 hq _ ih1 ih2 =>
    intro hf G hG
    obtain ⟨hy, ng⟩ := hG.awake q (not_st h1)
    have na : ∀ z, s.gens[g]? = some z → ¬ St z := fun z hz => by rw [q] at hz; cases hz; exact not_st h1
    obtain ⟨G1, r1, a1, a2, a3⟩ := ih1 (ng _ _ _ _ _ _ rfl) _ (hG.set (g := g) (rl_self ng_run))
    obtain ⟨G2, r2, b1, b2, b3⟩ := ih2 hf _ (a1.set (g := g) (rl_self (nge_gen a2)))
    exact ⟨G2, .resumeSuspended hy r1 hq r2, b1, b2, ((Kp.setl a3 na).setr na).trans b3⟩
  | resumeJustStarted q n _ ih =>
    intro hf G hG
    obtain ⟨hy, _⟩ := hG.awake q st_fresh
    obtain ⟨G', r, a1, a2, a3⟩ := ih hf G hG
    exact ⟨G', .resumeJustStarted hy n r, a1, a2, a3⟩
  | resumeThrowFresh q _ ih =>
    intro hf G hG
    obtain ⟨hy, _⟩ := hG.awake q st_fresh
    obtain ⟨G', r, a1, a2, a3⟩ := ih hf _ (hG.set (rl_self ng_fin))
    exact ⟨G', .resumeThrowFresh hy r, a1, a2, Kp.setl a3 (fun z hz => by rw [q] at hz; cases hz; exact st_fresh)⟩
  | resumeRunning q _ ih =>
    intro hf G hG
    obtain ⟨hy, _⟩ := hG.awake q st_run
    obtain ⟨G', r, a1, a2, a3⟩ := ih hf G hG
    exact ⟨G', .resumeRunning hy r, a1, a2, a3⟩
  | resumeFinished q _ ih =>
    intro hf G hG
    obtain ⟨hy, _⟩ := hG.awake q st_fin
    obtain ⟨G', r, a1, a2, a3⟩ := ih hf G hG
    exact ⟨G', .resumeFinished hy r, a1, a2, a3⟩
  | segRet _ _ ih1 ih2 =>
    intro hf G hG
    obtain ⟨G1, r1, a1, a2, a3⟩ := ih1 rfl G hG
    obtain ⟨G2, r2, b1, b2, b3⟩ := ih2 (split_ret hf) G1 a1
    exact ⟨G2, .segRet r1 r2, b1, b2, a3.trans b3⟩
  | segGen _ _ _ _ => intro hf; exact (split_gen hf).elim
  | segSuspOut q _ ih =>
    intro hf G hG
    obtain ⟨G1, r1, a1, a2, a3⟩ := ih rfl G hG
    exact ⟨G1, .segSuspOut q r1, a1, split_app a2 q, a3⟩
  | segSuspGen q _ _ _ _ _ => intro hf; rw [hf] at q; cases q
theorem returns_sw {M : Model} {Γ : Ctx} {p : Pos} {s s' : Shared} {r : Result} (h : Returns M Γ p s r s') {G : Array GenState} (hG : GR s.gens G) :
    ∃ G', Returns M Γ p { s with gens := G } r { s' with gens := G' } ∧ GR s'.gens G' ∧ Kp s.gens G s'.gens G' := by
  obtain ⟨G', a, b, _, d⟩ := runs_sw h rfl G hG
  exact ⟨G', a, b, d⟩
theorem wakes_sw {M : Model} {Γ : Ctx} {p : Pos} {g : Nat} {r : Resume} {s s' : Shared} {res : GenResult} (h : Wakes M Γ p g r s res s') {G : Array GenState} (hG : GR s.gens G) :
    ∃ G', Wakes M Γ p g r { s with gens := G } res { s' with gens := G' } ∧ GR s'.gens G' ∧ Kp s.gens G s'.gens G' := by
  unfold Wakes at h
  split at h
  · exact h.elim
  · rename_i c q
    obtain ⟨hy, _⟩ := hG.awake q st_fresh
    have na : ∀ z, s.gens[g]? = some z → ¬ St z := fun z hz => by rw [q] at hz; cases hz; exact st_fresh
    split at h
    · obtain ⟨e1, s1, hr, hq, rfl, rfl⟩ := h
      obtain ⟨G1, r1, a1, a2, a3⟩ := runs_sw hr rfl _ (hG.set (g := g) (rl_self ng_run))
      refine ⟨G1.setIfInBounds g e1.genState, ?_, a1.set (rl_self (nge_gen a2)), (Kp.setl a3 na).setr na⟩
      unfold Wakes
      rw [show ({ s with gens := G } : Shared).gens[g]? = some (.fresh c) from hy]
      exact ⟨e1, _, r1, hq, rfl, rfl⟩
    · obtain ⟨rfl, rfl⟩ := h
      refine ⟨G, ?_, hG, .refl⟩
      unfold Wakes
      rw [show ({ s' with gens := G } : Shared).gens[g]? = some (.fresh c) from hy]
      rename_i v hv
      cases v <;> first | exact ⟨rfl, rfl⟩ | exact absurd rfl hv
    · obtain ⟨rfl, rfl⟩ := h
      refine ⟨G.setIfInBounds g .finished, ?_, hG.set (rl_self ng_fin), (Kp.refl).setr na⟩
      unfold Wakes
      rw [show ({ s with gens := G } : Shared).gens[g]? = some (.fresh c) from hy]
      exact ⟨rfl, rfl⟩
  · rename_i k0 l0 c0 p0 fs cl q
    obtain ⟨e1, s1, hr, hq, rfl, rfl⟩ := h
    obtain ⟨hy, ng⟩ := hG.awake q (not_st hr)
    have na : ∀ z, s.gens[g]? = some z → ¬ St z := fun z hz => by rw [q] at hz; cases hz; exact not_st hr
    obtain ⟨G1, r1, a1, a2, a3⟩ := runs_sw hr (ng _ _ _ _ _ _ rfl) _ (hG.set (g := g) (rl_self ng_run))
    refine ⟨G1.setIfInBounds g e1.genState, ?_, a1.set (rl_self (nge_gen a2)), (Kp.setl a3 na).setr na⟩
    unfold Wakes
    rw [show ({ s with gens := G } : Shared).gens[g]? = _ from hy]
    exact ⟨e1, _, r1, hq, rfl, rfl⟩
  · rename_i q
    obtain ⟨rfl, rfl⟩ := h
    obtain ⟨hy, _⟩ := hG.awake q st_run
    refine ⟨G, ?_, hG, .refl⟩
    unfold Wakes
    rw [show ({ s' with gens := G } : Shared).gens[g]? = _ from hy]
    exact ⟨rfl, rfl⟩
  · rename_i q
    obtain ⟨rfl, rfl⟩ := h
    obtain ⟨hy, _⟩ := hG.awake q st_fin
    refine ⟨G, ?_, hG, .refl⟩
    unfold Wakes
    rw [show ({ s' with gens := G } : Shared).gens[g]? = _ from hy]
    exact ⟨rfl, rfl⟩
/-- how the run with the sleepers stands to the run without them -/
def SW (a b : Array GenState) (s0 s' : Shared) : Prop := ∃ G', s' = { s0 with gens := G' } ∧ GR s0.gens G' ∧ Kp a b s0.gens G'
theorem SW.pre {a b c d : Array GenState} {s0 s' : Shared} (k : Kp a b c d) (h : SW c d s0 s') : SW a b s0 s' := by
  obtain ⟨G', e, r, k'⟩ := h
  exact ⟨G', e, r, k.trans k'⟩
theorem wp_sw {α : Type} (M : Model) (Γ : Ctx) (t : Sem α) : ∀ (Q : α → Pos → Shared → Prop) (E : Value → Pos → Shared → Prop) (p : Pos) (s : Shared) (G : Array GenState), GR s.gens G → wp M Γ t Q E p s →
    wp M Γ t (fun a p' s' => ∃ s0, SW s.gens G s0 s' ∧ Q a p' s0) (fun e p' s' => ∃ s0, SW s.gens G s0 s' ∧ E e p' s0) p { s with gens := G } := by
  have fin : ∀ {s : Shared} {G : Array GenState}, GR s.gens G → SW s.gens G s { s with gens := G } := fun h => ⟨_, rfl, h, .refl⟩
  induction t with
  | pure a => intro Q E p s G hG h; exact ⟨s, fin hG, h⟩
  | raise e => intro Q E p s G hG h; exact ⟨s, fin hG, h⟩
  | unsupported _ => intro Q E p s G _ h; exact h
  | finish _ => intro Q E p s G _ h; exact h
  | rule _ k ih => intro Q E p s G hG h; exact ih () Q E p s G hG h
  | «at» p' k ih => intro Q E p s G hG h; exact ih () Q E p' s G hG h
  | load a _ k ih => intro Q E p s G hG h; obtain ⟨o, ho, h⟩ := h; exact ⟨o, ho, ih o Q E p s G hG h⟩
  | update a _ f k ih => intro Q E p s G hG h; exact ⟨h.1, ih () Q E p { s with heap := s.heap.update a f } G hG h.2⟩
  | loadIfAlive a k ih => intro Q E p s G hG h; exact ih _ Q E p s G hG h
  | point _ k ih => intro Q E p s G hG h; exact ih () Q E p s G hG h
  | register _ _ => intro Q E p s G _ h; exact h
  | alloc o k ih => intro Q E p s G hG h; exact ih _ Q E p { s with heap := s.heap.push o } G hG h
  | fresh k ih => intro Q E p s G hG h; exact ih _ Q E p { s with toks := s.toks + 1 } G hG h
  | ask k ih => intro Q E p s G hG h; exact ih _ Q E p s G hG h
  | choose src m k ih => intro Q E p s G hG h; exact ⟨h.1, ih _ Q E p { s with drawn := s.drawn.bump src } G hG h.2⟩
  | os q _ k ih => intro Q E p s G hG h; exact ih _ Q E p { s with os := (Os.step s.os q).1 } G hG h
  | call c hd _ _ k ih =>
    intro Q E p s G hG h
    obtain ⟨r, s', hr, h⟩ := h
    obtain ⟨G1, r1, a1, a2⟩ := returns_sw hr hG
    exact ⟨r, _, r1, Sem.wp_mono M Γ _ (fun _ _ _ ⟨s0, w, q⟩ => ⟨s0, w.pre a2, q⟩) (fun _ _ _ ⟨s0, w, q⟩ => ⟨s0, w.pre a2, q⟩) p _ (ih r Q E p s' G1 a1 h)⟩
  | handled own k ih => intro Q E p s G hG h; exact ih _ Q E p s G hG h
  | genState g k ih =>
    intro Q E p s G hG h
    obtain ⟨st, hs, h⟩ := h
    obtain ⟨y, hy, rl⟩ := hG.get hs
    have es : st.seen = y.seen := by
      rcases rl with ⟨rfl, _⟩ | ⟨_, z, _⟩
      · rfl
      · exact z
    refine ⟨y, hy, ?_⟩
    rw [← es]
    exact ih _ Q E p s G hG h
  | newGen c k ih =>
    intro Q E p s G hG h
    have k1 : Kp s.gens G (s.gens.push (.fresh c)) (G.push (.fresh c)) := .pushed hG
    have e := ih _ Q E p { s with gens := s.gens.push (.fresh c) } (G.push (.fresh c)) (hG.push (rl_self ng_fresh)) h
    have e2 : wp M Γ (k s.gens.size) (fun a p' s' => ∃ s0, SW s.gens G s0 s' ∧ Q a p' s0) (fun x p' s' => ∃ s0, SW s.gens G s0 s' ∧ E x p' s0) p { s with gens := G.push (.fresh c) } :=
      Sem.wp_mono M Γ _ (fun _ _ _ ⟨s0, w, q⟩ => ⟨s0, w.pre k1, q⟩) (fun _ _ _ ⟨s0, w, q⟩ => ⟨s0, w.pre k1, q⟩) p _ e
    show wp M Γ (k ({ s with gens := G } : Shared).gens.size) _ _ p _
    rw [show ({ s with gens := G } : Shared).gens.size = s.gens.size from hG.sz]
    exact e2
  | resume g r _ k ih =>
    intro Q E p s G hG h
    obtain ⟨res, s', hw, h⟩ := h
    obtain ⟨G1, r1, a1, a2⟩ := wakes_sw hw hG
    exact ⟨res, _, r1, Sem.wp_mono M Γ _ (fun _ _ _ ⟨s0, w, q⟩ => ⟨s0, w.pre a2, q⟩) (fun _ _ _ ⟨s0, w, q⟩ => ⟨s0, w.pre a2, q⟩) p _ (ih res Q E p s' G1 a1 h)⟩
  | yield _ _ _ _ => intro Q E p s G _ h; exact h
  | stack k ih => intro Q E p s G hG h; exact ih _ Q E p s G hG h
  | fork _ _ => intro Q E p s G _ h; exact h
  | thread k ih => intro Q E p s G hG h; exact ih _ Q E p s G hG h
  | await _ _ _ _ _ => intro Q E p s G _ h; exact h
/-- the sleepers cannot be woken -/
def lull : GenState → GenState
  | .suspended _ l c p fs cl => .suspended (fun _ => .unsupported "") l c p fs cl
  | x => x
theorem rl_lull (x : GenState) : Rl (lull x) x := by
  cases x with
  | suspended k l c p fs cl => exact .inr ⟨⟨_, _, _, _, _, _, rfl⟩, rfl, rfl⟩
  | fresh c => exact rl_self ng_fresh
  | running => exact rl_self ng_run
  | finished => exact rl_self ng_fin
def lulled (s : Shared) : Shared := { s with gens := s.gens.map lull }
theorem gr_lull (s : Shared) : GR (lulled s).gens s.gens := by
  refine ⟨by show s.gens.size = (s.gens.map lull).size; rw [Array.size_map], fun i x y e1 e2 => ?_⟩
  have e1 : (s.gens.map lull)[i]? = some x := e1
  rw [Array.getElem?_map, e2] at e1
  cases e1
  exact rl_lull y
theorem bare_lull (x : GenState) : (lull x).bare = x.bare := by cases x <;> rfl
theorem allBare_lull {s : Shared} (h : PyProof.Rows.AllBare s.gens) : PyProof.Rows.AllBare (lulled s).gens := fun y hy => by
  obtain ⟨x, hx, rfl⟩ := Array.mem_map.mp (show y ∈ s.gens.map lull from hy)
  rw [bare_lull]
  exact h x hx
/-- behind the run: the sleepers of before sleep on -/
structure Back (s s0 s' : Shared) : Prop where
  eq : ∃ G, s0 = { s' with gens := G }
  bare : PyProof.Rows.AllBare s0.gens → PyProof.Rows.AllBare s'.gens
  sleep : ∀ (i : Nat) k l c p fs cl, s.gens[i]? = some (.suspended k l c p fs cl) → s'.gens[i]? = s.gens[i]?
theorem Back.of {s s0 s' : Shared} (h : SW (lulled s).gens s.gens s0 s') : Back s s0 s' := by
  obtain ⟨G', rfl, r, k⟩ := h
  refine ⟨⟨s0.gens, rfl⟩, fun hb y hy => ?_, fun i kk l c p fs cl e => ?_⟩
  · obtain ⟨i, hi, rfl⟩ := Array.mem_iff_getElem.mp (show y ∈ G' from hy)
    have hi2 : i < s0.gens.size := by rw [← r.sz]; exact hi
    have rl := r.rl i s0.gens[i] G'[i] (Array.getElem?_eq_getElem hi2) (Array.getElem?_eq_getElem hi)
    have hb2 := hb _ (Array.getElem_mem hi2)
    rcases rl with ⟨z, _⟩ | ⟨_, _, z⟩
    · show (G'[i]).bare = true
      rw [← z]; exact hb2
    · show (G'[i]).bare = true
      rw [← z]; exact hb2
  · have e1 : (lulled s).gens[i]? = some (lull (.suspended kk l c p fs cl)) := by
      show (s.gens.map lull)[i]? = _
      rw [Array.getElem?_map, e]
      rfl
    exact (k.kp i _ e1 ⟨_, _, _, _, _, _, rfl⟩).2
/-- THE RULE -/
theorem wpAny_sw {α : Type} {M : Model} {A : Around} {t : Sem α} {Q : α → Shared → Prop} {E : Value → Shared → Prop} {s : Shared} (h : wpAny M A t Q E (lulled s)) :
    wpAny M A t (fun a s' => ∃ s0, Back s s0 s' ∧ Q a s0) (fun e s' => ∃ s0, Back s s0 s' ∧ E e s0) s := fun Γ p hΓ =>
  Sem.wp_mono M Γ t (fun _ _ _ ⟨s0, w, q⟩ => ⟨s0, .of w, q⟩) (fun _ _ _ ⟨s0, w, q⟩ => ⟨s0, .of w, q⟩) p s (wp_sw M Γ t _ _ p (lulled s) s.gens (gr_lull s) (h Γ p hΓ))
end Sw

/-! Gl: loops over a generator of the program's own that hands out what a zip gives. -/
namespace Gl
open PySem PySem.Spec PyProof.Rows L2 GenW
/-! ### a run up to its next stop, whatever is wanted there -/
def Sg (M : Model) (A : Around) (Φ : End → Shared → Prop) (c : Code) (t : Sem PySem.Fin) (fs : List Frame) (s : Shared) : Prop :=
  ∀ Γ p, Γ.code = c → Γ.Woken A → ∃ e s', Runs M Γ p t fs s e s' ∧ Φ e s'
section
variable {M : Model} {A : Around} {Φ : End → Shared → Prop} {c : Code} {fs : List Frame} {s : Shared}
theorem sg_wrap {α : Type} {m : Sem α} {K : α → Sem PySem.Fin} {J : Value → Sem PySem.Fin} {gd lv} (h : wpAny M (A.over c fs) m (fun a s' => Sg M A Φ c (K a) fs s') (fun x s' => Sg M A Φ c (J x) fs s') s) : Sg M A Φ c (m.wrap K J gd lv) fs s := by
  rintro Γ p rfl hΓ
  refine runs_wrap_of_wp K J gd lv m (h (Γ.over fs) p (hΓ.over fs)) ?_ ?_
  · intro a p' s' h'
    exact h' Γ p' rfl hΓ
  · intro x p' s' h'
    exact h' Γ p' rfl hΓ
theorem sg_bind {α : Type} {m : Sem α} {K : α → Sem PySem.Fin} (h : wpAny M (A.over c fs) m (fun a s' => Sg M A Φ c (K a) fs s') (fun x s' => Sg M A Φ c (.raise x) fs s') s) : Sg M A Φ c (m >>= K) fs s := by
  rw [Sem.bind_eq_wrap']
  exact sg_wrap h
theorem sg_at {p' : Pos} {k : Unit → Sem PySem.Fin} (h : Sg M A Φ c (k ()) fs s) : Sg M A Φ c (.at p' k) fs s :=
  sg_wrap (m := standAt p') (K := k) (J := .raise) (gd := id) (lv := id) (wpAny_standAt h)
theorem sg_point {l : List Value} {k : Unit → Sem PySem.Fin} (h : Sg M A Φ c (k ()) fs s) : Sg M A Φ c (.point l k) fs s :=
  sg_wrap (m := point) (K := k) (J := .raise) (gd := id) (lv := fun _ => l) (wpAny_point h)
theorem sg_call {c' : Code} {h g l} {k : Result → Sem PySem.Fin} (hc : ∀ p, Sg M A Φ c' (M.den c') (.ret k h g l c p [] :: fs) s) : Sg M A Φ c (.call c' h g l k) fs s := by
  rintro Γ p rfl hΓ
  obtain ⟨e, s', hr, he⟩ := hc p (Γ.goto c') p rfl (hΓ.goto c')
  exact ⟨e, s', runs_call_seg hr, he⟩
theorem sg_leaf {k h g l c₁ p₁ kp} (r : Result) (hk : Sg M A Φ c₁ (k r) fs s) : Sg M A Φ c (leafOf r) (.ret k h g l c₁ p₁ kp :: fs) s := by
  rintro Γ p rfl hΓ
  obtain ⟨e, s', hr, he⟩ := hk (Γ.goto c₁) p₁ rfl (hΓ.goto c₁)
  exact ⟨e, s', Runs.pop r hr, he⟩
theorem sg_again {c' : Code} (hq : c'.quiet = true) (hc : Sg M A Φ c' (M.den c') fs s) : Sg M A Φ c (.pure (.again c')) fs s := by
  rintro Γ p rfl hΓ
  obtain ⟨e, s', hr, he⟩ := hc (Γ.goto c') p rfl (hΓ.goto c')
  exact ⟨e, s', Runs.head (c₁ := c') (fun _ _ x => .again hq x) hr, he⟩
theorem sg_end (r : Result) (h : Φ (.ret r) s) : Sg M A Φ c (leafOf r) [] s := by
  rintro Γ p rfl _
  exact ⟨.ret r, s, Runs.leaf r, h⟩
theorem sg_yield {v g l} {k : Resume → Sem PySem.Fin} (hfs : splitAtGen fs = none) (h : ∀ p, Φ (.susp v g l k c p fs) s) : Sg M A Φ c (.yield v g l k) fs s := by
  rintro Γ p rfl _
  exact ⟨_, s, Runs.yield' fs hfs, h p⟩
end
/-! ### a heap up to L -/
def cut (h : Heap) (L : Nat) : Heap := ⟨h.objs.extract 0 L, h.life⟩
theorem cut_size {h : Heap} {L : Nat} (hl : L ≤ h.objs.size) : (cut h L).objs.size = L := by
  show (h.objs.extract 0 L).size = L
  rw [Array.size_extract]
  omega
theorem cut_lt {h : Heap} {L b : Nat} (hb : b < L) : (cut h L).get? b = h.get? b := by
  have e : (h.objs.extract 0 L)[b]? = h.objs[b]? := by
    rw [Array.getElem?_extract]
    by_cases hs : b < h.objs.size
    · rw [if_pos (by omega)]
      simp
    · rw [if_neg (by omega)]
      simp [hs]
  show (match (h.objs.extract 0 L)[b]? with | some ⟨_, _, .freed, _⟩ => none | o => o) = _
  rw [e]
  rfl
theorem cut_some {h : Heap} {L b : Nat} {o : Obj} (hl : L ≤ h.objs.size) (e : (cut h L).get? b = some o) : b < L ∧ h.get? b = some o := by
  have hb : b < L := by
    have := Heap.lt_size e
    rwa [cut_size hl] at this
  rw [cut_lt hb] at e
  exact ⟨hb, e⟩
theorem cut_funs {h base : Heap} {L : Nat} : ∀ {l : List Env}, h.FunFrames base l → (∀ b ∈ frs l, b < L) → (cut h L).FunFrames base l
  | [], _, _ => trivial
  | env :: l, ⟨hk, ⟨a, o, hf, hn, ho, hd⟩, hr⟩, hb => by
    have e : frs (env :: l) = a :: frs l := by
      show List.filterMap _ _ = _
      rw [List.filterMap_cons, hf]
      rfl
    rw [e] at hb
    exact ⟨hk, ⟨a, o, hf, hn, by rw [cut_lt (hb a List.mem_cons_self)]; exact ho, hd⟩, cut_funs hr fun b hm => hb b (List.mem_cons_of_mem _ hm)⟩
/-! ### all that stands, as it stands -/
/-- an object that is a list of these -/
def IsL (o : Obj) (xs : List V) : Prop := xs.length ≤ sizeLine ∧ ∃ (its : List Value) (n : Nat), Vals xs its ∧ o = { cls := .type "list", data := .seq its.toArray n }
def Fz (h base : Heap) (fs pr : List Addr) (ls : Addr → Option (List V)) : Hp := fun b =>
  if b ∈ pr then none else if b ∈ fs then none else if (base.get? b).isSome then none else
    match h.get? b with
    | none => none
    | some o => match ls b with
      | some xs => some (.frz o (.lst xs))
      | none => some (.frz o (.own 0))
section
variable {h base : Heap} {fs pr : List Addr} {ls : Addr → Option (List V)} {P : Program} {w : World}
theorem fz_pr {b : Addr} (hb : b ∈ pr) : Fz h base fs pr ls b = none := if_pos hb
theorem fz_fs {b : Addr} (hb : b ∈ fs) : Fz h base fs pr ls b = none := by
  unfold Fz
  by_cases hp : b ∈ pr
  · rw [if_pos hp]
  · rw [if_neg hp, if_pos hb]
theorem fz_base {b : Addr} {o : Obj} (hb : base.get? b = some o) : Fz h base fs pr ls b = none := by
  unfold Fz
  by_cases hp : b ∈ pr
  · rw [if_pos hp]
  by_cases hf : b ∈ fs
  · rw [if_neg hp, if_pos hf]
  · rw [if_neg hp, if_neg hf, if_pos (by rw [hb]; rfl)]
theorem fz_new {b : Addr} (hb : h.get? b = none) : Fz h base fs pr ls b = none := by
  unfold Fz
  by_cases hp : b ∈ pr
  · rw [if_pos hp]
  by_cases hf : b ∈ fs
  · rw [if_neg hp, if_pos hf]
  by_cases hz : (base.get? b).isSome = true
  · rw [if_neg hp, if_neg hf, if_pos hz]
  · rw [if_neg hp, if_neg hf, if_neg hz, hb]
/-- whatever else stands is locked -/
theorem fz_get {b : Addr} {o : Obj} (hb : h.get? b = some o) (h1 : b ∉ pr) (h2 : b ∉ fs) (h3 : base.get? b = none) : ∃ u, Fz h base fs pr ls b = some (.frz o u) := by
  unfold Fz
  rw [if_neg h1, if_neg h2, if_neg (by rw [h3]; exact Bool.false_ne_true), hb]
  cases ls b with
  | none => exact ⟨_, rfl⟩
  | some xs => exact ⟨_, rfl⟩
theorem fz_lst {b : Addr} {o : Obj} {xs : List V} (hb : h.get? b = some o) (h1 : b ∉ pr) (h2 : b ∉ fs) (h3 : base.get? b = none) (hl : ls b = some xs) : Fz h base fs pr ls b = some (.frz o (.lst xs)) := by
  unfold Fz
  rw [if_neg h1, if_neg h2, if_neg (by rw [h3]; exact Bool.false_ne_true), hb]
  simp only [hl]
theorem fz_inv {b : Addr} {u : HO} (e : Fz h base fs pr ls b = some u) : ∃ o, h.get? b = some o ∧ b ∉ pr ∧ b ∉ fs ∧ base.get? b = none ∧ ((∃ xs, ls b = some xs ∧ u = .frz o (.lst xs)) ∨ u = .frz o (.own 0)) := by
  unfold Fz at e
  by_cases hp : b ∈ pr
  · rw [if_pos hp] at e; cases e
  by_cases hf : b ∈ fs
  · rw [if_neg hp, if_pos hf] at e; cases e
  by_cases hz : (base.get? b).isSome = true
  · rw [if_neg hp, if_neg hf, if_pos hz] at e; cases e
  rw [if_neg hp, if_neg hf, if_neg hz] at e
  have hb : base.get? b = none := by
    cases q : base.get? b with
    | none => rfl
    | some o => rw [q] at hz; exact absurd rfl hz
  cases q : h.get? b with
  | none => rw [q] at e; cases e
  | some o =>
    rw [q] at e
    cases q2 : ls b with
    | none =>
      simp only [q2] at e
      cases e
      exact ⟨o, rfl, hp, hf, hb, .inr rfl⟩
    | some xs =>
      simp only [q2] at e
      cases e
      exact ⟨o, rfl, hp, hf, hb, .inl ⟨xs, rfl, rfl⟩⟩
theorem fz_hok (hl : ∀ b xs, ls b = some xs → ∃ o, h.get? b = some o ∧ IsL o xs) : HOk P w (Fz h base fs pr ls) h := fun b u e => by
  obtain ⟨o, ho, _, _, _, hu⟩ := fz_inv e
  rcases hu with ⟨xs, hx, rfl⟩ | rfl
  · obtain ⟨o', ho', z, its, n, r, eo⟩ := hl b xs hx
    rw [ho] at ho'
    cases ho'
    exact ⟨ho, z, its, n, r, by rw [ho, eo]⟩
  · exact ⟨ho, o, ho⟩
end
/-! ### the generator's own context -/
def gX (P : Program) (w : World) (K : PySem.W.Frag) (mg : Str → Option Value) (base : Heap) (N : List Str) (A : Around) (env : Env) (outer : List Env) (s0 : Shared) (H0 : Hp) : Cx where
  prog := P
  w := w
  K := K
  mg := mg
  base := base
  A := A
  N := N
  s_0 := s0
  H_0 := H0
  env := env
  outer := outer
  stack := env :: outer
  ex := []
  calm := true
  fn := fun _ => true
  pn := []
  xe := fun _ _ => False
/-- a generator def's frame, without cells -/
structure GEnv (env : Env) : Prop where
  kind : env.scope.kind = .function
  glob : env.globals = mainGlobals
  blt : env.builtins = builtinsNs
  fr : env.frame = some env.locals
  cells : env.cells = []
  nc : ∀ x, env.kindOf x ≠ some .cell ∧ env.kindOf x ≠ some .free
  co : env.scope.isCoroutine = false
section
variable {P : Program} {w : World} {K : PySem.W.Frag} {mg : Str → Option Value} {base : Heap} {N : List Str} {A : Around} {env : Env} {outer : List Env} {s : Shared} {H : Hp} {pr : List Addr} {ls : Addr → Option (List V)} {σ : L2.St}
/-- where a turn of the generator begins: all else is locked -/
abbrev Hz (env : Env) (base : Heap) (outer : List Env) (s : Shared) (pr : List Addr) (ls : Addr → Option (List V)) : Hp := Fz s.heap base (frs outer) (env.locals :: pr) ls
abbrev Xz (P : Program) (w : World) (K : PySem.W.Frag) (mg : Str → Option Value) (base : Heap) (N : List Str) (A : Around) (env : Env) (outer : List Env) (s : Shared) (pr : List Addr) (ls : Addr → Option (List V)) : Cx :=
  gX P w K mg base N A env outer { s with heap := cut s.heap env.locals } (Hz env base outer s pr ls)
theorem inv_fz (G : GEnv env) (e0 : Env0 P w K mg base A outer s H) (hfr : ∀ b ∈ frs outer, b < env.locals) (hbl : base.objs.size ≤ env.locals) (hd : A.handled = none) {A' : Around} (hA : A'.frames = some (env :: outer)) (hd' : A'.handled = none)
    (hls : ∀ b xs, ls b = some xs → ∃ o, s.heap.get? b = some o ∧ IsL o xs) (hlen : σ.length = N.length)
    (hns : ∃ m, s.heap.Ns env.locals m ∧ ∀ (i : Nat) (x : Str) (v : V), N[i]? = some x → σ[i]? = some (some v) → Vis env.scope x → ∃ u, RelV v u ∧ env.kindOf x = some .local ∧ m x = some u) :
    Inv (Xz P w K mg base N A' env outer s pr ls) [] σ (Hz env base outer s pr ls) s := by
  obtain ⟨m, hm, hv⟩ := hns
  have hL : env.locals < s.heap.objs.size := hm.lt
  have hL' : env.locals ≤ s.heap.objs.size := Nat.le_of_lt hL
  have ncl : ∀ y c, env.cells.lookup y ≠ some c := fun y c z => by rw [G.cells] at z; cases z
  refine ⟨⟨e0.mod, G.kind, G.glob, G.blt, ?_, fun x y c z => (ncl x c z).elim, fun x z => ?_, fun y c _ z => (ncl y c z).elim, fun _ => hd', hA, .inr ⟨rfl, G.fr⟩, fun b z => ?_, fun b o e => ?_, ?_, fun b _ _ z => ?_, fun b z => ?_, cut_funs e0.funs hfr, fun b hb => fz_fs hb⟩,
    rfl, e0.bare, ⟨fun b o e n _ _ => (cut_some hL' e).2, fun b o e _ _ _ => ⟨o.slots, (cut_some hL' e).2⟩, fun b o _ n _ => n, fun b o e _ => ⟨o, (cut_some hL' e).2⟩, fun b xs e => e, fun b o u e => e, fun b ps e => ⟨#[], by rw [Array.append_empty]; exact e⟩⟩,
    ⟨m, hm, fun i x v h1 h2 h3 => ?_⟩, fun y c z => (ncl y c z).elim, fz_pr List.mem_cons_self, fun y c z => (ncl y c z).elim, fun p hp => ?_, fz_hok hls, hlen⟩
  · show (cut s.heap env.locals).objs.size ≤ env.locals
    rw [cut_size hL']
    exact Nat.le_refl _
  · rcases z with z | z
    · exact absurd z (G.nc x).1
    · exact absurd z (G.nc x).2
  · exact absurd (show b ∈ ([] : List Addr) from z) (by simp)
  · obtain ⟨q1, _⟩ := e0.bs b o e
    exact ⟨by show (cut s.heap env.locals).get? b = _; rw [cut_lt (Nat.lt_of_lt_of_le (Heap.lt_size e) hbl)]; exact q1, fz_base e⟩
  · show base.objs.size ≤ (cut s.heap env.locals).objs.size
    rw [cut_size hL']
    exact hbl
  · exact absurd (show b ∈ ([] : List Addr) from z) (by simp)
  · exact absurd (show b ∈ ([] : List Addr) from z) (by simp)
  · obtain ⟨u, q1, q2, q3⟩ := hv i x v h1 h2 h3
    exact ⟨u, q1, .inl ⟨q2, q3⟩⟩
  · exact absurd (show p ∈ ([] : List (Addr × Obj)) from hp) (by simp)
/-- what a stretch of the generator's run leaves of the heap of before -/
structure Eff (base : Heap) (outer : List Env) (pr : List Addr) (s s' : Shared) : Prop where
  os : s'.os = s.os
  bare : AllBare s'.gens
  keep : ∀ b o, s.heap.get? b = some o → b ∉ pr → b ∉ frs outer → s'.heap.get? b = some o
  slot : ∀ b o, s.heap.get? b = some o → b ∈ frs outer → ∃ sl, s'.heap.get? b = some { o with slots := sl }
theorem eff_of {A' : Around} {pins : List (Addr × Obj)} {H1 : Hp} {s1 : Shared} (e0 : Env0 P w K mg base A outer s H) (hfr : ∀ b ∈ frs outer, b < env.locals) (hbl : base.objs.size ≤ env.locals)
    (I : Inv (Xz P w K mg base N A' env outer s pr ls) pins σ H1 s1) : Eff base outer (env.locals :: pr) s s1 := by
  refine ⟨I.os, I.bare, fun b o e n nf => ?_, fun b o e hb => ?_⟩
  · cases q : base.get? b with
    | some o' =>
      have hb : b < env.locals := Nat.lt_of_lt_of_le (Heap.lt_size q) hbl
      exact I.base.keep b o (by show (cut s.heap env.locals).get? b = _; rw [cut_lt hb]; exact e) (fz_base q) nf (fun z => by cases z)
    | none =>
      obtain ⟨u, hu⟩ := fz_get (base := base) (fs := frs outer) (pr := env.locals :: pr) (ls := ls) e n nf q
      exact (I.hok b _ (I.base.frzs b o u hu)).1
  · have hl := hfr b hb
    exact I.base.slot b o (by show (cut s.heap env.locals).get? b = _; rw [cut_lt hl]; exact e) (fz_fs hb) hb (fun z => by cases z)
end
end Gl
namespace Gl
open PySem PySem.Spec PyProof.Rows L2 GenW
section
variable {M : Model} {A : Around} {Φ : End → Shared → Prop} {c : Code} {fs : List Frame} {s : Shared}
theorem sg_bindw {α β : Type} {m : Sem α} {f : α → Sem β} {K : β → Sem PySem.Fin} {J : Value → Sem PySem.Fin} {gd : Bool → Bool} {lv : List Value → List Value}
    (h : wpAny M (A.over c fs) m (fun a s' => Sg M A Φ c ((f a).wrap K J gd lv) fs s') (fun x s' => Sg M A Φ c (J x) fs s') s) : Sg M A Φ c ((m >>= f).wrap K J gd lv) fs s := by
  rw [Sem.bind_eq_wrap' m f, Sem.wrap_wrap]
  exact sg_wrap h
/-- what a generator does when it is woken -/
def Wk (M : Model) (A : Around) (Φ : End → Shared → Prop) (gs : GenState) (s : Shared) : Prop :=
  match gs with
  | .fresh c => Sg M A Φ c (M.den c) [] s
  | .suspended k _ c _ fs _ => Sg M A Φ c (k (.send .none)) fs s
  | _ => False
theorem wpAny_wake {α : Type} {g : Nat} {gs : GenState} {E : Value → Shared → Prop} {l : List Value} {k : GenResult → Sem α} {Q : α → Shared → Prop} (hg : s.gens[g]? = some gs) (hgo : Wk M A Φ gs (s.setGen g .running))
    (hΦ : ∀ e s1, Φ e s1 → e.quiet = true ∧ wpAny M A (k e.result) Q E (s1.setGen g e.genState)) : wpAny M A (.resume g (.send .none) l k) Q E s := by
  intro Γ p hΓ
  rw [Sem.wp_resume]
  cases gs with
  | fresh c =>
    obtain ⟨e, s1, hr, he⟩ := hgo (Γ.wake c p) p rfl (hΓ.wake c p)
    obtain ⟨q1, q2⟩ := hΦ e s1 he
    refine ⟨_, _, ?_, q2 Γ p hΓ⟩
    unfold Wakes
    rw [hg]
    exact ⟨e, s1, hr, q1, rfl, rfl⟩
  | suspended k0 l0 c0 p0 fs0 cl =>
    obtain ⟨e, s1, hr, he⟩ := hgo (Γ.wake c0 p) p0 rfl (hΓ.wake c0 p)
    obtain ⟨q1, q2⟩ := hΦ e s1 he
    refine ⟨_, _, ?_, q2 Γ p hΓ⟩
    unfold Wakes
    rw [hg]
    exact ⟨e, s1, hr, q1, rfl, rfl⟩
  | running => exact hgo.elim
  | finished => exact hgo.elim
end
section
variable {P : Program} {w : World} {A : Around} {E : Value → Shared → Prop} {s : Shared}
/-- the next item of a generator: what it hands out, or its end without a value -/
theorem next_gl {a : Addr} {g : Nat} {gs : GenState} {Φ : End → Shared → Prop} {Q : Option Value → Shared → Prop} (hh : A.handled = none) (hl : s.heap.NoLimit) (hroom : A.depth < recursionLimit) (hg : s.heap.IsGen a g) (hgs : s.gens[g]? = some gs)
    (hgo : Wk (model P w) A.in1 Φ gs (s.setGen g .running))
    (hΦ : ∀ e s1, Φ e s1 → (∃ v l k c p fs, e = .susp v false l k c p fs ∧ fs.any Frame.guarded = false ∧ Q (some v) (s1.setGen g e.genState)) ∨
      (e = .ret (.ok (.ret .none)) ∧ ∀ h', (∀ b o, s1.heap.get? b = some o → h'.get? b = some o) → Q none { s1.setGen g .finished with heap := h' })) : wpAny (model P w) A (pyNext (.ref a)) Q E s := by
  unfold pyNext
  apply wpAny_bind
  apply wpAny_attempt
  refine wpAny_callSpecial?_slot (name := Str.ofString "__next__") hg.typeIs slot_gen_next ?_
  refine wpAny_call_entry slot_gen_next hg.typeIs entry_gen_next ?_ (args_gen_next _)
  show wpAny _ A.in1 (Builtin.Generator.genWake (.ref a) (.send .none)) _ _ s
  unfold Builtin.Generator.genWake
  refine wpAny_bind (wpAny_holding (wpAny_genNumber hg ?_))
  refine wpAny_bind (wpAny_genState hgs ?_)
  have fin : ∀ e s1, Φ e s1 → e.quiet = true := fun e s1 h => by
    rcases hΦ e s1 h with ⟨v, l, k, c, p, fs, rfl, hfs, _⟩ | ⟨rfl, _⟩
    · show (!(false || fs.any Frame.guarded)) = true
      rw [hfs]
      rfl
    · rfl
  cases gs with
  | running => exact hgo.elim
  | finished => exact hgo.elim
  | fresh c0 =>
    apply wpAny_bind
    refine wpAny_roomToWake hl hroom ?_
    show wpAny (model P w) A.in1 (.resume g (.send .none) [] _) _ _ s
    refine wpAny_wake hgs hgo fun e s1 he => ⟨fin e s1 he, ?_⟩
    rcases hΦ e s1 he with ⟨v, l, k, c, p, fs, rfl, _, q⟩ | ⟨rfl, q⟩
    · exact wpAny_pure ⟨v, rfl, wpAny_pure q⟩
    · show wpAny (model P w) A.in1 (newExc (.type "StopIteration") [] >>= _) _ _ _
      apply wpAny_bind
      simp only [newExc, newTuple]
      apply wpAny_bind
      refine wpAny_newObj_type ?_ (by size_fits)
      refine wpAny_bind (m := firstArgMember _ _) (wpAny_of_eq (a := Value.none) ?_ ?_)
      · first
          | rfl
          | (simp only [firstArgMember]; rfl)
      refine wpAny_newObj_type ?_ (by size_fits)
      simp only [raiseNew]
      refine wpAny_bind (wpAny_bind (wpAny_handled ?_))
      rw [show A.in1.handled = none from hh]
      refine wpAny_throw (wpAny_bind ?_)
      refine wpAny_isInstance (T := "StopIteration") (b := true) ⟨_, Heap.get?_push_size _ rfl, rfl⟩ isSubtype_stop ?_
      exact wpAny_pure (q _ fun b o hb => Heap.get?_push_of_some _ (Heap.get?_push_of_some _ hb))
  | suspended k0 l0 c0 p0 fs0 cl =>
    apply wpAny_bind
    refine wpAny_roomToWake hl hroom ?_
    show wpAny (model P w) A.in1 (.resume g (.send .none) [] _) _ _ s
    refine wpAny_wake hgs hgo fun e s1 he => ⟨fin e s1 he, ?_⟩
    rcases hΦ e s1 he with ⟨v, l, k, c, p, fs, rfl, _, q⟩ | ⟨rfl, q⟩
    · exact wpAny_pure ⟨v, rfl, wpAny_pure q⟩
    · show wpAny (model P w) A.in1 (newExc (.type "StopIteration") [] >>= _) _ _ _
      apply wpAny_bind
      simp only [newExc, newTuple]
      apply wpAny_bind
      refine wpAny_newObj_type ?_ (by size_fits)
      refine wpAny_bind (m := firstArgMember _ _) (wpAny_of_eq (a := Value.none) ?_ ?_)
      · first
          | rfl
          | (simp only [firstArgMember]; rfl)
      refine wpAny_newObj_type ?_ (by size_fits)
      simp only [raiseNew]
      refine wpAny_bind (wpAny_bind (wpAny_handled ?_))
      rw [show A.in1.handled = none from hh]
      refine wpAny_throw (wpAny_bind ?_)
      refine wpAny_isInstance (T := "StopIteration") (b := true) ⟨_, Heap.get?_push_size _ rfl, rfl⟩ isSubtype_stop ?_
      exact wpAny_pure (q _ fun b o hb => Heap.get?_push_of_some _ (Heap.get?_push_of_some _ hb))
end
end Gl

namespace Gl
open PySem PySem.Spec PyProof.Rows L2 GenW
section
variable {P : Program} {w : World} {K : PySem.W.Frag} {mg : Str → Option Value} {base : Heap} {N : List Str} {A A' : Around} {env : Env} {outer : List Env} {s : Shared} {pr : List Addr} {ls : Addr → Option (List V)} {σ : L2.St}
variable {tg e : Expr} {yp ypos : Pos} {it : Addr} {fp : List Addr} {tn : Nat → Heap → Prop} {J : It} {g : TG} {te : TE} {i : Nat} {Φ : End → Shared → Prop} {fs : List Frame}
abbrev gBody (e : Expr) (yp ypos : Pos) : List Stmt := [.Expr (.Yield (some e) yp) ypos]
abbrev gLoop (tg e : Expr) (yp ypos : Pos) (it : Addr) (env : Env) : Code := .forLoop tg (.ref it) (gBody e yp ypos) [] env
/-- woken, the loop goes on -/
def Again (P : Program) (w : World) (A : Around) (c : Code) (fs : List Frame) (k : Resume → Sem PySem.Fin) : Prop :=
  ∀ Φ s, Sg (model P w) A Φ c ((model P w).den c) fs s → Sg (model P w) A Φ c (k (.send .none)) fs s
/-- the loop's end is the generator's end -/
def Ends (P : Program) (w : World) (A : Around) (fs : List Frame) : Prop :=
  ∀ Φ c s, Φ (.ret (.ok (.ret .none))) s → Sg (model P w) A Φ c (.pure (.done .next)) fs s
theorem sg_item (hA : A.over (gLoop tg e yp ypos it env) fs = A') (hsp : splitAtGen fs = none) (hgu : fs.any Frame.guarded = false) (hco : env.scope.isCoroutine = false) (hi : interactive env = false)
    (hg : ∀ s0 H0, PG (gX P w K mg base N A' env outer s0 H0) tg g) (he : ∀ s0 H0, PE (gX P w K mg base N A' env outer s0 H0) e te) (T : Turn P w K tg J fp it tn)
    {s0 : Shared} {H0 H : Hp} (I : Inv (gX P w K mg base N A' env outer s0 H0) [] σ H s) (hf : ∀ b ∈ fp, FpOk (gX P w K mg base N A' env outer s0 H0) [] H b) (st : tn i s.heap) (go : J.go i H) {Post : V → Hp → Prop}
    (step : ∀ x H', J.yld i H x H' → g x σ H' fun σ2 H2 => te σ2 H2 fun y H3 => Post y H3)
    (hΦ : ∀ v y σ1 pins H3 s1, Inv (gX P w K mg base N A' env outer s0 H0) pins σ1 H3 s1 → tn (i + 1) s1.heap → (∀ b ∈ fp, H3 b = none) → RelV y v → Post y H3 → ∀ k l p, Again P w A (gLoop tg e yp ypos it env) fs k → Φ (.susp v false l k (gLoop tg e yp ypos it env) p fs) s1) :
    Sg (model P w) A Φ (gLoop tg e yp ypos it env) ((model P w).den (gLoop tg e yp ypos it env)) fs s := by
  show Sg _ A Φ _ ((forTurn tg (.ref it) (gBody e yp ypos) [] env).onRaise _) fs s
  rw [Sem.onRaise_eq_wrap]
  unfold forTurn
  refine sg_bindw (wpAny_standAt ?_)
  refine sg_bindw (wpAny_onRaise ?_)
  rw [hA]
  refine wpAny_mono (T.item _ rfl rfl rfl rfl i [] s σ H (fun _ _ => False) I hf st go) (fun r s1 hr => ?_) fun _ _ z => z.elim
  obtain ⟨u, rfl, hu⟩ := hr
  refine sg_bindw ?_
  rw [hA]
  refine wpAny_mono hu (fun _ s2 h2 => ?_) fun _ _ z => z.elim
  obtain ⟨x, H2, I2, rx, yx, st2, fr2⟩ := h2
  have I2' := I2.pinned (fun b hb => ⟨fr2 b hb, (hf b hb).2⟩) (T.obj _ _ st2)
  refine sg_bindw ?_
  rw [hA]
  refine wpAny_mono ((hg s0 H0).run _ s2 σ H2 x u _ I2' rx (step x H2 yx)) (fun _ s3 h3 => ?_) fun _ _ z => z.elim
  obtain ⟨σ3, H3, I3, q3⟩ := h3
  rw [Sem.bind_eq_wrap' (execs _ _) _, Sem.wrap_wrap]
  rw [execs_cons_wrap]
  rw [exec_Expr env _ ypos hi rfl]
  show Sg _ A Φ _ (.at ypos fun _ => Sem.wrap _ _ _ _ ((eval e env >>= fun v => standAt yp >>= fun _ => yieldOut env v) >>= fun x => dropValue (.Yield (some e) yp) ypos x)) fs s3
  refine sg_at ?_
  rw [Sem.bind_eq_wrap' (eval e env >>= _) _]
  rw [Sem.wrap_wrap]
  refine sg_bindw ?_
  rw [hA]
  refine wpAny_mono ((he s0 H0).run _ s3 σ3 H3 _ I3 q3) (fun v s4 h4 => ?_) fun _ _ z => z.elim
  obtain ⟨y, H4, I4, ry, q4⟩ := h4
  refine sg_bindw (wpAny_standAt ?_)
  have hy : yieldOut env v = yieldValue v := by
    simp only [yieldOut, hco]
    exact if_neg Bool.false_ne_true
  rw [hy]
  have keepT : tn (i + 1) s4.heap := T.keep _ _ _ st2 fun b hb o q => (I4.pin (b, o) (List.mem_append_right _ (List.mem_append_right _ (mem_pinsAt hb q)))).1
  have frT : ∀ b ∈ fp, H4 b = none := fun b hb => by
    obtain ⟨o, q, _⟩ := T.obj _ _ st2 b hb
    exact (I4.pin (b, o) (List.mem_append_right _ (List.mem_append_right _ (mem_pinsAt hb q)))).2.1
  refine sg_yield hsp fun p => ?_
  exact hΦ v y σ3 _ H4 s4 I4 keepT frT ry q4 _ _ p fun Φ' s' h' => sg_again rfl h'
/-- nothing is left -/
theorem sg_stop (hA : A.over (gLoop tg e yp ypos it env) fs = A') (T : Turn P w K tg J fp it tn)
    {s0 : Shared} {H0 H : Hp} (I : Inv (gX P w K mg base N A' env outer s0 H0) [] σ H s) (hf : ∀ b ∈ fp, FpOk (gX P w K mg base N A' env outer s0 H0) [] H b) (st : tn i s.heap) (stop : J.stop i H) (hE : Ends P w A fs)
    (hΦ : ∀ s1, Inv (gX P w K mg base N A' env outer s0 H0) [] σ H s1 → Φ (.ret (.ok (.ret .none))) s1) :
    Sg (model P w) A Φ (gLoop tg e yp ypos it env) ((model P w).den (gLoop tg e yp ypos it env)) fs s := by
  show Sg _ A Φ _ ((forTurn tg (.ref it) (gBody e yp ypos) [] env).onRaise _) fs s
  rw [Sem.onRaise_eq_wrap]
  unfold forTurn
  refine sg_bindw (wpAny_standAt ?_)
  refine sg_bindw (wpAny_onRaise ?_)
  rw [hA]
  refine wpAny_mono (T.done _ rfl rfl rfl rfl i [] s σ H (fun _ _ => False) I hf st stop) (fun r s1 hr => ?_) fun _ _ z => z.elim
  obtain ⟨rfl, I1⟩ := hr
  refine sg_again (c' := .block [] env) rfl ?_
  show Sg _ A Φ _ (.pure (.done .next)) fs s1
  exact hE Φ _ s1 (hΦ s1 I1)
theorem sg_first {iter : Expr} {fpos : Pos} {wi : TI} {s0 : Shared} {H0 H : Hp} {R : It → Hp → Prop} (hs : ∀ x, foldedSetIterable iter env x = pure x)
    (I : Inv (gX P w K mg base N (A.deeper env) env outer s0 H0) [] σ H s) (hi : PI (gX P w K mg base N (A.deeper env) env outer s0 H0) tg iter wi) (hw : wi σ H R)
    (hl : ∀ it fp tn J H1 s1, Inv (gX P w K mg base N (A.deeper env) env outer s0 H0) [] σ H1 s1 → Turn P w K tg J fp it tn → tn 0 s1.heap → (∀ b ∈ fp, FpOk (gX P w K mg base N (A.deeper env) env outer s0 H0) [] H1 b) → R J H1 →
      ∀ fs, splitAtGen fs = none → fs.any Frame.guarded = false → Ends P w A fs → A.over (gLoop tg e yp ypos it env) fs = A.deeper env → Sg (model P w) A Φ (gLoop tg e yp ypos it env) ((model P w).den (gLoop tg e yp ypos it env)) fs s1) :
    Sg (model P w) A Φ (.func [.For tg iter (gBody e yp ypos) [] fpos] env) ((model P w).den (.func [.For tg iter (gBody e yp ypos) [] fpos] env)) [] s := by
  have ov : A.over (.func [.For tg iter (gBody e yp ypos) [] fpos] env) [] = A.deeper env := over_func
  show Sg _ A Φ _ (.point [] fun _ => ((execs [.For tg iter (gBody e yp ypos) [] fpos] env).onRaise (leaving env)) >>= _) [] s
  refine sg_point ?_
  rw [Sem.onRaise_eq_wrap]
  rw [Sem.bind_eq_wrap' (Sem.wrap _ _ _ _ _) _]
  rw [Sem.wrap_wrap]
  rw [execs_cons_wrap]
  rw [arm_exec_For]
  refine sg_bindw (wpAny_standAt ?_)
  refine sg_bindw ?_
  rw [ov]
  refine wpAny_mono (hi.run [] s σ H R I hw) (fun v s1 h1 => ?_) fun _ _ z => z.elim
  refine sg_bindw ?_
  refine wpAny_of_eq (hs v) ?_
  refine sg_bindw (wpAny_standAt ?_)
  refine sg_bindw ?_
  refine wpAny_holding ?_
  rw [ov]
  refine wpAny_mono h1 (fun itv s2 h2 => ?_) fun _ _ z => z.elim
  obtain ⟨it, fp, tn, J, H2, rfl, I2, T, st, hf, q⟩ := h2
  refine sg_call fun p => ?_
  refine hl it fp tn J H2 s2 I2 T st hf q _ rfl rfl ?_ ?_
  · intro Φ' c s' h'
    refine sg_leaf (.ok .next) ?_
    exact sg_end (.ok (.ret .none)) h'
  · rw [← ov]
    exact over_loop rfl rfl
end
end Gl

namespace Gl
open PySem PySem.Spec PyProof.Rows L2 GenW
theorem cells_nil : ∀ {ns : List (Str × NameKind)} {n : Nat}, (∀ y ∈ ns, y.2 ≠ .cell ∧ y.2 ≠ .free) → cellsFrom n ns [] = []
  | [], _, _ => rfl
  | (x, k) :: ns, n, h => by
    have hk : k ≠ .cell ∧ k ≠ .free := h (x, k) List.mem_cons_self
    have ih : cellsFrom n ns [] = [] := cells_nil fun y hy => h y (List.mem_cons_of_mem _ hy)
    cases k with
    | cell => exact absurd rfl hk.1
    | free => exact absurd rfl hk.2
    | _ => exact ih
/-- a generator def of one parameter, its names all local -/
structure GDef (K : PySem.W.Frag) (x qual : Str) (st : Stmt) (f : Addr) (fd : FuncData) (N : List Str) (p0 : Str) : Prop where
  F : Fun K x qual st f fd
  kind : (defScope st).kind = .function
  co : (defScope st).isCoroutine = false
  gen : (defScope st).isGenerator = true
  nd : N.Nodup
  pre : N.take 1 = [p0]
  par : (defScope st).names.lookup p0 = some .local
  loc : ∀ y ∈ (defScope st).names, y.2 ≠ .cell ∧ y.2 ≠ .free
section
variable {x qual : Str} {st : Stmt} {f : Addr} {fd : FuncData} {N : List Str} {p0 : Str} {K : PySem.W.Frag}
theorem lookup_loc {ns : List (Str × NameKind)} (h : ∀ y ∈ ns, y.2 ≠ .cell ∧ y.2 ≠ .free) {y : Str} {k : NameKind} (e : ns.lookup y = some k) : k ≠ .cell ∧ k ≠ .free := h (y, k) (PySem.mem_of_lookup e)
theorem genv (D : GDef K x qual st f fd N p0) (L : Addr) (cd : Value) : GEnv (envOfC qual (defScope st) L f cd) where
  kind := D.kind
  glob := rfl
  blt := rfl
  fr := rfl
  cells := cells_nil D.loc
  nc := fun y => by
    refine ⟨fun z => ?_, fun z => ?_⟩
    · exact (lookup_loc D.loc (show (defScope st).names.lookup y = some .cell from z)).1 rfl
    · exact (lookup_loc D.loc (show (defScope st).names.lookup y = some .free from z)).2 rfl
  co := D.co
/-- what a call of the generator def leaves -/
structure New (qual : Str) (st : Stmt) (f : Addr) (cd : Value) (p0 : Str) (u : Value) (s : Shared) (a : Addr) (g : Nat) (s' : Shared) : Prop where
  gen : s'.heap.IsGen a g
  at_ : s'.gens[g]? = some (.fresh (.func (defBody st) (envOfC qual (defScope st) s.heap.objs.size f cd)))
  le : s.heap.objs.size < a
  os : s'.os = s.os
  bare : AllBare s'.gens
  keep : ∀ b o, s.heap.get? b = some o → s'.heap.get? b = some o
  ns : ∃ m, s'.heap.Ns s.heap.objs.size m ∧ m p0 = some u
theorem made {X : Cx} {k : Nat} {pins : List (Addr × Obj)} {σ : L2.St} {H : Hp} {s : Shared} {u : Value} {E : Value → Shared → Prop} (D : GDef X.K x qual st f fd N p0) (hr : Room k X.A) (I : Inv X pins σ H s) (hb : Binds X.K fd [p0] []) :
    wpAny (model X.prog X.w) X.A (call (.ref f) [u]) (fun r s' => ∃ a g cd, r = .ref a ∧ New qual st f cd p0 u s a g s') E s := by
  obtain ⟨oc, od, kV, doc, pm, an, cdv, ct, osl, rfl, lk, hcd⟩ := D.F.ex
  have KX := I.kIn
  have lim := I.nolimit
  have hkind : ∀ y ∈ [p0].zip [u], (defScope st).names.lookup y.1 = some .local ∨ ((defScope st).names.lookup y.1 = some .cell ∧ ((cellsFrom (s.heap.objs.size + 1) (defScope st).names []).lookup y.1).isSome = true) := fun y hy => by
    rw [List.mem_singleton.mp (show y ∈ [(p0, u)] from hy)]
    exact .inl D.par
  refine wpAny_call ?_
  refine codeAny_call_generator (by have := hr.dp; omega) (KX _ _ lk) rfl D.co D.gen rfl (PySem.W.codeRec_of KX hcd) (hb s [u] KX rfl _ _ _ _ ?_)
  refine wpAny_newFunctionEnv_cells D.kind hkind fun env he s1 q => ?_
  subst he
  refine ⟨lim.keeps q.toInCall.keep, ?_⟩
  obtain ⟨h1, tk, es1, hk1⟩ := q.done
  have gen1 : s1.gens = s.gens := by rw [es1]
  have lt1 : s.heap.objs.size < s1.heap.objs.size := q.toInCall.ns.lt
  refine ⟨s1.heap.objs.size, s1.gens.size, cdv, rfl, ⟨_, _, _, Heap.get?_push_size _ rfl, rfl, rfl, rfl⟩, Array.getElem?_push_size .., lt1, by rw [es1], ?_, fun b o e => Heap.get?_push_of_some _ (q.toInCall.keep b o e), ?_⟩
  · exact AllBare.push (by rw [gen1]; exact I.bare) rfl
  · obtain ⟨o, es, ep, ho, r⟩ := q.toInCall.ns
    refine ⟨_, ⟨o, es, ep, Heap.get?_push_of_some _ ho, r⟩, ?_⟩
    exact bindL_get (List.nodup_cons.mpr ⟨by simp, List.nodup_nil⟩) (show ([p0] : List Str)[0]? = some p0 from rfl) (show ([u] : List Value)[0]? = some u from rfl) D.par
end
end Gl

namespace Gl
open PySem PySem.Spec PyProof.Rows L2 GenW
section
variable {X : Cx} {pins : List (Addr × Obj)} {σ : L2.St} {H : Hp} {s : Shared}
theorem inv_gens {s0 s' : Shared} (I : Inv X pins σ H s0) (e : ∃ G, s0 = { s' with gens := G }) (hb : AllBare s'.gens) : Inv X pins σ H s' := by
  obtain ⟨G, rfl⟩ := e
  exact ⟨I.ok, I.os, hb, I.base, I.loc, I.cell, I.free, I.freeC, I.pin, I.hok, I.len⟩
/-- an address of the generator's own -/
structure Own (X : Cx) (pins : List (Addr × Obj)) (H : Hp) (b : Addr) : Prop where
  un : H b = none
  loc : b ≠ X.env.locals
  fs : b ∉ X.fs
  cell : ∀ x c, X.env.cells.lookup x = some c → c ≠ b
  pin : ∀ p ∈ X.pn ++ pins, p.1 ≠ b
theorem back_any {ch : List Addr} {s4 s5 : Shared} {H' : Hp} (I : Inv X pins σ H s) (Ef : Eff X.base X.stack ch s s4) (k5 : ∀ b o, s4.heap.get? b = some o → s5.heap.get? b = some o) (os5 : s5.os = s4.os) (b5 : AllBare s5.gens)
    (hch : ∀ b ∈ ch, Own X pins H b ∧ X.s_0.heap.objs.size ≤ b) (hH : ∀ b o, s.heap.get? b = some o → H' b = H b) (hsub : ∀ b u, H b = some u → H' b = some u)
    (new : ∀ b u, H' b = some u → H b = none → ObjOk X.prog X.w H' s5.heap b u) : Inv X pins σ H' s5 := by
  have nfr : ∀ b u, H b = some u → b ∉ frs X.stack := fun b u e hm => by
    have := I.stkFree b hm
    rw [e] at this; cases this
  have nch : ∀ b u, H b = some u → b ∉ ch := fun b u e hm => by
    have := (hch b hm).1.un
    rw [e] at this; cases this
  refine I.call' (ch := ch) (os5.trans Ef.os) ⟨fun b o e n nf nx => k5 b o (Ef.keep b o e nx nf), fun b o e n hb _ => ?_, fun b o e n _ => ?_, fun b o e nx => ?_, fun b ys e => hsub b _ e, fun b o u e => hsub b _ e, fun b ps e => ⟨#[], by rw [Array.append_empty]; exact hsub b _ e⟩⟩ (fun b u e => ?_) b5 fun b hb => ?_
  · obtain ⟨sl, q⟩ := Ef.slot b o e hb
    exact ⟨sl, k5 b _ q⟩
  · rw [hH b o e]; exact n
  · by_cases hf : b ∈ frs X.stack
    · obtain ⟨sl, q⟩ := Ef.slot b o e hf
      exact ⟨_, k5 b _ q⟩
    · exact ⟨o, k5 b o (Ef.keep b o e nx hf)⟩
  · cases q : H b with
    | none => exact new b u e q
    | some u' =>
      have e2 := hsub b u' q
      rw [e] at e2
      cases e2
      refine (I.hok b u q).stay (fun c v hc hv => ?_) (fun c hc => hsub c _ hc) fun c ys hc => hsub c _ hc
      have hu : ∃ u2, H c = some u2 := by
        rcases hc with rfl | hc
        · exact ⟨u, q⟩
        · exact ⟨_, hc⟩
      obtain ⟨u2, hu⟩ := hu
      exact k5 c v (Ef.keep c v hv (nch c u2 hu) (nfr c u2 hu))
  · obtain ⟨o1, o2⟩ := hch b hb
    exact ⟨.inr o2, o1.loc, o1.cell, o1.pin⟩
end
/-- the text of a generator def whose loop goes over zip(x, x[1:]) and hands out the pairs -/
structure GT (P : Program) (w : World) (K : PySem.W.Frag) (mg : Str → Option Value) (base : Heap) (x qual : Str) (st : Stmt) (f : Addr) (fd : FuncData) (N : List Str) (p0 : Str) (tg iter e : Expr) (yp ypos fpos : Pos) (g : TG) (te : TE) (wi : TI) : Prop where
  D : GDef K x qual st f fd N p0
  body : defBody st = [.For tg iter (gBody e yp ypos) [] fpos]
  hs : ∀ env v, foldedSetIterable iter env v = pure v
  int : ∀ L cd, interactive (envOfC qual (defScope st) L f cd) = false
  hg : ∀ A' L cd outer s0 H0, PG (gX P w K mg base N A' (envOfC qual (defScope st) L f cd) outer s0 H0) tg g
  he : ∀ A' L cd outer s0 H0, PE (gX P w K mg base N A' (envOfC qual (defScope st) L f cd) outer s0 H0) e te
  hi : ∀ A' L cd outer s0 H0, PI (gX P w K mg base N A' (envOfC qual (defScope st) L f cd) outer s0 H0) tg iter wi
  r1 : ∀ (H : Hp) (lo : Addr) (xs : List V) (R : It → Hp → Prop), SqL K H lo xs → (∀ sl, H sl = none → R (Itz K lo sl) (upd H sl (.lst (xs.drop 1)))) → wi (some (.ref lo) :: List.replicate (N.length - 1) none) H R
  r2 : ∀ (σ : L2.St) (H : Hp) (T : Addr) (a b : V) (R : VK), σ.length = N.length → H T = none → (∀ p, upd H T (.tup [a, b]) p = none → R (.ref p) (upd (upd H T (.tup [a, b])) p (.tup [a, b]))) → g (.ref T) σ (upd H T (.tup [a, b])) fun σ2 H2 => te σ2 H2 R
section
variable {P : Program} {w : World} {K : PySem.W.Frag} {mg : Str → Option Value} {base : Heap} {x qual : Str} {st : Stmt} {f : Addr} {fd : FuncData} {N : List Str} {p0 : Str} {tg iter e : Expr} {yp ypos fpos : Pos} {g : TG} {te : TE} {wi : TI}
/-- the generator asleep, i items handed out -/
structure Slp (P : Program) (w : World) (K : PySem.W.Frag) (base : Heap) (tg e : Expr) (yp ypos : Pos) (A : Around) (env : Env) (outer : List Env) (lo : Addr) (ys : List V) (i : Nat) (gs : GenState) (h : Heap) (fp : List Addr) (sl : Addr) : Prop where
  ex : ∃ (it : Addr) (tn : Nat → Heap → Prop) (fs : List Frame) (k : Resume → Sem PySem.Fin) (l : List Value) (p : Pos), gs = .suspended k l (gLoop tg e yp ypos it env) p fs false ∧ splitAtGen fs = none ∧ fs.any Frame.guarded = false ∧ Ends P w A fs ∧
    A.over (gLoop tg e yp ypos it env) fs = A.deeper env ∧ Again P w A (gLoop tg e yp ypos it env) fs k ∧ Turn P w K tg (Itz K lo sl) fp it tn ∧ tn i h
  fpo : ∀ b ∈ fp, b ≠ env.locals ∧ b ∉ frs outer ∧ env.locals ≤ b
  lst : ∃ o, h.get? sl = some o ∧ IsL o ys
  slfp : sl ∉ fp
  slL : sl ≠ env.locals
  slb : base.get? sl = none
  slfs : sl ∉ frs outer
  ns : ∃ m, h.Ns env.locals m
theorem Slp.keep {A : Around} {env : Env} {outer : List Env} {lo : Addr} {ys : List V} {i : Nat} {gs : GenState} {h h' : Heap} {fp : List Addr} {sl : Addr} (S : Slp P w K base tg e yp ypos A env outer lo ys i gs h fp sl)
    (k : ∀ b ∈ env.locals :: sl :: fp, ∀ o, h.get? b = some o → h'.get? b = some o) : Slp P w K base tg e yp ypos A env outer lo ys i gs h' fp sl := by
  obtain ⟨it, tn, fs, kk, l, p, e1, e2, e3, e4, e5, e6, T, st⟩ := S.ex
  obtain ⟨o, ho, q⟩ := S.lst
  obtain ⟨m, o2, es, ep, ho2, r⟩ := S.ns
  exact ⟨⟨it, tn, fs, kk, l, p, e1, e2, e3, e4, e5, e6, T, T.keep i h h' st fun b hb o q => k b (List.mem_cons_of_mem _ (List.mem_cons_of_mem _ hb)) o q⟩, S.fpo, ⟨o, k sl (by simp) o ho, q⟩, S.slfp, S.slL, S.slb, S.slfs, m, o2, es, ep, k _ (by simp) o2 ho2, r⟩
theorem Slp.obj {A : Around} {env : Env} {outer : List Env} {lo : Addr} {ys : List V} {i : Nat} {gs : GenState} {h : Heap} {fp : List Addr} {sl : Addr} (S : Slp P w K base tg e yp ypos A env outer lo ys i gs h fp sl) :
    ∀ b ∈ env.locals :: sl :: fp, ∃ o, h.get? b = some o ∧ ∀ v, o.data ≠ .cell v := by
  intro b hb
  obtain ⟨it, tn, fs, kk, l, p, e1, e2, e3, e4, e5, e6, T, st⟩ := S.ex
  rcases List.mem_cons.mp hb with rfl | hb
  · obtain ⟨m, o, es, ep, ho, hd, _⟩ := S.ns
    exact ⟨o, ho, fun v z => by rw [hd] at z; cases z⟩
  rcases List.mem_cons.mp hb with rfl | hb
  · obtain ⟨o, ho, _, its, n, _, rfl⟩ := S.lst
    exact ⟨_, ho, fun v z => by cases z⟩
  · exact T.obj i h st b hb
/-- what stands of the lists -/
def lsOf (lo : Addr) (xs : List V) (sl : Addr) (ys : List V) : Addr → Option (List V) := fun b => if b = lo then some xs else if b = sl then some ys else none
/-- a new tuple of two in the generator's context stands nowhere of before -/
theorem not_there {A' : Around} {env : Env} {outer : List Env} {s s1 : Shared} {pr : List Addr} {ls : Addr → Option (List V)} {pins : List (Addr × Obj)} {σ : L2.St} {H1 : Hp} {p : Addr} {u : HO}
    (I : Inv (Xz P w K mg base N A' env outer s pr ls) pins σ H1 s1) (hfr : ∀ b ∈ frs outer, b < env.locals) (hpr : ∀ b ∈ pr, H1 b = none) (e1 : H1 p = some u) (hu : ∀ o v, u ≠ .frz o v) : s.heap.get? p = none := by
  cases q : s.heap.get? p with
  | none => rfl
  | some o =>
    have h1 : p ∉ env.locals :: pr := fun hm => by
      rcases List.mem_cons.mp hm with rfl | hm
      · rw [show H1 env.locals = none from I.free] at e1; cases e1
      · rw [hpr p hm] at e1; cases e1
    have h2 : p ∉ frs outer := fun hm => by
      have := I.base.free p o (by show (cut s.heap env.locals).get? p = _; rw [cut_lt (hfr p hm)]; exact q) (fz_fs hm) (fun z => by cases z)
      rw [e1] at this; cases this
    have h3 : base.get? p = none := by
      cases qb : base.get? p with
      | none => rfl
      | some ob =>
        have := (I.bs p ob qb).2
        rw [e1] at this; cases this
    obtain ⟨v, hv⟩ := fz_get (ls := ls) q h1 h2 h3
    have := I.base.frzs p o v hv
    rw [e1] at this
    exact absurd (Option.some.inj this) (hu o v)
end
section
theorem ok_some {P : Program} {w : World} {H : Hp} {h : Heap} {a : Addr} {o : HO} (x : ObjOk P w H h a o) : ∃ ob, h.get? a = some ob := by
  cases o with
  | lst xs => obtain ⟨_, _, _, _, e⟩ := x; exact ⟨_, e⟩
  | tup xs => obtain ⟨_, _, _, ob, e, _⟩ := x; exact ⟨ob, e⟩
  | dK kvs => obtain ⟨_, _, _, _, ob, _, _, e, _⟩ := x; exact ⟨ob, e⟩
  | dT kvs => obtain ⟨_, _, _, _, ob, _, _, e, _⟩ := x; exact ⟨ob, e⟩
  | set S n => obtain ⟨ob, _, _, _, e, _⟩ := x; exact ⟨ob, e⟩
  | ins C dx fs => obtain ⟨_, _, _, e, _⟩ := x; exact ⟨_, e⟩
  | own y => obtain ⟨ob, e⟩ := x; exact ⟨ob, e⟩
  | xd fs => obtain ⟨_, ⟨ob, _, _, e, _⟩, _⟩ := x; exact ⟨ob, e⟩
  | rng lo hi => obtain ⟨_, _, _, e⟩ := x; exact ⟨_, e⟩
  | frz ob u => exact ⟨ob, x.1⟩
  | tbl ps => exact ⟨_, (show h.get? a = some _ from x)⟩
  | met f y => exact ⟨_, (show h.get? a = some _ from x)⟩
  | ext φ => exact x.2.1
variable {X : Cx} {pins : List (Addr × Obj)} {σ : L2.St} {H : Hp} {s : Shared}
theorem new_none {b : Addr} (I : Inv X pins σ H s) (h : s.heap.get? b = none) : H b = none := by
  cases q : H b with
  | none => rfl
  | some u =>
    obtain ⟨ob, e⟩ := ok_some (I.hok b u q)
    rw [h] at e; cases e
theorem own_new {b : Addr} (I : Inv X pins σ H s) (h : s.heap.get? b = none) : Own X pins H b where
  un := new_none I h
  loc := fun z => by
    obtain ⟨m, ⟨o, _, _, ho, _⟩, _⟩ := I.loc
    rw [← z, h] at ho; cases ho
  fs := fun z => by
    obtain ⟨_, o, ho, _⟩ := I.funs.mem z
    rw [h] at ho; cases ho
  cell := fun y c e z => by
    obtain ⟨v, o, ho, _⟩ := I.cell y c e
    rw [z, h] at ho; cases ho
  pin := fun p hp z => by
    have := (I.pin p hp).1
    rw [z, h] at this; cases this
theorem Own.up {b p : Addr} {o : HO} (h : Own X pins H b) (hb : b ≠ p) : Own X pins (upd H p o) b := ⟨by rw [upd_ne hb]; exact h.un, h.loc, h.fs, h.cell, h.pin⟩
end
section
variable {X : Cx} {pins : List (Addr × Obj)} {σ : L2.St} {H : Hp} {s : Shared} {k : Nat} {x qual : Str} {st : Stmt} {f : Addr} {fd : FuncData} {N : List Str} {p0 : Str} {tg iter e : Expr} {yp ypos fpos : Pos} {g : TG} {te : TE} {wi : TI}
/-- a turn's end: the next pair, or nothing -/
def Turned (X : Cx) (pins : List (Addr × Obj)) (σ : L2.St) (H : Hp) (tg e : Expr) (yp ypos : Pos) (env : Env) (a : Addr) (gn : Nat) (lo : Addr) (xs : List V) (i : Nat) (r : Option Value) (s1 : Shared) : Prop :=
  (∃ (u v : V) (p : Addr) (gs : GenState) (fp : List Addr) (sl : Addr), r = some (.ref p) ∧ xs[i]? = some u ∧ xs[i + 1]? = some v ∧ H p = none ∧ Inv X pins σ (upd H p (.tup [u, v])) s1 ∧ s1.heap.IsGen a gn ∧ s1.gens[gn]? = some gs ∧
    Slp X.prog X.w X.K X.base tg e yp ypos X.A.in1 env X.stack lo (xs.drop 1) (i + 1) gs s1.heap fp sl ∧ (∀ b ∈ a :: env.locals :: sl :: fp, Own X pins (upd H p (.tup [u, v])) b) ∧ a ∉ env.locals :: fp) ∨
  (r = none ∧ xs.length ≤ i + 1 ∧ Inv X pins σ H s1)
theorem drop1 {xs : List V} {i : Nat} : (xs.drop 1)[i]? = xs[i + 1]? := by
  rw [List.getElem?_drop, Nat.add_comm]
theorem itz_go {K : PySem.W.Frag} {H : Hp} {lo sl : Addr} {xs : List V} {i : Nat} (h1 : SqL K H lo xs) (h2 : SqL K H sl (xs.drop 1)) (h : i + 1 < xs.length) : (Itz K lo sl).go i H :=
  ⟨xs, xs.drop 1, xs[i], xs[i + 1], h1, h2, List.getElem?_eq_getElem _, by rw [drop1]; exact List.getElem?_eq_getElem h⟩
theorem itz_stop {K : PySem.W.Frag} {H : Hp} {lo sl : Addr} {xs : List V} {i : Nat} (h1 : SqL K H lo xs) (h2 : SqL K H sl (xs.drop 1)) (h : xs.length ≤ i + 1) : (Itz K lo sl).stop i H :=
  ⟨xs, xs.drop 1, h1, h2, .inr (by rw [List.length_drop]; omega)⟩
theorem same_of_new {H : Hp} {p : Addr} {o : HO} (h : H p = none) : Same H (upd H p o) := fun b u q => by
  rw [upd_ne (fun z => by rw [z, h] at q; cases q)]
  exact q
theorem env0_run {gn : Nat} (I : Inv X pins σ H s) : Env0 X.prog X.w X.K X.mg X.base X.A.in1 X.stack (s.setGen gn .running) H :=
  ⟨I.env0.frames, I.env0.mod, I.env0.bs, I.env0.bsz, I.env0.funs, I.env0.frf, I.env0.hok, allBare_setGen I.bare rfl⟩
theorem isl_of {lo : Addr} {xs : List V} (I : Inv X pins σ H s) (h : H lo = some (.lst xs)) : ∃ o, s.heap.get? lo = some o ∧ IsL o xs := by
  obtain ⟨z, its, n, r, e⟩ := I.hok lo _ h
  exact ⟨_, e, z, its, n, r, rfl⟩
theorem turned_back {L : Addr} {cd : Value} {a : Addr} {gn lo i : Nat} {xs : List V} {u v : V} {p : Addr} {fp : List Addr} {sl : Addr} {gs : GenState} {s1 : Shared} (I : Inv X pins σ H s) (Ef : Eff X.base X.stack (L :: fp) s s1) (hp : s.heap.get? p = none)
    (ht : ∃ its, Vals [u, v] its ∧ IsTup s1.heap p its.toArray) (hu : xs[i]? = some u) (hv : xs[i + 1]? = some v) (hch : ∀ b ∈ L :: fp, Own X pins H b ∧ X.s_0.heap.objs.size ≤ b) (hgen : s.heap.IsGen a gn) (hag : a ∉ L :: fp) (hafs : a ∉ frs X.stack)
    (hbare : gs.bare = true) (hsz : gn < s1.gens.size) (S : Slp X.prog X.w X.K X.base tg e yp ypos X.A.in1 (envOfC qual (defScope st) L f cd) X.stack lo (xs.drop 1) (i + 1) gs s1.heap fp sl) (hown : ∀ b ∈ a :: L :: sl :: fp, Own X pins H b ∧ b ≠ p) :
    Turned X pins σ H tg e yp ypos (envOfC qual (defScope st) L f cd) a gn lo xs i (some (.ref p)) (s1.setGen gn gs) := by
  have hpn := new_none I hp
  refine .inl ⟨u, v, p, gs, fp, sl, rfl, hu, hv, hpn, ?_, ?_, setGen_at hsz, S, fun b hb => (hown b hb).1.up (hown b hb).2, hag⟩
  · refine back_any (s4 := s1) I Ef (fun b o q => q) rfl (allBare_setGen Ef.bare hbare) hch (fun b o q => ?_) (fun b u q => ?_) fun b u' q n => ?_
    · rw [upd_ne (fun z => by rw [z, hp] at q; cases q)]
    · rw [upd_ne (fun z => by rw [z, hpn] at q; cases q)]
      exact q
    · by_cases hb : b = p
      · subst hb
        rw [upd_same] at q
        cases q
        obtain ⟨its, r, tt⟩ := ht
        exact ⟨by show 2 ≤ sizeLine; decide, its, r, tt⟩
      · rw [upd_ne hb, n] at q
        cases q
  · obtain ⟨o, nm, qn, ho, r⟩ := hgen
    exact ⟨o, nm, qn, Ef.keep a o ho hag hafs, r⟩
theorem next_slp {L : Addr} {cd : Value} {a : Addr} {gn lo i : Nat} {xs : List V} {fp : List Addr} {sl : Addr} {gs : GenState} {E : Value → Shared → Prop} (Tx : GT X.prog X.w X.K X.mg X.base x qual st f fd N p0 tg iter e yp ypos fpos g te wi) (hr : Room k X.A) (I : Inv X pins σ H s)
    (hlo : H lo = some (.lst xs)) (hL1 : ∀ b ∈ frs X.stack, b < L) (hL2 : X.base.objs.size ≤ L) (hL3 : X.s_0.heap.objs.size ≤ L) (hgen : s.heap.IsGen a gn) (hgs : s.gens[gn]? = some gs)
    (S : Slp X.prog X.w X.K X.base tg e yp ypos X.A.in1 (envOfC qual (defScope st) L f cd) X.stack lo (xs.drop 1) i gs s.heap fp sl) (hown : ∀ b ∈ a :: L :: sl :: fp, Own X pins H b) (hag : a ∉ L :: fp) (hafs : a ∉ frs X.stack) :
    wpAny (model X.prog X.w) X.A (pyNext (.ref a)) (Turned X pins σ H tg e yp ypos (envOfC qual (defScope st) L f cd) a gn lo xs i) E s := by
  obtain ⟨it, tn, fs, kk, l, pp, rfl, e2, e3, e4, e5, e6, T, stn⟩ := S.ex
  obtain ⟨m, hm⟩ := S.ns
  have e0 := env0_run (gn := gn) I
  have hgl : gn < s.gens.size := (Array.getElem?_eq_some_iff.mp hgs).1
  have hls : ∀ b ys, lsOf lo xs sl (xs.drop 1) b = some ys → ∃ o, (s.setGen gn .running).heap.get? b = some o ∧ IsL o ys := fun b ys q => by
    unfold lsOf at q
    by_cases h1 : b = lo
    · rw [if_pos h1] at q
      cases q
      rw [h1]
      have := isl_of I hlo
      exact this
    · rw [if_neg h1] at q
      by_cases h2 : b = sl
      · rw [if_pos h2] at q
        cases q
        rw [h2]
        exact S.lst
      · rw [if_neg h2] at q
        cases q
  have Ig := inv_fz (N := N) (σ := List.replicate N.length none) (pr := fp) (genv Tx.D L cd) e0 hL1 hL2 hr.hd (Around.frames_deeper (env := envOfC qual (defScope st) L f cd) e0.frames) hr.hd hls (by simp) ⟨m, hm, fun j y z h1 h2 _ => by
    rw [List.getElem?_replicate] at h2
    split at h2 <;> cases h2⟩
  have hlo0 : ∀ b ∈ L :: fp, b ≠ lo := fun b hb z => by
    have := (hown b (by rcases List.mem_cons.mp hb with q | q <;> simp [q])).un
    rw [z, hlo] at this; cases this
  obtain ⟨olo, hol, _⟩ := isl_of I hlo
  have hlob : X.base.get? lo = none := by
    cases q : X.base.get? lo with
    | none => rfl
    | some o =>
      have := (I.bs lo o q).2
      rw [hlo] at this; cases this
  have hlof : lo ∉ frs X.stack := fun z => by
    have := I.stkFree lo z
    rw [hlo] at this; cases this
  have slo : sl ≠ lo := fun z => by
    have := (hown sl (by simp)).un
    rw [z, hlo] at this; cases this
  obtain ⟨osl, hosl, _⟩ := S.lst
  have q1 : SqL X.K (Hz (envOfC qual (defScope st) L f cd) X.base X.stack (s.setGen gn .running) fp (lsOf lo xs sl (xs.drop 1))) lo xs :=
    .inl (.inr ⟨olo, fz_lst hol (fun z => hlo0 lo z rfl) hlof hlob (if_pos rfl)⟩)
  have q2 : SqL X.K (Hz (envOfC qual (defScope st) L f cd) X.base X.stack (s.setGen gn .running) fp (lsOf lo xs sl (xs.drop 1))) sl (xs.drop 1) := by
    refine .inl (.inr ⟨osl, fz_lst hosl (fun z => ?_) S.slfs S.slb ?_⟩)
    · rcases List.mem_cons.mp z with q | q
      · exact S.slL q
      · exact S.slfp q
    · unfold lsOf
      rw [if_neg slo, if_pos rfl]
  have hf : ∀ b ∈ fp, FpOk (Xz X.prog X.w X.K X.mg X.base N (X.A.in1.deeper (envOfC qual (defScope st) L f cd)) (envOfC qual (defScope st) L f cd) X.stack (s.setGen gn .running) fp (lsOf lo xs sl (xs.drop 1))) [] (Hz (envOfC qual (defScope st) L f cd) X.base X.stack (s.setGen gn .running) fp (lsOf lo xs sl (xs.drop 1))) b := fun b hb => by
    obtain ⟨z1, z2, z3⟩ := S.fpo b hb
    refine ⟨fz_pr (List.mem_cons_of_mem _ hb), z1, z2, .inr ?_, fun y c z => ?_, fun p hp => ?_⟩
    · show (cut s.heap L).objs.size ≤ b
      have ec : (cut s.heap L).objs.size = L := cut_size (Nat.le_of_lt hm.lt)
      rw [ec]
      exact z3
    · have z : (cellsFrom (L + 1) (defScope st).names []).lookup y = some c := z
      rw [cells_nil Tx.D.loc] at z
      cases z
    · exact absurd (show p ∈ ([] : List (Addr × Obj)) from hp) (by simp)
  have hch : ∀ b ∈ L :: fp, Own X pins H b ∧ X.s_0.heap.objs.size ≤ b := fun b hb => by
    refine ⟨hown b (by rcases List.mem_cons.mp hb with q | q <;> simp [q]), ?_⟩
    rcases List.mem_cons.mp hb with q | q
    · rw [q]; exact hL3
    · exact Nat.le_trans hL3 (S.fpo b q).2.2
  have efs : ∀ {s1 : Shared}, Eff X.base X.stack (L :: fp) (s.setGen gn .running) s1 → Eff X.base X.stack (L :: fp) s s1 := fun z => ⟨z.os, z.bare, z.keep, z.slot⟩
  refine wpAny_gsz (n := gn + 1) hgl ?_
  refine next_gl (Φ := fun ee s1 => (∃ ps k' l' pos u v, ee = .susp (.ref ps) false l' k' (gLoop tg e yp ypos it (envOfC qual (defScope st) L f cd)) pos fs ∧ xs[i]? = some u ∧ xs[i + 1]? = some v ∧ s.heap.get? ps = none ∧ Eff X.base X.stack (L :: fp) s s1 ∧
      (∃ its, Vals [u, v] its ∧ IsTup s1.heap ps its.toArray) ∧ tn (i + 1) s1.heap ∧ Again X.prog X.w X.A.in1 (gLoop tg e yp ypos it (envOfC qual (defScope st) L f cd)) fs k' ∧ ∃ m, s1.heap.Ns L m) ∨
    (ee = .ret (.ok (.ret .none)) ∧ xs.length ≤ i + 1 ∧ Eff X.base X.stack (L :: fp) s s1)) hr.hd I.nolimit (by have := hr.dp; omega) hgen hgs ?_ ?_
  · refine e6 _ _ ?_
    by_cases hlen : i + 1 < xs.length
    · refine sg_item (A' := X.A.in1.deeper (envOfC qual (defScope st) L f cd)) e5 e2 e3 Tx.D.co (Tx.int L cd) (fun s0 H0 => Tx.hg _ L cd _ s0 H0) (fun s0 H0 => Tx.he _ L cd _ s0 H0) T Ig hf stn (itz_go q1 q2 hlen)
        (Post := fun y H3 => ∃ TT a b p, y = .ref p ∧ H3 p = some (.tup [a, b]) ∧ xs[i]? = some a ∧ xs[i + 1]? = some b ∧ H3 = upd (upd (Hz (envOfC qual (defScope st) L f cd) X.base X.stack (s.setGen gn .running) fp (lsOf lo xs sl (xs.drop 1))) TT (.tup [a, b])) p (.tup [a, b])) ?_ ?_
      · rintro y H2 ⟨TT, a', b', rfl, ht, rfl, g1, g2⟩
        exact Tx.r2 _ _ TT a' b' _ (by simp) ht fun p hp => ⟨TT, a', b', p, rfl, upd_same, g1 xs q1, by rw [← drop1]; exact g2 _ q2, rfl⟩
      · rintro v y σ1 pins1 H3 s1 I1 st1 fr1 rv ⟨TT, a', b', p, rfl, hp3, g1, g2, rfl⟩ k' l' pos ag
        obtain rfl : v = Value.ref p := rv
        obtain ⟨_, its, r, tt⟩ := I1.hok p _ hp3
        obtain ⟨m1, hm1, _⟩ := I1.loc
        exact .inl ⟨p, k', l', pos, a', b', rfl, g1, g2, not_there (s := s.setGen gn .running) I1 hL1 fr1 hp3 (fun o v z => by cases z), efs (eff_of e0 hL1 hL2 I1), ⟨its, r, tt⟩, st1, ag, m1, hm1⟩
    · exact sg_stop e5 T Ig hf stn (itz_stop q1 q2 (by omega)) e4 fun s1 I1 => .inr ⟨rfl, by omega, efs (eff_of e0 hL1 hL2 I1)⟩
  · rintro ee s1 (⟨ps, k', l', pos, u, v, rfl, g1, g2, hps, Ef, ht, st1, ag, hns1⟩ | ⟨rfl, hlen, Ef⟩)
    · refine .inl ⟨.ref ps, l', k', _, pos, fs, rfl, e3, fun hsz => ?_⟩
      have egs : (End.susp (.ref ps) false l' k' (gLoop tg e yp ypos it (envOfC qual (defScope st) L f cd)) pos fs).genState = .suspended k' l' (gLoop tg e yp ypos it (envOfC qual (defScope st) L f cd)) pos fs false := by
        show GenState.suspended _ _ _ _ _ (false || fs.any Frame.guarded) = _
        rw [e3]
        rfl
      rw [egs] at hsz ⊢
      rw [setGen_size] at hsz
      have ksl : s1.heap.get? sl = some osl := Ef.keep sl osl hosl (fun z => by
        rcases List.mem_cons.mp z with q | q
        · exact S.slL q
        · exact S.slfp q) S.slfs
      obtain ⟨osl', hosl', isl'⟩ := S.lst
      rw [hosl] at hosl'
      cases hosl'
      refine turned_back I Ef hps ht g1 g2 hch hgen hag hafs rfl hsz ⟨⟨it, tn, fs, k', l', pos, rfl, e2, e3, e4, e5, ag, T, st1⟩, S.fpo, ⟨osl, ksl, isl'⟩, S.slfp, S.slL, S.slb, S.slfs, hns1⟩ fun b hb => ⟨hown b hb, fun z => ?_⟩
      rw [z] at hb
      rcases List.mem_cons.mp hb with q | hb
      · obtain ⟨o, _, _, ho, _⟩ := hgen
        rw [← q, hps] at ho; cases ho
      rcases List.mem_cons.mp hb with q | hb
      · obtain ⟨o, _, _, ho, _⟩ := hm
        have ho : s.heap.get? L = some o := ho
        rw [← q, hps] at ho; cases ho
      rcases List.mem_cons.mp hb with q | hb
      · rw [← q, hps] at hosl; cases hosl
      · obtain ⟨o, ho, _⟩ := T.obj i _ stn ps hb
        rw [hps] at ho; cases ho
    · refine .inr ⟨rfl, fun h' hk _ => .inr ⟨rfl, hlen, ?_⟩⟩
      exact back_any (s4 := s1) I Ef hk rfl (allBare_setGen Ef.bare rfl) hch (fun b o q => rfl) (fun b u q => q) fun b u q n => by rw [n] at q; cases q
theorem next_new {L : Addr} {cd : Value} {a : Addr} {gn lo : Nat} {xs : List V} {E : Value → Shared → Prop} (Tx : GT X.prog X.w X.K X.mg X.base x qual st f fd N p0 tg iter e yp ypos fpos g te wi) (hr : Room k X.A) (I : Inv X pins σ H s)
    (hlo : H lo = some (.lst xs)) (hL1 : ∀ b ∈ frs X.stack, b < L) (hL2 : X.base.objs.size ≤ L) (hL3 : X.s_0.heap.objs.size ≤ L) (hgen : s.heap.IsGen a gn)
    (hgs : s.gens[gn]? = some (.fresh (.func (defBody st) (envOfC qual (defScope st) L f cd)))) (hns : ∃ m, s.heap.Ns L m ∧ m p0 = some (.ref lo)) (hown : ∀ b ∈ [a, L], Own X pins H b) (haL : a ≠ L) (hafs : a ∉ frs X.stack) (hab : X.base.get? a = none) :
    wpAny (model X.prog X.w) X.A (pyNext (.ref a)) (Turned X pins σ H tg e yp ypos (envOfC qual (defScope st) L f cd) a gn lo xs 0) E s := by
  obtain ⟨m, hm, hmp⟩ := hns
  have e0 := env0_run (gn := gn) I
  have hgl : gn < s.gens.size := (Array.getElem?_eq_some_iff.mp hgs).1
  have hls : ∀ b ys, lsOf lo xs lo xs b = some ys → ∃ o, (s.setGen gn .running).heap.get? b = some o ∧ IsL o ys := fun b ys q => by
    unfold lsOf at q
    by_cases h1 : b = lo
    · rw [if_pos h1] at q
      cases q
      rw [h1]
      have := isl_of I hlo
      exact this
    · rw [if_neg h1, if_neg h1] at q
      cases q
  have hN : N = p0 :: N.drop 1 := by
    have := List.take_append_drop 1 N
    rw [Tx.D.pre] at this
    exact this.symm
  have Ig := inv_fz (N := N) (σ := some (.ref lo) :: List.replicate (N.length - 1) none) (pr := []) (genv Tx.D L cd) e0 hL1 hL2 hr.hd (Around.frames_deeper (env := envOfC qual (defScope st) L f cd) e0.frames) hr.hd hls (by
    rw [hN]
    simp) ⟨m, hm, fun j y z h1 h2 _ => by
    cases j with
    | zero =>
      rw [hN] at h1
      cases h1
      cases h2
      exact ⟨_, rfl, Tx.D.par, hmp⟩
    | succ j =>
      rw [List.getElem?_cons_succ, List.getElem?_replicate] at h2
      split at h2 <;> cases h2⟩
  obtain ⟨olo, hol, _⟩ := isl_of I hlo
  have hlob : X.base.get? lo = none := by
    cases q : X.base.get? lo with
    | none => rfl
    | some o =>
      have := (I.bs lo o q).2
      rw [hlo] at this; cases this
  have hlof : lo ∉ frs X.stack := fun z => by
    have := I.stkFree lo z
    rw [hlo] at this; cases this
  have hloL : lo ≠ L := fun z => by
    have := (hown L (by simp)).un
    rw [← z, hlo] at this; cases this
  have q1 : SqL X.K (Hz (envOfC qual (defScope st) L f cd) X.base X.stack (s.setGen gn .running) [] (lsOf lo xs lo xs)) lo xs :=
    .inl (.inr ⟨olo, fz_lst hol (fun z => hloL (List.mem_singleton.mp z)) hlof hlob (if_pos rfl)⟩)
  have efs : ∀ {s1 : Shared}, Eff X.base X.stack [L] (s.setGen gn .running) s1 → Eff X.base X.stack [L] s s1 := fun z => ⟨z.os, z.bare, z.keep, z.slot⟩
  have hch : ∀ b ∈ [L], Own X pins H b ∧ X.s_0.heap.objs.size ≤ b := fun b hb => by
    obtain rfl := List.mem_singleton.mp hb
    exact ⟨hown b (by simp), hL3⟩
  refine wpAny_gsz (n := gn + 1) hgl ?_
  refine next_gl (Φ := fun ee s1 => (∃ ps k' l' pos u v it fp tn sl fs, ee = .susp (.ref ps) false l' k' (gLoop tg e yp ypos it (envOfC qual (defScope st) L f cd)) pos fs ∧ splitAtGen fs = none ∧ fs.any Frame.guarded = false ∧ Ends X.prog X.w X.A.in1 fs ∧
      X.A.in1.over (gLoop tg e yp ypos it (envOfC qual (defScope st) L f cd)) fs = X.A.in1.deeper (envOfC qual (defScope st) L f cd) ∧ xs[0]? = some u ∧ xs[0 + 1]? = some v ∧ s.heap.get? ps = none ∧ Eff X.base X.stack [L] s s1 ∧
      (∃ its, Vals [u, v] its ∧ IsTup s1.heap ps its.toArray) ∧ Turn X.prog X.w X.K tg (Itz X.K lo sl) fp it tn ∧ tn (0 + 1) s1.heap ∧ Again X.prog X.w X.A.in1 (gLoop tg e yp ypos it (envOfC qual (defScope st) L f cd)) fs k' ∧ (∃ m, s1.heap.Ns L m) ∧
      (∀ b ∈ fp, b ≠ L ∧ L ≤ b ∧ s.heap.get? b = none ∧ b ∉ frs X.stack ∧ b ≠ ps) ∧ s.heap.get? sl = none ∧ sl ∉ fp ∧ sl ≠ ps ∧ ∃ o, s1.heap.get? sl = some o ∧ IsL o (xs.drop 1)) ∨
    (ee = .ret (.ok (.ret .none)) ∧ xs.length ≤ 0 + 1 ∧ Eff X.base X.stack [L] s s1)) hr.hd I.nolimit (by have := hr.dp; omega) hgen hgs ?_ ?_
  · show Sg _ X.A.in1 _ (.func (defBody st) _) _ [] _
    rw [Tx.body]
    refine sg_first (tg := tg) (e := e) (yp := yp) (ypos := ypos) (N := N) (R := fun J H1 => ∃ sl, J = Itz X.K lo sl ∧ (Hz (envOfC qual (defScope st) L f cd) X.base X.stack (s.setGen gn .running) [] (lsOf lo xs lo xs)) sl = none ∧
      H1 = upd (Hz (envOfC qual (defScope st) L f cd) X.base X.stack (s.setGen gn .running) [] (lsOf lo xs lo xs)) sl (.lst (xs.drop 1))) (Tx.hs _) Ig (Tx.hi _ L cd _ _ _) (Tx.r1 _ lo xs _ q1 fun sl hsl => ⟨sl, rfl, hsl, rfl⟩) ?_
    rintro it fp tn J H1 s1 I1 T stn hf ⟨sl, rfl, hsl, rfl⟩ fs e2 e3 e4 e5
    have q1' : SqL X.K (upd (Hz (envOfC qual (defScope st) L f cd) X.base X.stack (s.setGen gn .running) [] (lsOf lo xs lo xs)) sl (.lst (xs.drop 1))) lo xs := (same_of_new hsl).seq q1
    have q2' : SqL X.K (upd (Hz (envOfC qual (defScope st) L f cd) X.base X.stack (s.setGen gn .running) [] (lsOf lo xs lo xs)) sl (.lst (xs.drop 1))) sl (xs.drop 1) := .inl (.inl upd_same)
    have nth : ∀ {p u}, (upd (Hz (envOfC qual (defScope st) L f cd) X.base X.stack (s.setGen gn .running) [] (lsOf lo xs lo xs)) sl (.lst (xs.drop 1))) p = some u → (∀ o v, u ≠ .frz o v) → s.heap.get? p = none := fun {p u} z1 z2 =>
      not_there (s := s.setGen gn .running) I1 hL1 (fun b z => by cases z) z1 z2
    have hsln := nth upd_same (fun o v z => by cases z)
    by_cases hlen : 0 + 1 < xs.length
    · refine sg_item (A' := X.A.in1.deeper (envOfC qual (defScope st) L f cd)) e5 e2 e3 Tx.D.co (Tx.int L cd) (fun s0 H0 => Tx.hg _ L cd _ s0 H0) (fun s0 H0 => Tx.he _ L cd _ s0 H0) T I1 hf stn (itz_go q1' q2' hlen)
        (Post := fun y H3 => ∃ TT a b p, y = .ref p ∧ H3 p = some (.tup [a, b]) ∧ xs[0]? = some a ∧ xs[0 + 1]? = some b ∧ sl ≠ p ∧ H3 sl = some (.lst (xs.drop 1)) ∧
          H3 = upd (upd (upd (Hz (envOfC qual (defScope st) L f cd) X.base X.stack (s.setGen gn .running) [] (lsOf lo xs lo xs)) sl (.lst (xs.drop 1))) TT (.tup [a, b])) p (.tup [a, b])) ?_ ?_
      · rintro y H2 ⟨TT, a', b', rfl, ht, rfl, g1, g2⟩
        have nT : sl ≠ TT := fun z => by rw [← z, upd_same] at ht; cases ht
        refine Tx.r2 _ _ TT a' b' _ (by rw [hN]; simp) ht fun p hp => ?_
        have np : sl ≠ p := fun z => by
          rw [← z, upd_ne nT, upd_same] at hp
          cases hp
        exact ⟨TT, a', b', p, rfl, upd_same, g1 xs q1', by rw [← drop1]; exact g2 _ q2', np, by rw [upd_ne np, upd_ne nT, upd_same], rfl⟩
      · rintro v y σ1 pins1 H3 s2 I2 st2 fr2 rv ⟨TT, a', b', p, rfl, hp3, g1, g2, np, hs3, rfl⟩ k' l' pos ag
        obtain rfl : v = Value.ref p := rv
        obtain ⟨_, its, r, tt⟩ := I2.hok p _ hp3
        obtain ⟨z9, itl, nl, rl, el⟩ := I2.hok sl _ hs3
        obtain ⟨m1, hm1, _⟩ := I2.loc
        have nsl : sl ∉ fp := fun z => by
          have := (hf sl z).1
          rw [upd_same] at this; cases this
        refine .inl ⟨p, k', l', pos, a', b', it, fp, tn, sl, fs, rfl, e2, e3, e4, e5, g1, g2, not_there (s := s.setGen gn .running) I2 hL1 (fun b z => by cases z) hp3 (fun o v z => by cases z), efs (eff_of e0 hL1 hL2 I2), ⟨its, r, tt⟩, T, st2, ag, ⟨m1, hm1⟩, fun b hb => ?_, hsln, nsl, np, _, el, z9, itl, nl, rl, rfl⟩
        obtain ⟨z1, z2, z3, z4, _⟩ := hf b hb
        have hLb : L ≤ b := by
          rcases z4 with z | z
          · exact absurd (show b ∈ ([] : List Addr) from z) (by simp)
          · have ec : (cut s.heap L).objs.size = L := cut_size (Nat.le_of_lt hm.lt)
            have z : (cut s.heap L).objs.size ≤ b := z
            rwa [ec] at z
        refine ⟨z2, hLb, ?_, z3, fun z => ?_⟩
        · cases q : s.heap.get? b with
          | none => rfl
          | some o =>
            have hbb : X.base.get? b = none := by
              cases qb : X.base.get? b with
              | none => rfl
              | some ob =>
                have := Heap.lt_size qb
                exact absurd (Nat.lt_of_lt_of_le this (Nat.le_trans hL2 hLb)) (Nat.lt_irrefl _)
            obtain ⟨u', hu'⟩ := fz_get (h := s.heap) (base := X.base) (fs := frs X.stack) (pr := [L]) (ls := lsOf lo xs lo xs) q (fun z => z2 (List.mem_singleton.mp z)) z3 hbb
            have hu' : (Hz (envOfC qual (defScope st) L f cd) X.base X.stack (s.setGen gn .running) [] (lsOf lo xs lo xs)) b = some (.frz o u') := hu'
            have nb : b ≠ sl := fun z => nsl (by rw [← z]; exact hb)
            rw [upd_ne nb, hu'] at z1
            cases z1
        · have := fr2 b hb
          rw [z, upd_same] at this
          cases this
    · exact sg_stop e5 T I1 hf stn (itz_stop q1' q2' (by omega)) e4 fun s2 I2 => .inr ⟨rfl, by omega, efs (eff_of e0 hL1 hL2 I2)⟩
  · rintro ee s1 (⟨ps, k', l', pos, u, v, it, fp, tn, sl, fs, rfl, e2, e3, e4, e5, g1, g2, hps, Ef, ht, T, st1, ag, hns1, hfp, hsln, nsl, np, isl⟩ | ⟨rfl, hlen, Ef⟩)
    · refine .inl ⟨.ref ps, l', k', _, pos, fs, rfl, e3, fun hsz => ?_⟩
      have egs : (End.susp (.ref ps) false l' k' (gLoop tg e yp ypos it (envOfC qual (defScope st) L f cd)) pos fs).genState = .suspended k' l' (gLoop tg e yp ypos it (envOfC qual (defScope st) L f cd)) pos fs false := by
        show GenState.suspended _ _ _ _ _ (false || fs.any Frame.guarded) = _
        rw [e3]
        rfl
      rw [egs] at hsz ⊢
      rw [setGen_size] at hsz
      obtain ⟨oa, _, _, hoa, _⟩ := hgen
      obtain ⟨oL, _, _, hoL, _⟩ := hm
      have hoL : s.heap.get? L = some oL := hoL
      have Ef2 : Eff X.base X.stack (L :: fp) s s1 := ⟨Ef.os, Ef.bare, fun b o q n nf => Ef.keep b o q (fun z => n (by rw [List.mem_singleton.mp z]; exact List.mem_cons_self)) nf, Ef.slot⟩
      have hslb : X.base.get? sl = none := by
        cases qb : X.base.get? sl with
        | none => rfl
        | some ob =>
          have := (I.bs sl ob qb).1
          rw [hsln] at this; cases this
      have hslf : sl ∉ frs X.stack := fun z => by
        obtain ⟨_, o, ho, _⟩ := I.stack.mem z
        rw [hsln] at ho; cases ho
      have hslL : sl ≠ L := fun z => by rw [z, hoL] at hsln; cases hsln
      have hch2 : ∀ b ∈ L :: fp, Own X pins H b ∧ X.s_0.heap.objs.size ≤ b := fun b hb => by
        rcases List.mem_cons.mp hb with rfl | hb
        · exact ⟨hown b (by simp), hL3⟩
        · obtain ⟨_, z2, z3, _, _⟩ := hfp b hb
          exact ⟨own_new I z3, Nat.le_trans hL3 z2⟩
      refine turned_back I Ef2 hps ht g1 g2 hch2 ⟨oa, _, _, hoa, by assumption⟩ (fun z => ?_) hafs rfl hsz ⟨⟨it, tn, fs, k', l', pos, rfl, e2, e3, e4, e5, ag, T, st1⟩, fun b hb => ⟨(hfp b hb).1, (hfp b hb).2.2.2.1, (hfp b hb).2.1⟩, isl, nsl, hslL, hslb, hslf, hns1⟩ fun b hb => ?_
      · rcases List.mem_cons.mp z with z | z
        · exact haL z
        · rw [(hfp a z).2.2.1] at hoa; cases hoa
      · rcases List.mem_cons.mp hb with rfl | hb
        · exact ⟨hown b (by simp), fun z => by rw [z, hps] at hoa; cases hoa⟩
        rcases List.mem_cons.mp hb with rfl | hb
        · exact ⟨hown b (by simp), fun z => by rw [z, hps] at hoL; cases hoL⟩
        rcases List.mem_cons.mp hb with rfl | hb
        · exact ⟨own_new I hsln, np⟩
        · exact ⟨own_new I (hfp b hb).2.2.1, (hfp b hb).2.2.2.2⟩
    · refine .inr ⟨rfl, fun h' hk _ => .inr ⟨rfl, hlen, ?_⟩⟩
      exact back_any (s4 := s1) I Ef hk rfl (allBare_setGen Ef.bare rfl) hch (fun b o q => rfl) (fun b u q => q) fun b u q n => by rw [n] at q; cases q
end
end Gl

namespace Z
open PySem PySem.Spec PyProof.Rows L2

/-! ### operators -/
section
variable {X : Cx}
def CFd (_ j : Int) : Prop := j ≠ 0 ∧ j.natAbs.log2 < 9000
theorem op_fdivZ : OpR X (binaryOp .FloorDiv) (rI CFd fun i j => .int (i.fdiv j)) := opI fun i j _ _ _ _ _ hc q => floordiv_int hc.1 q (.inl (PyProof.noPylong_of_log2 hc.2))
theorem pe_globE {x : Str} {pos : Pos} {v : V} (h : ∃ u, X.mg x = some u ∧ RelV v u) (hg : Gl X x := by rfl) (hdb : (x == ("__debug__" : Str)) = false := by decide) : PE X (.Name x pos) (tC v) := by
  obtain ⟨u, h1, h2⟩ := h
  exact pe_glob hg h1 h2 hdb
theorem pe_globR {x : Str} {pos : Pos} {a : Addr} (h : X.mg x = some (.ref a)) (hg : Gl X x := by rfl) (hdb : (x == ("__debug__" : Str)) = false := by decide) : PE X (.Name x pos) (tC (.ref a)) := pe_glob hg h rfl hdb
end
/-- an own error class over ValueError -/
structure ExcX (K : PySem.W.Frag) (mg : Str → Option Value) (x : Str) (C : Addr) : Prop where
  g : mg x = some (.ref C)
  q : PySem.W.excIn K C [.type "ValueError", .type "Exception", .type "BaseException", .type "object"] "ValueError.__new__" = true
  k : PySem.W.keepIn K (.ref C) = true
  t : PySem.W.typeIn K (.ref C) = some (.type "type")
  c : ExcC K C
  v : PySem.W.subIn K (.ref C) (.type "ValueError") = some true
section
variable {X : Cx} {C D : Addr} {K : PySem.W.Frag} {mg : Str → Option Value} {x y : Str} {b : Bool}
theorem pmk {m : Str} {j : Nat} {p p2 pos : Pos} (E : ExcX X.K X.mg x C) (hg : Gl X x) (hdb : (x == ("__debug__" : Str)) = false := by decide) :
    PMk X (.Call (.Name x p) [.Constant (.str m) j p2] [] pos) (fun _ H Q => Q (.ref C) none H) := pmk_own PySem.F.excBase_ValueError E.q E.g E.k (raises_own E.c.hs E.t) hg hdb
theorem exm (E : ExcX K mg x C) (h : PySem.W.subIn K (.ref D) (.ref C) = some b) : PySem.W.exmOne K (.ref D) (.ref C) = some b := PySem.W.exm_ref E.c.hs E.c.hd E.t h
theorem kit_own (E : ExcX K mg x C) (h : PySem.W.subIn K (.ref D) (.ref C) = some b) (hs : PySem.W.subIn K (.ref C) (.ref C) = some true) : PySem.W.kitOne K (.ref D) (.ref C) = some b := by
  unfold PySem.W.kitOne
  by_cases e : D = C
  · subst e
    rw [hs] at h
    cases h
    rw [if_pos (by simp)]
  · rw [if_neg (by simpa using e)]
    unfold PySem.W.kitCls
    obtain ⟨cd, hc, _⟩ := PySem.W.any_some E.c.hd
    have e2 : ((PySem.W.clsIn K C).isSome && PySem.W.typeIn K (.ref C) == some (.type "type")) = true := by rw [hc, E.t] <;> rfl
    show (if _ then _ else _) = _
    rw [if_pos e2, h]
theorem kit_ve (E : ExcX K mg x D) : PySem.W.kitOne K (.ref D) (.type "ValueError") = some true := by
  unfold PySem.W.kitOne
  rw [if_neg (by simp)]
  unfold PySem.W.kitCls
  show (if _ then _ else _) = _
  rw [if_pos (by decide +kernel), E.v]
/-- isinstance of the error that a suite holds -/
def rIsEx (K : PySem.W.Frag) (cls : Value) (d : Option Addr) (a : Addr) : List V → Hp → VK → Prop := fun xs H Q => ∃ D, cls = .ref D ∧ d = none ∧ ExcC K D ∧ rIsE K D a xs H Q
theorem call_isE {a : Addr} {oe : Obj} {cls : Value} {d : Option Addr} {pn : List (Addr × Obj)} (hz : Zc cls d oe) (hf : ∃ vs, oe.data = .fields vs) : CallR (X.suite a ((a, oe) :: pn)) (.builtin "isinstance") (rIsEx X.K cls d a) := by
  intro pins s σ H xs us Q I r h
  obtain ⟨D, e1, e2, c, h⟩ := h
  subst e1
  subst e2
  exact L2.call_isE c hz hf pins s σ H xs us Q I r h
end

/-! ### heaps -/
theorem same_upd {H : Hp} {p : Addr} {o : HO} (h : H p = none) : Same H (upd H p o) := fun b x e => by
  rw [upd_ne (ne_of_none e h)]
  exact e
theorem Same.seqT {K : PySem.W.Frag} {H H' : Hp} {a : Addr} {xs : List V} (e : Same H H') (h : SqT K H a xs) : SqT K H' a xs := by
  rcases h with (h | ⟨o, h⟩) | h
  · exact .inl (.inl (e _ _ h))
  · exact .inl (.inr ⟨o, e _ _ h⟩)
  · exact .inr h
theorem seqT {K : PySem.W.Frag} {H H' : Hp} {a : Addr} {xs : List V} (e : Same H H') (h : SqT K H a xs) : SqT K H' a xs := Same.seqT e h
theorem sz {n : Nat} (h : n ≤ 1000) : n ≤ sizeLine := Nat.le_trans h (by decide)

/-! ### readings, step by step -/
def NewT (Q : VK) : List V → Hp → Prop := fun xs H1 => xs.length ≤ sizeLine ∧ ∀ p, H1 p = none → Q (.ref p) (upd H1 p (.tup xs))
def NewL (Q : VK) : List V → Hp → Prop := fun xs H1 => xs.length ≤ sizeLine ∧ ∀ p, H1 p = none → Q (.ref p) (upd H1 p (.lst xs))
section
variable {σ : L2.St} {H : Hp} {n : L2.St → Hp → Prop} {r : VK} {b c : L2.St → Hp → Prop} {t u : TS} {te ta tb : TE} {tt tu : TT} {Q : VK} {QB : Bool → Hp → Prop} {v w x y : V} {i j : Int} {K : PySem.W.Frag}
theorem z_seq (h : t ⟨u ⟨n, r, b, c⟩, r, b, c⟩ σ H) : tSeq t u ⟨n, r, b, c⟩ σ H := h
theorem z_asg {k : Nat} (h : te σ H fun x H1 => n (σ.set k (some x)) H1) : tAsg te (gName k) ⟨n, r, b, c⟩ σ H := h
theorem z_asgS {to ti : TE} {st : TSet} (h : te σ H fun v H0 => to σ H0 fun o H1 => ti σ H1 fun k H2 => st o k v H2 fun H3 => n σ H3) : tAsg te (gSub to ti st) ⟨n, r, b, c⟩ σ H := h
theorem z_drop (h : te σ H fun _ H1 => n σ H1) : tDrop te ⟨n, r, b, c⟩ σ H := h
theorem z_ret (h : te σ H r) : tRet te ⟨n, r, b, c⟩ σ H := h
theorem z_retN (h : r .non H) : tRetN ⟨n, r, b, c⟩ σ H := h
theorem z_next (h : n σ H) : tNext ⟨n, r, b, c⟩ σ H := h
theorem z_brk (h : b σ H) : tBreak ⟨n, r, b, c⟩ σ H := h
theorem z_cont (h : c σ H) : tCont ⟨n, r, b, c⟩ σ H := h
theorem z_ifs (h : tt σ H fun k H1 => if k = true then t ⟨n, r, b, c⟩ σ H1 else u ⟨n, r, b, c⟩ σ H1) : tIfS tt t u ⟨n, r, b, c⟩ σ H := h
theorem z_par {p q : Nat} {tl : TA} (h : tl σ H fun vs H1 => ∃ v w, vs = [v, w] ∧ n ((σ.set p (some v)).set q (some w)) H1) : tPar p q tl ⟨n, r, b, c⟩ σ H := h
theorem z_two {R : V → V → Prop} (h : R v w) : ∃ v' w', [v, w] = [v', w'] ∧ R v' w' := ⟨v, w, rfl, h⟩
theorem z_aug {k : Nat} {ti : TIp} (h : σ[k]? = some (some x)) (q : te σ H fun y H1 => ti x y H1 fun z H2 => n (σ.set k (some z)) H2) : tAug k te ti ⟨n, r, b, c⟩ σ H := ⟨x, h, q⟩
theorem z_ipI {f : Int → Int → Int} (q : Q (.int (f i j)) H) : ipI f (.int i) (.int j) H Q := ⟨i, j, rfl, rfl, q⟩
theorem z_var {k : Nat} (h : σ[k]? = some (some v)) (q : Q v H) : tVar k σ H Q := ⟨v, h, q⟩
theorem z_c (q : Q v H) : tC v σ H Q := q
theorem z_op {g : R2} (h : ta σ H fun x H1 => tb σ H1 fun y H2 => g x y H2 Q) : tOp g ta tb σ H Q := h
theorem z_un {g : V → Hp → VK → Prop} (h : ta σ H fun x H1 => g x H1 Q) : tUn g ta σ H Q := h
theorem z_I0 {g : Int → Int → V} (q : Q (g i j) H) : rI0 g (.int i) (.int j) H Q := ⟨i, j, rfl, rfl, q⟩
theorem z_I {C : Int → Int → Prop} {g : Int → Int → V} (hc : C i j) (q : Q (g i j) H) : rI C g (.int i) (.int j) H Q := ⟨i, j, rfl, rfl, hc, q⟩
theorem z_U {g : Int → V} (q : Q (g i) H) : rU g (.int i) H Q := ⟨i, rfl, q⟩
theorem z_eqI (q : Q (.bl (decide (i = j))) H) : rEq (.int i) (.int j) H Q := ⟨rfl, by rw [show decide (V.int i = V.int j) = decide (i = j) by simp]; exact q⟩
theorem z_neI (q : Q (.bl (decide (¬ i = j))) H) : rNe (.int i) (.int j) H Q := ⟨rfl, by rw [show (!decide (V.int i = V.int j)) = decide (¬ i = j) by simp]; exact q⟩
theorem z_eq (h : scal x y = true) (q : Q (.bl (decide (x = y))) H) : rEq x y H Q := ⟨h, q⟩
theorem z_test (h : te σ H fun x H1 => ∃ k, x = .bl k ∧ QB k H1) : tTest te σ H QB := h
theorem z_tB (h : te σ H fun x H1 => ∃ k, x = .bl k ∧ QB k H1) : tB te σ H QB := h
theorem z_bl {k : Bool} {R : Bool → Prop} (q : R k) : ∃ k', V.bl k = V.bl k' ∧ R k' := ⟨k, rfl, q⟩
theorem z_notT (h : tt σ H fun k H1 => QB (!k) H1) : tNot tt σ H QB := h
theorem z_andT (h : tt σ H fun k H1 => if k = true then tu σ H1 QB else QB false H1) : tAnd tt tu σ H QB := h
theorem z_orT (h : tt σ H fun k H1 => if k = true then QB true H1 else tu σ H1 QB) : tOr tt tu σ H QB := h
theorem z_andV (h : ta σ H fun x H1 => ∃ k, x = .bl k ∧ if k = true then tb σ H1 Q else Q (.bl false) H1) : tAndV ta tb σ H Q := h
theorem z_orV (h : ta σ H fun x H1 => ∃ k, x = .bl k ∧ if k = true then Q (.bl true) H1 else tb σ H1 Q) : tOrV ta tb σ H Q := h
theorem z_notV (h : ta σ H fun x H1 => ∃ k, x = .bl k ∧ Q (.bl (!k)) H1) : tNotV ta σ H Q := h
theorem z_ifE (h : tt σ H fun k H1 => if k = true then ta σ H1 Q else tb σ H1 Q) : tIf tt ta tb σ H Q := h
theorem z_chain {g g' : R2} {tc : TE} (h : ta σ H fun x H1 => tb σ H1 fun y H2 => g x y H2 fun z H3 => ∃ k, z = .bl k ∧ (if k = true then tc σ H3 fun w' H4 => g' y w' H4 Q else Q (.bl false) H3)) : tChain g g' ta tb tc σ H Q := h
theorem z_nil {R : List V → Hp → Prop} (q : R [] H) : tNil σ H R := q
theorem z_cons {tr : TA} {R : List V → Hp → Prop} (h : ta σ H fun x H1 => tr σ H1 fun xs H2 => R (x :: xs) H2) : tCons ta tr σ H R := h
theorem z_tup {tl : TA} (h : tl σ H (NewT Q)) : tTup tl σ H Q := h
theorem z_lst {tl : TA} (h : tl σ H (NewL Q)) : tLst tl σ H Q := h
theorem z_newT {xs : List V} (hl : xs.length ≤ 1000) (q : ∀ p H', H p = none → Same H H' → H' p = some (.tup xs) → Q (.ref p) H') : NewT Q xs H := ⟨sz hl, fun p hp => q p _ hp (same_upd hp) upd_same⟩
theorem z_newL {xs : List V} (hl : xs.length ≤ 1000) (q : ∀ p H', H p = none → Same H H' → H' p = some (.lst xs) → Q (.ref p) H') : NewL Q xs H := ⟨sz hl, fun p hp => q p _ hp (same_upd hp) upd_same⟩
theorem z_cb {g : List V → Hp → VK → Prop} {tl : TA} (h : tl σ H fun vs H1 => g vs H1 Q) : tCB g tl σ H Q := h
theorem z_call {sp : Sp} {E : XK} {tl : TA} (h : tl σ H fun vs H1 => sp vs H1 Q E) : tCall sp [] E tl σ H Q := by
  unfold tCall
  simpa only [List.append_nil] using h
theorem z_callS {sp : Sp} {E : L2.St → XK} {tl : TA} (h : tl σ H fun vs H1 => sp vs H1 Q (E σ)) : tCallS sp E tl σ H Q := h
theorem z_ixL {p : Addr} {xs : List V} (h : SqL K H p xs) (ha : atI xs i = some v) (q : Q v H) : rIxL K (.ref p) (.int i) H Q := ⟨p, xs, i, v, rfl, rfl, h, ha, q⟩
theorem z_ixT {p : Addr} {xs : List V} (h : SqT K H p xs) (ha : atI xs i = some v) (q : Q v H) : rIxT K (.ref p) (.int i) H Q := ⟨p, xs, i, v, rfl, rfl, h, ha, q⟩
theorem z_setL {p : Addr} {xs : List V} {k : Nat} {R : Hp → Prop} (h : H p = some (.lst xs)) (hk : ixN xs.length i = some k) (q : R (upd H p (.lst (xs.set k v)))) : rSetL (.ref p) (.int i) v H R := ⟨p, xs, i, k, rfl, rfl, h, hk, q⟩
theorem z_if {p : Prop} [Decidable p] {A B : Prop} (h1 : p → A) (h2 : ¬ p → B) : if decide p = true then A else B := by
  by_cases h : p
  · rw [if_pos (decide_eq_true h)]
    exact h1 h
  · rw [if_neg (by simpa using h)]
    exact h2 h
theorem z_ifB {k : Bool} {A B : Prop} (h1 : k = true → A) (h2 : k = false → B) : if k = true then A else B := by
  cases k with
  | true => exact h1 rfl
  | false => exact h2 rfl
/-- and, or, not of a test whose answer is known, the heap as it was -/
theorem z_andK {k k' : Bool} (h : k = true → ∀ R : Bool → Hp → Prop, R k' H → tu σ H R) (q : QB (k && k') H) : if k = true then tu σ H QB else QB false H := by
  cases k with
  | true => exact h rfl QB q
  | false => exact q
theorem z_orK {k k' : Bool} (h : k = false → ∀ R : Bool → Hp → Prop, R k' H → tu σ H R) (q : QB (k || k') H) : if k = true then QB true H else tu σ H QB := by
  cases k with
  | true => exact q
  | false => exact h rfl QB q
theorem z_andKV {k k' : Bool} (h : k = true → ∀ R : VK, R (.bl k') H → tb σ H R) (q : Q (.bl (k && k')) H) : if k = true then tb σ H Q else Q (.bl false) H := by
  cases k with
  | true => exact h rfl Q q
  | false => exact q
theorem z_orKV {k k' : Bool} (h : k = false → ∀ R : VK, R (.bl k') H → tb σ H R) (q : Q (.bl (k || k')) H) : if k = true then Q (.bl true) H else tb σ H Q := by
  cases k with
  | true => exact q
  | false => exact h rfl Q q
/-- the second comparison of a chain -/
theorem z_chK {k k' : Bool} {tc : TE} {g' : R2} (h : k = true → ∀ R : VK, R (.bl k') H → tc σ H fun w' H4 => g' y w' H4 R) (q : Q (.bl (k && k')) H) :
    if k = true then tc σ H fun w' H4 => g' y w' H4 Q else Q (.bl false) H := by
  cases k with
  | true => exact h rfl Q q
  | false => exact q
theorem z_ty {x : V} {t : String} {T : String} {k : Bool} {H : Hp} {Q : VK} (h : TyX K H x (.type t)) (e : kitB t T = some k) (q : Q (.bl k) H) : rIsi K [x, .ty T] H Q := ⟨x, .ty T, .type t, .type T, k, rfl, .ty T, h, kit_ty e, q⟩
end
end Z
namespace Z
open PySem PySem.Spec PyProof.Rows L2
theorem pe_powc {X : Cx} {a b v : Int} {j1 j2 : Nat} {p1 p2 pos : Pos} (h0 : CPow a b) (hv : a ^ b.toNat = v) : PE X (.BinOp (.Constant (.int a) j1 p1) .Pow (.Constant (.int b) j2 p2) pos) (tC (.int v)) := by
  subst hv
  exact ⟨fun pins s σ H Q I h => (pe_op op_pow pe_int pe_int).run pins s σ H Q I ⟨a, b, rfl, rfl, h0, h⟩⟩
def rInt1 : List V → Hp → VK → Prop := fun xs H Q => (∃ i, xs = [.int i] ∧ Q (.int i) H) ∨ ∃ k, xs = [.bl k] ∧ Q (.int (if k then 1 else 0)) H
def rAbs : List V → Hp → VK → Prop := fun xs H Q => ∃ i, xs = [.int i] ∧ Q (.int (if i < 0 then -i else i)) H
def rLen (K : PySem.W.Frag) : List V → Hp → VK → Prop := fun xs H Q => ∃ p ys, xs = [.ref p] ∧ (SqL K H p ys ∨ SqT K H p ys) ∧ Q (.int ys.length) H
theorem c_int {X : Cx} : CallR X (.type "int") rInt1 := call_int1
theorem c_abs {X : Cx} : CallR X (.builtin "abs") rAbs := call_abs
theorem c_len {X : Cx} : CallR X (.builtin "len") (rLen X.K) := call_len_seq
section
variable {H : Hp} {Q : VK} {i j : Int} {v : V} {R : Prop}
theorem z_int1 (q : Q (.int i) H) : rInt1 [.int i] H Q := .inl ⟨i, rfl, q⟩
theorem z_int1b {k : Bool} (q : Q (.int (if k then 1 else 0)) H) : rInt1 [.bl k] H Q := .inr ⟨k, rfl, q⟩
theorem z_abs (q : Q (.int (if i < 0 then -i else i)) H) : rAbs [.int i] H Q := ⟨i, rfl, q⟩
theorem z_gcd (q : Q (.int ((Nat.gcd i.natAbs j.natAbs : Nat) : Int)) H) : rGcd [.int i, .int j] H Q := ⟨i, j, rfl, q⟩
theorem z_lenL {K : PySem.W.Frag} {p : Addr} {xs : List V} (h : SqL K H p xs) (q : Q (.int (xs.length : Int)) H) : rLen K [.ref p] H Q := ⟨p, xs, rfl, .inl h, q⟩
theorem z_lenT {K : PySem.W.Frag} {p : Addr} {xs : List V} (h : SqT K H p xs) (q : Q (.int (xs.length : Int)) H) : rLen K [.ref p] H Q := ⟨p, xs, rfl, .inr h, q⟩
theorem z_isII {K : PySem.W.Frag} (q : Q (.bl true) H) : rIsi K [.int i, .ty "int"] H Q := z_ty (.base (.int i)) (by decide +kernel) q
theorem z_isIB {K : PySem.W.Frag} (q : Q (.bl false) H) : rIsi K [.int i, .ty "bool"] H Q := z_ty (.base (.int i)) (by decide +kernel) q
theorem z_isBB {K : PySem.W.Frag} {k : Bool} (q : Q (.bl true) H) : rIsi K [.bl k, .ty "bool"] H Q := z_ty (.base (.bl k)) (by decide +kernel) q
theorem z_isTT {K : PySem.W.Frag} {p : Addr} {xs : List V} (h : H p = some (.tup xs)) (q : Q (.bl true) H) : rIsi K [.ref p, .ty "tuple"] H Q := z_ty (.base (.tup h)) (by decide +kernel) q
theorem z_isLL {K : PySem.W.Frag} {p : Addr} {xs : List V} (h : H p = some (.lst xs)) (q : Q (.bl true) H) : rIsi K [.ref p, .ty "list"] H Q := z_ty (.base (.lst h)) (by decide +kernel) q
theorem z_new {xs : List V} {F : Addr → Prop} (h : xs.length ≤ 1000) (q : ∀ p, H p = none → F p) : xs.length ≤ sizeLine ∧ ∀ p, H p = none → F p := ⟨sz h, q⟩
end
end Z
namespace Z
open PySem PySem.Spec PyProof.Rows L2
section
variable {σ : L2.St} {H : Hp} {n : L2.St → Hp → Prop} {r : VK} {b c : L2.St → Hp → Prop} {tb : TS} {K : PySem.W.Frag}
/-- for k in range(m) -/
theorem z_forR1 {ta : TA} {k : Nat} (m : Nat) (hm : m < 2 ^ 62) (ha : ∀ R : List V → Hp → Prop, R [.int (m : Int)] H → ta σ H R) (Pv : Nat → L2.St → Hp → Prop) (h0 : Pv 0 σ H)
    (hs : ∀ i σ H, i < m → Pv i σ H → tb ⟨Pv (i + 1), r, n, Pv (i + 1)⟩ (σ.set k (some (.int (i : Int)))) H) (hd : ∀ σ H, Pv m σ H → n σ H) : tFor (iRng1 ta) (gName k) tb ⟨n, r, b, c⟩ σ H := by
  refine ha _ ⟨(m : Int), rfl, by omega, by omega, ?_⟩
  refine for_range (lo := 0) (n := (m : Int).toNat) Pv h0 (fun i σ' H' hi p => ?_) (fun σ' H' p => hd σ' H' (by simpa using p))
  have e : (0 : Int) + (i : Int) = (i : Int) := Int.zero_add _
  show tb _ (σ'.set k (some (.int ((0 : Int) + (i : Int))))) H'
  rw [e]
  exact hs i σ' H' (by simpa using hi) p
/-- for k in range(lo, hi) -/
theorem z_forR2 {ta : TA} {k : Nat} (lo : Int) (m : Nat) (hl : -(2 ^ 61) ≤ lo ∧ lo < 2 ^ 61) (hm : m < 2 ^ 61) (ha : ∀ R : List V → Hp → Prop, R [.int lo, .int (lo + (m : Int))] H → ta σ H R) (Pv : Nat → L2.St → Hp → Prop) (h0 : Pv 0 σ H)
    (hs : ∀ i σ H, i < m → Pv i σ H → tb ⟨Pv (i + 1), r, n, Pv (i + 1)⟩ (σ.set k (some (.int (lo + (i : Int))))) H) (hd : ∀ σ H, Pv m σ H → n σ H) : tFor (iRng2 ta) (gName k) tb ⟨n, r, b, c⟩ σ H := by
  refine ha _ ⟨lo, lo + (m : Int), rfl, by omega, ?_⟩
  have en : (lo + (m : Int) - lo).toNat = m := by omega
  rw [en]
  exact for_range (lo := lo) (n := m) Pv h0 hs hd
/-- for x in a list, in a tuple -/
theorem z_forL {tl : TE} {g : TG} {a : Addr} {xs : List V} (ha : ∀ R : VK, R (.ref a) H → tl σ H R) (hx : SqL K H a xs) (Pv : Nat → L2.St → Hp → Prop) (h0 : Pv 0 σ H) (hl : ∀ i σ H, i ≤ xs.length → Pv i σ H → SqL K H a xs)
    (hs : ∀ i x σ H, xs[i]? = some x → Pv i σ H → g x σ H fun σ2 H2 => tb ⟨Pv (i + 1), r, n, Pv (i + 1)⟩ σ2 H2) (hd : ∀ σ H, Pv xs.length σ H → n σ H) : tFor (iList K tl) g tb ⟨n, r, b, c⟩ σ H :=
  ha _ ⟨a, rfl, ⟨xs, hx⟩, for_list Pv h0 hl hs hd⟩
theorem z_forT {tl : TE} {g : TG} {a : Addr} {xs : List V} (ha : ∀ R : VK, R (.ref a) H → tl σ H R) (hx : SqT K H a xs) (Pv : Nat → L2.St → Hp → Prop) (h0 : Pv 0 σ H) (hl : ∀ i σ H, i ≤ xs.length → Pv i σ H → SqT K H a xs)
    (hs : ∀ i x σ H, xs[i]? = some x → Pv i σ H → g x σ H fun σ2 H2 => tb ⟨Pv (i + 1), r, n, Pv (i + 1)⟩ σ2 H2) (hd : ∀ σ H, Pv xs.length σ H → n σ H) : tFor (iTup K tl) g tb ⟨n, r, b, c⟩ σ H :=
  ha _ ⟨a, rfl, ⟨xs, hx⟩, for_tup Pv h0 hl hs hd⟩
theorem z_gName {k : Nat} {v : V} {R : L2.St → Hp → Prop} (q : R (σ.set k (some v)) H) : gName k v σ H R := q
end
end Z
namespace Z
section
variable {A B : Prop}
theorem z_ifT (q : A) : if true = true then A else B := by
  rw [if_pos rfl]
  exact q
theorem z_ifF (q : B) : if false = true then A else B := by
  rw [if_neg Bool.false_ne_true]
  exact q
theorem z_ifNF (q : A) : if (!false) = true then A else B := z_ifT q
theorem z_ifNT (q : B) : if (!true) = true then A else B := z_ifF q
theorem z_ifN {p : Prop} [Decidable p] (h1 : ¬ p → A) (h2 : p → B) : if (!decide p) = true then A else B := by
  by_cases h : p
  · rw [if_neg (by simpa using h)]
    exact h2 h
  · rw [if_pos (by simpa using h)]
    exact h1 h
end
end Z
namespace Z
theorem z_ifYes {A B : Prop} {k : Bool} (h : k = true) (q : A) : if k = true then A else B := by
  rw [if_pos h]
  exact q
theorem z_ifNo {A B : Prop} {k : Bool} (h : k = false) (q : B) : if k = true then A else B := by
  rw [if_neg (by rw [h]; exact Bool.false_ne_true)]
  exact q
end Z
namespace Z
open PySem PySem.Spec PyProof.Rows L2
theorem z_exc {K : PySem.W.Frag} {cv cls : Value} {i : Nat} {ts : Addr → Value → Option Addr → TS} {Wout : WX} {n : L2.St → Hp → Prop} {r : VK} {b c : L2.St → Hp → Prop} {d : Option Addr} {σ : L2.St} {H : Hp} (e : PySem.W.exmOne K cls cv = some true)
    (h : ∀ a, H a = none → ts a cls d ⟨fun σ' H' => n (σ'.set i none) H', r, fun σ' H' => b (σ'.set i none) H', fun σ' H' => c (σ'.set i none) H'⟩ (σ.set i (some (.ref a))) H) : WE (wAs K cv i ts Wout ⟨n, r, b, c⟩) σ cls d H :=
  ⟨true, e, fun _ a ha => h a ha, fun z => Bool.noConfusion z⟩
theorem z_excO {K : PySem.W.Frag} {cv cls : Value} {ts : Addr → Value → Option Addr → TS} {Wout : WX} {D : Ends} {d : Option Addr} {σ : L2.St} {H : Hp} (e : PySem.W.exmOne K cls cv = some true)
    (h : ∀ a, H a = none → ts a cls d D σ H) : WE (wOnly K cv ts Wout D) σ cls d H :=
  ⟨true, e, fun _ a ha => h a ha, fun z => Bool.noConfusion z⟩
theorem z_isEr {K : PySem.W.Frag} {a C D : Addr} {k : Bool} {H : Hp} {Q : VK} (x : ExcC K D) (e : PySem.W.kitOne K (.ref D) (.ref C) = some k) (q : Q (.bl k) H) : rIsEx K (.ref D) none a [.ref a, .ref C] H Q :=
  ⟨D, rfl, rfl, x, .ref C, .ref C, k, rfl, fun u h => h, e, q⟩
theorem z_isEt {K : PySem.W.Frag} {a D : Addr} {t : String} {k : Bool} {H : Hp} {Q : VK} (x : ExcC K D) (e : PySem.W.kitOne K (.ref D) (.type t) = some k) (q : Q (.bl k) H) : rIsEx K (.ref D) none a [.ref a, .ty t] H Q :=
  ⟨D, rfl, rfl, x, .ty t, .type t, k, rfl, fun u h => h, e, q⟩
/-- two lists, tuples of flat things compared -/
theorem z_eqD {K : PySem.W.Frag} {x y : V} {d e : PyData} {H : Hp} {Q : VK} (h1 : Dp K H x d) (h2 : Dp K H y e) (s1 : SeqAt.shaped d = true) (s2 : SeqAt.shaped e = true) (q : Q (.bl (PyData.eqv d e)) H) : rEqD K x y H Q := ⟨d, e, h1, h2, s1, s2, q⟩
end Z
namespace Z
open PySem PySem.Spec PyProof.Rows L2
theorem z_eqSame {K : PySem.W.Frag} {x y : V} {d : PyData} {H : Hp} {Q : VK} (h1 : Dp K H x d) (h2 : Dp K H y d) (s : SeqAt.shaped d = true) (q : Q (.bl true) H) : rEqD K x y H Q :=
  ⟨d, d, h1, h2, s, s, by rw [SeqAt.eqv_refl d (SeqAt.canLay_of_shaped s)]; exact q⟩
theorem dpT2 {K : PySem.W.Frag} {H : Hp} {p : Addr} {n d : Int} (h : H p = some (.tup [.int n, .int d])) : Dp K H (.ref p) (.tuple [.int n, .int d]) := .tup (.inl (.inl h)) (.cons (.int n) (.cons (.int d) .nil))
theorem dpB3 {K : PySem.W.Frag} {H : Hp} {p : Addr} {a b c : Bool} (h : H p = some (.lst [.bl a, .bl b, .bl c])) : Dp K H (.ref p) (.list [.bool a, .bool b, .bool c]) := .lst (.inl (.inl h)) (.cons (.bl a) (.cons (.bl b) (.cons (.bl c) .nil)))
end Z
namespace Z
open PySem PySem.Spec PyProof.Rows L2
theorem z_cut {t u : TS} {n : L2.St → Hp → Prop} {r : VK} {b c : L2.St → Hp → Prop} {σ : L2.St} {H : Hp} (Mid : L2.St → Hp → Prop) (h : t ⟨Mid, r, b, c⟩ σ H) (k : ∀ σ' H', Mid σ' H' → u ⟨n, r, b, c⟩ σ' H') : Evl.tCut t u ⟨n, r, b, c⟩ σ H := ⟨Mid, h, k⟩
end Z
namespace Z
open PySem PySem.Spec PyProof.Rows L2
section
variable {σ : L2.St} {H : Hp} {n : L2.St → Hp → Prop} {r : VK} {b c : L2.St → Hp → Prop} {te : TE} {K : PySem.W.Frag} {a : Addr} {xs : List V} {gs : TGs} {m : Nat} {v : V}
theorem z_asgT (h : te σ H fun x H1 => ∃ a xs, x = .ref a ∧ SqT K H1 a xs ∧ xs.length = m ∧ gs xs σ H1 n) : tAsg te (gTup K m gs) ⟨n, r, b, c⟩ σ H := h
theorem z_asgL (h : te σ H fun x H1 => ∃ a xs, x = .ref a ∧ SqL K H1 a xs ∧ xs.length = m ∧ gs xs σ H1 n) : tAsg te (gLst K m gs) ⟨n, r, b, c⟩ σ H := h
theorem z_up (h : SqT K H a xs) (hm : xs.length = m) (q : gs xs σ H n) : ∃ a' xs', V.ref a = .ref a' ∧ SqT K H a' xs' ∧ xs'.length = m ∧ gs xs' σ H n := ⟨a, xs, rfl, h, hm, q⟩
theorem z_upL (h : SqL K H a xs) (hm : xs.length = m) (q : gs xs σ H n) : ∃ a' xs', V.ref a = .ref a' ∧ SqL K H a' xs' ∧ xs'.length = m ∧ gs xs' σ H n := ⟨a, xs, rfl, h, hm, q⟩
theorem z_gT (h : SqT K H a xs) (hm : xs.length = m) (q : gs xs σ H n) : gTup K m gs (.ref a) σ H n := ⟨a, xs, rfl, h, hm, q⟩
theorem z_gcons {t : TG} {u : TGs} {R : L2.St → Hp → Prop} (h : t v σ H fun σ' H' => u xs σ' H' R) : gCons t u (v :: xs) σ H R := ⟨v, xs, rfl, h⟩
theorem z_gnil {R : L2.St → Hp → Prop} (h : R σ H) : gNil [] σ H R := ⟨rfl, h⟩
end
end Z
namespace Z
open PySem PySem.Spec PyProof.Rows L2
section
variable {K : PySem.W.Frag} {Wout : WX} {D : Ends} {c cls : Value} {ts : Addr → Value → Option Addr → TS} {l : List (Value × (Addr → Value → Option Addr → TS))} {σ : L2.St} {H : Hp} {d : Option Addr}
theorem z_many1 (e : PySem.W.exmOne K cls c = some true) (h : ∀ a, H a = none → ts a cls d D σ H) : WE (wMany K Wout D ((c, ts) :: l)) σ cls d H := ⟨true, e, fun _ a ha => h a ha, fun z => Bool.noConfusion z⟩
theorem z_many0 (e : PySem.W.exmOne K cls c = some false) (h : WE (wMany K Wout D l) σ cls d H) : WE (wMany K Wout D ((c, ts) :: l)) σ cls d H := ⟨false, e, fun z => Bool.noConfusion z, fun _ => h⟩
theorem z_eqS {x : Str} {Q : VK} (q : Q (.bl true) H) : rEq (.str x) (.str x) H Q := ⟨rfl, by rw [decide_eq_true rfl]; exact q⟩
end
end Z
/-! ### data: what a value stands for -/
namespace Z
open PySem PySem.Spec PyProof.Rows L2
section
variable {K : PySem.W.Frag} {H H' : Hp} {v : V} {d d1 d2 d3 d4 d5 d6 : PyData}
mutual
theorem dp_mono (s : Same H H') : ∀ {d : PyData} {v : V}, Dp K H v d → Dp K H' v d
  | _, _, .non => .non
  | _, _, .bl b => .bl b
  | _, _, .int i => .int i
  | _, _, .str x => .str x
  | _, _, .lst h a => .lst (s.seq h) (dp_monoA s a)
  | _, _, .tup h a => .tup (seqT s h) (dp_monoA s a)
theorem dp_monoA (s : Same H H') : ∀ {ds : List PyData} {vs : List V}, DpAll K H vs ds → DpAll K H' vs ds
  | _, _, .nil => .nil
  | _, _, .cons h a => .cons (dp_mono s h) (dp_monoA s a)
end
mutual
def tupOnly : PyData → Bool
  | .list _ => false
  | .dict _ => false
  | .tuple ds => tupOnlyA ds
  | .none => true
  | .bool _ => true
  | .int _ => true
  | .str _ => true
def tupOnlyA : List PyData → Bool
  | [] => true
  | d :: ds => tupOnly d && tupOnlyA ds
end
def Kp (p : Addr) (H H' : Hp) : Prop := ∀ b o, b ≠ p → H b = some o → H' b = some o
theorem seqT_kp {p a : Addr} {xs ys : List V} (k : Kp p H H') (hp : H p = some (.lst xs)) (h : SqT K H a ys) : SqT K H' a ys := by
  rcases h with (h | ⟨o, h⟩) | h
  · exact .inl (.inl (k _ _ (ne_of h hp (by intro z; cases z)) h))
  · exact .inl (.inr ⟨o, k _ _ (ne_of h hp (by intro z; cases z)) h⟩)
  · exact .inr h
mutual
theorem dp_kp {p : Addr} {xs : List V} (k : Kp p H H') (hp : H p = some (.lst xs)) : ∀ {d : PyData} {v : V}, tupOnly d = true → Dp K H v d → Dp K H' v d
  | _, _, _, .non => .non
  | _, _, _, .bl b => .bl b
  | _, _, _, .int i => .int i
  | _, _, _, .str x => .str x
  | _, _, t, .lst h a => by simp [tupOnly] at t
  | _, _, t, .tup h a => .tup (seqT_kp k hp h) (dp_kpA k hp (by simpa [tupOnly] using t) a)
theorem dp_kpA {p : Addr} {xs : List V} (k : Kp p H H') (hp : H p = some (.lst xs)) : ∀ {ds : List PyData} {vs : List V}, tupOnlyA ds = true → DpAll K H vs ds → DpAll K H' vs ds
  | _, _, _, .nil => .nil
  | _, _, t, .cons h a => by
    have t' : (tupOnly _ && tupOnlyA _) = true := t
    rw [Bool.and_eq_true] at t'
    exact .cons (dp_kp k hp t'.1 h) (dp_kpA k hp t'.2 a)
end
theorem dp_int {i : Int} (h : Dp K H v (.int i)) : v = .int i := by
  cases h
  rfl
theorem dp_non (h : Dp K H v .none) : v = .non := by
  cases h
  rfl
theorem dp_bool {b : Bool} (h : Dp K H v (.bool b)) : v = .bl b := by
  cases h
  rfl
theorem dp_str {b : Str} (h : Dp K H v (.str b)) : v = .str b := by
  cases h
  rfl
theorem dp_tup {ds : List PyData} (h : Dp K H v (.tuple ds)) : ∃ p vs, v = .ref p ∧ SqT K H p vs ∧ DpAll K H vs ds := by
  cases h with
  | tup h a => exact ⟨_, _, rfl, h, a⟩
theorem dpa_nil {vs : List V} (h : DpAll K H vs []) : vs = [] := by
  cases h
  rfl
theorem dpa_cons {vs : List V} {ds : List PyData} (h : DpAll K H vs (d :: ds)) : ∃ v r, vs = v :: r ∧ Dp K H v d ∧ DpAll K H r ds := by
  cases h with
  | cons a b => exact ⟨_, _, rfl, a, b⟩
theorem dp_t1 (h : Dp K H v (.tuple [d1])) : ∃ p v1, v = .ref p ∧ SqT K H p [v1] ∧ Dp K H v1 d1 := by
  obtain ⟨p, vs, e, hS, a⟩ := dp_tup h
  obtain ⟨v1, _, rfl, h1, a⟩ := dpa_cons a
  obtain rfl := dpa_nil a
  exact ⟨p, v1, e, hS, h1⟩
theorem dp_t2 (h : Dp K H v (.tuple [d1, d2])) : ∃ p v1 v2, v = .ref p ∧ SqT K H p [v1, v2] ∧ Dp K H v1 d1 ∧ Dp K H v2 d2 := by
  obtain ⟨p, vs, e, hS, a⟩ := dp_tup h
  obtain ⟨v1, _, rfl, h1, a⟩ := dpa_cons a
  obtain ⟨v2, _, rfl, h2, a⟩ := dpa_cons a
  obtain rfl := dpa_nil a
  exact ⟨p, v1, v2, e, hS, h1, h2⟩
theorem dp_t3 (h : Dp K H v (.tuple [d1, d2, d3])) : ∃ p v1 v2 v3, v = .ref p ∧ SqT K H p [v1, v2, v3] ∧ Dp K H v1 d1 ∧ Dp K H v2 d2 ∧ Dp K H v3 d3 := by
  obtain ⟨p, vs, e, hS, a⟩ := dp_tup h
  obtain ⟨v1, _, rfl, h1, a⟩ := dpa_cons a
  obtain ⟨v2, _, rfl, h2, a⟩ := dpa_cons a
  obtain ⟨v3, _, rfl, h3, a⟩ := dpa_cons a
  obtain rfl := dpa_nil a
  exact ⟨p, v1, v2, v3, e, hS, h1, h2, h3⟩
theorem dp_t6 (h : Dp K H v (.tuple [d1, d2, d3, d4, d5, d6])) : ∃ p v1 v2 v3 v4 v5 v6, v = .ref p ∧ SqT K H p [v1, v2, v3, v4, v5, v6] ∧ Dp K H v1 d1 ∧ Dp K H v2 d2 ∧ Dp K H v3 d3 ∧ Dp K H v4 d4 ∧ Dp K H v5 d5 ∧ Dp K H v6 d6 := by
  obtain ⟨p, vs, e, hS, a⟩ := dp_tup h
  obtain ⟨v1, _, rfl, h1, a⟩ := dpa_cons a
  obtain ⟨v2, _, rfl, h2, a⟩ := dpa_cons a
  obtain ⟨v3, _, rfl, h3, a⟩ := dpa_cons a
  obtain ⟨v4, _, rfl, h4, a⟩ := dpa_cons a
  obtain ⟨v5, _, rfl, h5, a⟩ := dpa_cons a
  obtain ⟨v6, _, rfl, h6, a⟩ := dpa_cons a
  obtain rfl := dpa_nil a
  exact ⟨p, v1, v2, v3, v4, v5, v6, e, hS, h1, h2, h3, h4, h5, h6⟩
theorem dp_mk {p : Addr} {vs : List V} {ds : List PyData} (h : H p = some (.tup vs)) (a : DpAll K H vs ds) : Dp K H (.ref p) (.tuple ds) := .tup (.inl (.inl h)) a
end
/-! ### numbers -/
def qD (r : Rat) : PyData := .tuple [.int r.num, .int (r.den : Int)]
theorem dp_q {K : PySem.W.Frag} {H : Hp} {v : V} {r : Rat} (h : Dp K H v (qD r)) : ∃ p, v = .ref p ∧ SqT K H p [.int r.num, .int (r.den : Int)] := by
  obtain ⟨p, v1, v2, e, hS, h1, h2⟩ := dp_t2 h
  rw [dp_int h1, dp_int h2] at hS
  exact ⟨p, e, hS⟩
theorem dp_mkq {K : PySem.W.Frag} {H : Hp} {p : Addr} {r : Rat} (h : H p = some (.tup [.int r.num, .int (r.den : Int)])) : Dp K H (.ref p) (qD r) := dp_mk h (.cons (.int _) (.cons (.int _) .nil))
theorem dp_seqq {K : PySem.W.Frag} {H : Hp} {p : Addr} {r : Rat} (h : SqT K H p [.int r.num, .int (r.den : Int)]) : Dp K H (.ref p) (qD r) := .tup h (.cons (.int _) (.cons (.int _) .nil))
/-- numerator and denominator at most so great -/
def Bd (r : Rat) (p q : Nat) : Prop := r.num.natAbs ≤ p ∧ r.den ≤ q
theorem bd_divInt {n d : Int} (h : d ≠ 0) : Bd (Rat.divInt n d) n.natAbs d.natAbs := by
  unfold Bd
  rw [Rat.num_divInt, Rat.den_divInt, if_neg h]
  refine ⟨Nat.le_trans (Int.natAbs_ediv_le_natAbs _ _) ?_, Nat.div_le_self _ _⟩
  rw [Int.natAbs_mul]
  have : d.sign.natAbs ≤ 1 := by
    rcases Int.lt_trichotomy d 0 with z | z | z
    · rw [Int.sign_eq_neg_one_of_neg z]; decide
    · exact absurd z h
    · rw [Int.sign_eq_one_of_pos z]; decide
  calc d.sign.natAbs * n.natAbs ≤ 1 * n.natAbs := Nat.mul_le_mul_right _ this
    _ = n.natAbs := Nat.one_mul _
theorem q_self (r : Rat) : Rat.divInt r.num (r.den : Int) = r := Rat.num_divInt_den r
end Z
namespace Z
open PySem PySem.Spec PyProof.Rows L2
def gd (n d : Int) : Int := ((Nat.gcd n.natAbs d.natAbs : Nat) : Int)
def rn (n d : Int) : Int := (if d < 0 then -n else n) / gd n d
def rd (n d : Int) : Int := (if d < 0 then -d else d) / gd n d
theorem rn_q {n d : Int} (h : d ≠ 0) : rn n d = (Rat.divInt n d).num := by
  rw [Rat.num_divInt]
  unfold rn gd
  have e : d.gcd n = Nat.gcd n.natAbs d.natAbs := Nat.gcd_comm _ _
  rw [e]
  congr 1
  split
  · rename_i z
    rw [Int.sign_eq_neg_one_of_neg z]
    omega
  · rename_i z
    rw [Int.sign_eq_one_of_pos (by omega)]
    omega
theorem rd_q {n d : Int} (h : d ≠ 0) : rd n d = ((Rat.divInt n d).den : Int) := by
  rw [Rat.den_divInt, if_neg h]
  unfold rd gd
  have e : d.gcd n = Nat.gcd n.natAbs d.natAbs := Nat.gcd_comm _ _
  rw [e]
  rw [Int.natCast_ediv]
  congr 1
  split <;> omega
def lim : Int := 1000000000000000000
def fitsQ (r : Rat) : Prop := -lim ≤ r.num ∧ r.num ≤ lim ∧ (r.den : Int) ≤ lim
theorem bd_add {a b : Rat} {p q p' q' : Nat} (h : Bd a p q) (h' : Bd b p' q') : Bd (a + b) (p * q' + p' * q) (q * q') := by
  have ha := a.den_nz
  have hb := b.den_nz
  have e : a + b = Rat.divInt (a.num * b.den + b.num * a.den) ((a.den : Int) * b.den) := by
    rw [← Rat.divInt_add_divInt _ _ (by omega) (by omega), Rat.num_divInt_den, Rat.num_divInt_den]
  rw [e]
  have hd : ((a.den : Int) * b.den) ≠ 0 := Int.mul_ne_zero (by omega) (by omega)
  have k := bd_divInt (n := a.num * b.den + b.num * a.den) hd
  refine ⟨Nat.le_trans k.1 (Nat.le_trans (Int.natAbs_add_le _ _) ?_), Nat.le_trans k.2 ?_⟩
  · rw [Int.natAbs_mul, Int.natAbs_mul]
    exact Nat.add_le_add (Nat.mul_le_mul h.1 h'.2) (Nat.mul_le_mul h'.1 h.2)
  · rw [Int.natAbs_mul]
    exact Nat.mul_le_mul h.2 h'.2
theorem bd_mul {a b : Rat} {p q p' q' : Nat} (h : Bd a p q) (h' : Bd b p' q') : Bd (a * b) (p * p') (q * q') := by
  have ha := a.den_nz
  have hb := b.den_nz
  have e : a * b = Rat.divInt (a.num * b.num) ((a.den : Int) * b.den) := by
    rw [← Rat.divInt_mul_divInt, Rat.num_divInt_den, Rat.num_divInt_den]
  rw [e]
  have hd : ((a.den : Int) * b.den) ≠ 0 := Int.mul_ne_zero (by omega) (by omega)
  have k := bd_divInt (n := a.num * b.num) hd
  refine ⟨Nat.le_trans k.1 ?_, Nat.le_trans k.2 ?_⟩
  · rw [Int.natAbs_mul]
    exact Nat.mul_le_mul h.1 h'.1
  · rw [Int.natAbs_mul]
    exact Nat.mul_le_mul h.2 h'.2
theorem bd_neg {a : Rat} {p q : Nat} (h : Bd a p q) : Bd (-a) p q := by
  unfold Bd
  rw [Rat.neg_num, Rat.neg_den, Int.natAbs_neg]
  exact h
theorem bd_sub {a b : Rat} {p q p' q' : Nat} (h : Bd a p q) (h' : Bd b p' q') : Bd (a - b) (p * q' + p' * q) (q * q') := by
  rw [Rat.sub_eq_add_neg]
  exact bd_add h (bd_neg h')
theorem q_div (a b : Rat) (h : b ≠ 0) : a / b = Rat.divInt (a.num * b.den) ((a.den : Int) * b.num) := by
  rw [Rat.div_def, ← Rat.num_divInt_den b, Rat.inv_divInt]
  conv => lhs; lhs; rw [← Rat.num_divInt_den a]
  rw [Rat.divInt_mul_divInt, Rat.num_divInt_den]
theorem bd_div {a b : Rat} {p q p' q' : Nat} (hb : b ≠ 0) (h : Bd a p q) (h' : Bd b p' q') : Bd (a / b) (p * q') (q * p') := by
  have ha := a.den_nz
  rw [q_div a b hb]
  have hn : b.num ≠ 0 := fun z => hb (Rat.num_eq_zero.mp z)
  have hd : ((a.den : Int) * b.num) ≠ 0 := Int.mul_ne_zero (by omega) hn
  have k := bd_divInt (n := a.num * b.den) hd
  refine ⟨Nat.le_trans k.1 ?_, Nat.le_trans k.2 ?_⟩
  · rw [Int.natAbs_mul]
    exact Nat.mul_le_mul h.1 h'.2
  · rw [Int.natAbs_mul]
    exact Nat.mul_le_mul h.2 h'.1
theorem Bd.le {a : Rat} {p q p' q' : Nat} (h : Bd a p q) (h1 : p ≤ p') (h2 : q ≤ q') : Bd a p' q' := ⟨Nat.le_trans h.1 h1, Nat.le_trans h.2 h2⟩
theorem Bd.fits {a : Rat} {p q : Nat} (h : Bd a p q) (h1 : p ≤ 1000000000000000000) (h2 : q ≤ 1000000000000000000) : fitsQ a := by
  have a1 := h.1
  have a2 := h.2
  unfold fitsQ lim
  omega
theorem q_add (a b : Rat) : a + b = Rat.divInt (a.num * b.den + b.num * a.den) ((a.den : Int) * b.den) := by
  have ha := a.den_nz
  have hb := b.den_nz
  rw [← Rat.divInt_add_divInt _ _ (by omega) (by omega), Rat.num_divInt_den, Rat.num_divInt_den]
theorem q_sub (a b : Rat) : a - b = Rat.divInt (a.num * b.den - b.num * a.den) ((a.den : Int) * b.den) := by
  have ha := a.den_nz
  have hb := b.den_nz
  rw [← Rat.divInt_sub_divInt _ _ (by omega) (by omega), Rat.num_divInt_den, Rat.num_divInt_den]
theorem q_mul (a b : Rat) : a * b = Rat.divInt (a.num * b.num) ((a.den : Int) * b.den) := by
  rw [← Rat.divInt_mul_divInt, Rat.num_divInt_den, Rat.num_divInt_den]
theorem q_dd (a b : Rat) : ((a.den : Int) * b.den) ≠ 0 := by
  have ha := a.den_nz
  have hb := b.den_nz
  exact Int.mul_ne_zero (by omega) (by omega)
end Z
namespace Z
open PySem PySem.Spec PyProof.Rows L2
theorem tyx_T {K : PySem.W.Frag} {H : Hp} {a : Addr} {xs : List V} (h : SqT K H a xs) : TyX K H (.ref a) (.type "tuple") := by
  rcases h with (h | ⟨o, h⟩) | ⟨o, its, n, h, c, _⟩
  · exact .base (.tup h)
  · exact .fTuple h
  · exact .kTuple h c
theorem z_isT {K : PySem.W.Frag} {H : Hp} {Q : VK} {p : Addr} {xs : List V} (h : SqT K H p xs) (q : Q (.bl true) H) : rIsi K [.ref p, .ty "tuple"] H Q := z_ty (tyx_T h) (by decide +kernel) q
end Z
namespace Z
open PySem PySem.Spec PyProof.Rows L2
/-- a tuple of the module's own -/
theorem dpk {K : PySem.W.Frag} {H : Hp} {a : Addr} {od : Option Addr} {its : List Value} {n : Nat} {sl : Array (Option Value)} {vs : List V} {ds : List PyData} (h : K.lookup a = some ⟨.type "tuple", od, .seq its.toArray n, sl⟩)
    (hs : its.length ≤ 1000) (r : Vals vs its) (d : DpAll K H vs ds) : Dp K H (.ref a) (.tuple ds) :=
  .tup (.inr ⟨_, its.toArray, n, h, rfl, rfl, by rw [List.size_toArray]; exact sz hs, by simpa using r⟩) d
/-- a tuple and a tuple -/
theorem z_catT {K : PySem.W.Frag} {H : Hp} {Q : VK} {p q : Addr} {xs ys : List V} (h1 : SqT K H p xs) (h2 : SqT K H q ys) (hx : xs ≠ []) (hl : xs.length + ys.length ≤ 1000) (hy : ys ≠ [])
    (k : ∀ p H', H p = none → Same H H' → H' p = some (.tup (xs ++ ys)) → Q (.ref p) H') : rCatT K (.ref p) (.ref q) H Q := by
  refine ⟨p, q, xs, ys, rfl, rfl, h1, h2, hx, sz hl, fun z => absurd z hy, fun _ a ha => k a _ ha (same_upd ha) upd_same⟩
end Z
namespace Z
open PySem PySem.Spec PyProof.Rows L2
def rTupOf (K : PySem.W.Frag) : List V → Hp → VK → Prop := fun xs H Q => ∃ p ys, xs = [.ref p] ∧ ((SqL K H p ys ∧ ∀ l, H l = none → Q (.ref l) (upd H l (.tup ys))) ∨ (SqT K H p ys ∧ Q (.ref p) H))
def rListOf (K : PySem.W.Frag) : List V → Hp → VK → Prop := fun xs H Q => ∃ p ys, xs = [.ref p] ∧ (SqL K H p ys ∨ SqT K H p ys) ∧ ∀ l, H l = none → Q (.ref l) (upd H l (.lst ys))
theorem c_tupOf {X : Cx} : CallR X (.type "tuple") (rTupOf X.K) := call_tuple_of
theorem c_listOf {X : Cx} : CallR X (.type "list") (rListOf X.K) := call_list_of
section
variable {K : PySem.W.Frag} {H : Hp} {Q : VK} {p : Addr} {xs : List V} {σ : L2.St}
theorem z_tupOf (h : SqL K H p xs) (q : ∀ a H', H a = none → Same H H' → H' a = some (.tup xs) → Q (.ref a) H') : rTupOf K [.ref p] H Q := ⟨p, xs, rfl, .inl ⟨h, fun l hl => q l _ hl (same_upd hl) upd_same⟩⟩
theorem z_tupOfT (h : SqT K H p xs) (q : Q (.ref p) H) : rTupOf K [.ref p] H Q := ⟨p, xs, rfl, .inr ⟨h, q⟩⟩
theorem z_listOf (h : SqL K H p xs) (q : ∀ a H', H a = none → Same H H' → H' a = some (.lst xs) → Q (.ref a) H') : rListOf K [.ref p] H Q := ⟨p, xs, rfl, .inl h, fun l hl => q l _ hl (same_upd hl) upd_same⟩
theorem z_listOfT (h : SqT K H p xs) (q : ∀ a H', H a = none → Same H H' → H' a = some (.lst xs) → Q (.ref a) H') : rListOf K [.ref p] H Q := ⟨p, xs, rfl, .inr h, fun l hl => q l _ hl (same_upd hl) upd_same⟩
theorem z_yes {QB : Bool → Hp → Prop} (q : QB true H) : tYes σ H QB := q
/-- [e for k in range(m)] -/
theorem z_lcR1 {ta : TA} {k : Nat} {te : TE} {vs : List Nat} (m : Nat) (hm : m ≤ 1000) (ha : ∀ R : List V → Hp → Prop, R [.int (m : Int)] H → ta σ H R) (hw : ∀ x, wipe ((wipe σ vs).set k (some x)) vs = wipe σ vs) (Pv : Nat → Addr → List V → Hp → Prop)
    (h0 : ∀ D H', H D = none → Same H H' → H' D = some (.lst []) → Pv 0 D [] H')
    (hs : ∀ i D acc H', i < m → acc.length = i → H' D = some (.lst acc) → Pv i D acc H' → te ((wipe σ vs).set k (some (.int (i : Int)))) H' fun y H4 => H4 D = some (.lst acc) ∧ Pv (i + 1) D (acc ++ [y]) (upd H4 D (.lst (acc ++ [y]))))
    (mono : ∀ σ' H' Q Q', (∀ y H4, Q y H4 → Q' y H4) → te σ' H' Q → te σ' H' Q')
    (hd : ∀ D acc H', acc.length = m → H' D = some (.lst acc) → Pv m D acc H' → Q (.ref D) H') : tLc (iRng1 ta) (gName k) tYes te vs σ H Q := by
  refine ha _ ⟨(m : Int), rfl, by omega, by omega, fun D hD => ?_⟩
  refine lc_range (lo := 0) (n := (m : Int).toNat) (fun i H' => ∃ acc, acc.length = i ∧ H' D = some (.lst acc) ∧ Pv i D acc H') ⟨[], rfl, upd_same, h0 D _ hD (same_upd hD) upd_same⟩ (fun i H' hi ⟨acc, hl, hH, p⟩ => ?_) (fun H' ⟨acc, hl, hH, p⟩ => hd D acc H' (by simpa using hl) hH (by simpa using p))
  have e : (0 : Int) + (i : Int) = (i : Int) := Int.zero_add _
  show wipe ((wipe σ vs).set k (some (.int ((0 : Int) + (i : Int))))) vs = wipe σ vs ∧ _
  refine ⟨hw _, ?_⟩
  refine z_yes ?_
  refine z_ifT ?_
  rw [e]
  have hi' : i < m := by simpa using hi
  exact mono _ _ _ _ (fun y H4 ⟨e1, e2⟩ => ⟨acc, e1, Nat.lt_of_lt_of_le (show acc.length < 1000 by omega) (by decide), acc ++ [y], by simp [hl], upd_same, e2⟩) (hs i D acc H' (by simpa using hi) hl hH p)
end
end Z
namespace Z
open PySem PySem.Spec PyProof.Rows L2
section
variable {K : PySem.W.Frag} {H : Hp} {Q : VK} {p : Addr} {xs : List V} {σ : L2.St} {i : Int} {RO : Option Int → Hp → Prop} {te : TE} {tl th : TO}
theorem z_sl {g : V → Option Int → Option Int → Hp → VK → Prop} (h : te σ H fun x H1 => tl σ H1 fun l H2 => th σ H2 fun u H3 => g x l u H3 Q) : tSl g te tl th σ H Q := h
theorem z_noPart (q : RO none H) : tNoPart σ H RO := q
theorem z_part (h : te σ H fun x H1 => ∃ i, x = .int i ∧ RO (some i) H1) : tPart te σ H RO := h
theorem z_partI (q : RO (some i) H) : ∃ i', V.int i = .int i' ∧ RO (some i') H := ⟨i, rfl, q⟩
theorem z_slL {lo hi : Option Int} {ys : List V} (h : SqL K H p xs) (e : cutV xs lo hi = ys) (q : ∀ a H', H a = none → Same H H' → H' a = some (.lst ys) → Q (.ref a) H') : rSlL K (.ref p) lo hi H Q := by
  subst e
  exact ⟨p, xs, rfl, h, fun a ha => q a _ ha (same_upd ha) upd_same⟩
end
end Z
namespace Z
open PySem PySem.Spec PyProof.Rows L2
theorem z_slT {K : PySem.W.Frag} {H : Hp} {Q : VK} {p : Addr} {xs ys : List V} {lo hi : Option Int} (h : SqT K H p xs) (hn : ¬ (HT.sIx xs.length 0 lo = 0 ∧ HT.sIx xs.length xs.length hi = xs.length)) (e : cutV xs lo hi = ys)
    (q : ∀ a H', H a = none → Same H H' → H' a = some (.tup ys) → Q (.ref a) H') : rSlT K (.ref p) lo hi H Q := by
  subst e
  exact ⟨p, xs, rfl, h, hn, fun a ha => q a _ ha (same_upd ha) upd_same⟩
theorem eqv_q (a b : Rat) : PyData.eqv (qD a) (qD b) = decide (a = b) := by
  show (a.num == b.num && ((a.den : Int) == (b.den : Int) && true)) = decide (a = b)
  by_cases h : a = b
  · subst h
    simp
  · rw [decide_eq_false h]
    by_cases h1 : a.num = b.num
    · have h2 : ¬ (a.den : Int) = b.den := fun z => h (Rat.ext h1 (by omega))
      simp [h2]
    · simp [h1]
theorem shaped_q (a : Rat) : SeqAt.shaped (qD a) = true := rfl
theorem z_eqQ {K : PySem.W.Frag} {x y : V} {a b : Rat} {H : Hp} {Q : VK} (h1 : Dp K H x (qD a)) (h2 : Dp K H y (qD b)) (q : Q (.bl (decide (a = b))) H) : rEqD K x y H Q := ⟨qD a, qD b, h1, h2, shaped_q a, shaped_q b, by rw [eqv_q]; exact q⟩
theorem z_neQ {K : PySem.W.Frag} {x y : V} {a b : Rat} {H : Hp} {Q : VK} (h1 : Dp K H x (qD a)) (h2 : Dp K H y (qD b)) (q : Q (.bl (decide (¬ a = b))) H) : rNeD K x y H Q := ⟨qD a, qD b, h1, h2, shaped_q a, shaped_q b, by
  rw [eqv_q, show (!decide (a = b)) = decide (¬ a = b) by simp]
  exact q⟩
theorem z_neSame {K : PySem.W.Frag} {x y : V} {d : PyData} {H : Hp} {Q : VK} (h1 : Dp K H x d) (h2 : Dp K H y d) (s : SeqAt.shaped d = true) (q : Q (.bl false) H) : rNeD K x y H Q :=
  ⟨d, d, h1, h2, s, s, by rw [SeqAt.eqv_refl d (SeqAt.canLay_of_shaped s)]; exact q⟩
end Z
namespace Z
open PySem PySem.Spec PyProof.Rows L2
def rIsN : R2 := fun x y H Q => y = .non ∧ Q (.bl (decide (x = .non))) H
def rNotN : R2 := fun x y H Q => y = .non ∧ Q (.bl (!decide (x = .non))) H
theorem op_isN1 {X : Cx} : OpR X (compareOp .Is) rIsN := op_isN
theorem op_notN1 {X : Cx} : OpR X (compareOp .IsNot) rNotN := op_notN
section
variable {σ : L2.St} {H : Hp} {n : L2.St → Hp → Prop} {r : VK} {b c : L2.St → Hp → Prop} {tb : TS} {K : PySem.W.Frag} {Q : VK} {p : Addr} {v y : V} {xs : List V}
theorem z_isNN (q : Q (.bl true) H) : rIsN .non .non H Q := ⟨rfl, by simpa using q⟩
theorem z_isNR (q : Q (.bl false) H) : rIsN (.ref p) .non H Q := ⟨rfl, by simpa using q⟩
theorem z_notNN (q : Q (.bl false) H) : rNotN .non .non H Q := ⟨rfl, by simpa using q⟩
theorem z_notNR (q : Q (.bl true) H) : rNotN (.ref p) .non H Q := ⟨rfl, by simpa using q⟩
theorem z_bmL {r : V → List V → Hp → VK → Prop} {to : TE} {t : TA} (ho : ∀ R : VK, R (.ref p) H → to σ H R) (hp : H p = some (.lst xs)) (h : t σ H fun vs H2 => r (.ref p) vs H2 Q) : tBM K "list" r to t σ H Q :=
  ho _ ⟨.inl ⟨rfl, _, .inl (.inl hp)⟩, h⟩
theorem z_append (hp : H p = some (.lst xs)) (hl : xs.length < 1000) (q : Q .non (upd H p (.lst (xs ++ [y])))) : rAppend (.ref p) [y] H Q := ⟨p, xs, y, rfl, rfl, hp, Nat.lt_of_lt_of_le hl (by decide), q⟩
/-- the list that a for goes over, made on the way -/
def ForL (K : PySem.W.Frag) (g : TG) (tb : TS) (n : L2.St → Hp → Prop) (r : VK) (b c : L2.St → Hp → Prop) (σ : L2.St) : VK := fun x H1 => tFor (iList K (tC x)) g tb ⟨n, r, b, c⟩ σ H1
theorem z_forE {tl : TE} {g : TG} (h : tl σ H (ForL K g tb n r b c σ)) : tFor (iList K tl) g tb ⟨n, r, b, c⟩ σ H := h
/-- [e for x in l], where e answers at once -/
theorem z_lcM {tl : TE} {k : Nat} {te : TE} {vs : List Nat} {a : Addr} {xs ws : List V} (hlen : ws.length = xs.length) (hm : xs.length ≤ 1000) (ha : ∀ R : VK, R (.ref a) H → tl σ H R) (hx : H a = some (.lst xs)) (hw : ∀ x, wipe ((wipe σ vs).set k (some x)) vs = wipe σ vs)
    (body : ∀ (i : Nat) (x w : V) (H' : Hp), xs[i]? = some x → ws[i]? = some w → Same H H' → ∀ R : VK, R w H' → te ((wipe σ vs).set k (some x)) H' R)
    (hd : ∀ D H', H D = none → Same H H' → H' D = some (.lst ws) → Q (.ref D) H') : tLc (iList K tl) (gName k) tYes te vs σ H Q := by
  refine ha _ ⟨a, rfl, ⟨xs, .inl (.inl hx)⟩, fun D hD => ?_⟩
  have hDa : a ≠ D := ne_of_none hx hD
  refine lc_list (xs := xs) (fun i H' => Same H H' ∧ H' D = some (.lst (ws.take i)) ∧ H' a = some (.lst xs)) ⟨same_upd hD, upd_same, by rw [upd_ne hDa]; exact hx⟩ (fun i H' _ h => .inl (.inl h.2.2)) (fun i x H' hi ⟨s, hH, h3⟩ => ?_) (fun H' ⟨s, hH, _⟩ => hd D H' hD s (by rw [hH, ← hlen, List.take_length]))
  show wipe ((wipe σ vs).set k (some x)) vs = wipe σ vs ∧ _
  refine ⟨hw _, ?_⟩
  refine z_yes ?_
  refine z_ifT ?_
  have hi' : i < xs.length := by
    rcases Nat.lt_or_ge i xs.length with h | h
    · exact h
    · rw [List.getElem?_eq_none h] at hi
      cases hi
  have hiw : i < ws.length := by omega
  have hw' : ws[i]? = some ws[i] := List.getElem?_eq_getElem hiw
  refine body i x _ H' hi hw' s _ ?_
  refine ⟨_, hH, Nat.lt_of_lt_of_le (show (ws.take i).length < 1000 by rw [List.length_take]; omega) (by decide), fun q x' e => ?_, ?_, ?_⟩
  · have hq : q ≠ D := ne_of_none e hD
    rw [upd_ne hq]
    exact s _ _ e
  · rw [upd_same, List.take_add_one, hw']
    rfl
  · rw [upd_ne hDa]
    exact h3
end
/-! ### numbers over a common denominator -/
def Zb (r : Rat) (N M : Nat) : Prop := ∃ k : Int, r * (N : Rat) = (k : Rat) ∧ k.natAbs ≤ M
theorem zb_add {a b : Rat} {N M M' : Nat} (h : Zb a N M) (h' : Zb b N M') : Zb (a + b) N (M + M') := by
  obtain ⟨k, e, l⟩ := h
  obtain ⟨k', e', l'⟩ := h'
  exact ⟨k + k', by rw [Rat.add_mul, e, e', Rat.intCast_add], by omega⟩
theorem zb_neg {a : Rat} {N M : Nat} (h : Zb a N M) : Zb (-a) N M := by
  obtain ⟨k, e, l⟩ := h
  exact ⟨-k, by rw [Rat.neg_mul, e, Rat.intCast_neg], by omega⟩
theorem zb_sub {a b : Rat} {N M M' : Nat} (h : Zb a N M) (h' : Zb b N M') : Zb (a - b) N (M + M') := by
  rw [Rat.sub_eq_add_neg]
  exact zb_add h (zb_neg h')
theorem zb_mul {a b : Rat} {N N' M M' : Nat} (h : Zb a N M) (h' : Zb b N' M') : Zb (a * b) (N * N') (M * M') := by
  obtain ⟨k, e, l⟩ := h
  obtain ⟨k', e', l'⟩ := h'
  refine ⟨k * k', ?_, by rw [Int.natAbs_mul]; exact Nat.mul_le_mul l l'⟩
  rw [Rat.natCast_mul, Rat.intCast_mul, ← e, ← e']
  grind
theorem zb_up {a : Rat} {N M : Nat} (c : Nat) (h : Zb a N M) : Zb a (N * c) (M * c) := by
  obtain ⟨k, e, l⟩ := h
  refine ⟨k * (c : Int), ?_, by rw [Int.natAbs_mul]; exact Nat.mul_le_mul l (by omega)⟩
  rw [Rat.natCast_mul, Rat.intCast_mul, ← e, Rat.intCast_natCast]
  grind
theorem Zb.le {a : Rat} {N M M' : Nat} (h : Zb a N M) (l : M ≤ M') : Zb a N M' := by
  obtain ⟨k, e, l'⟩ := h
  exact ⟨k, e, Nat.le_trans l' l⟩
theorem Zb.bd {a : Rat} {N M : Nat} (h : Zb a N M) (h0 : N ≠ 0) : Bd a M N := by
  obtain ⟨k, e, l⟩ := h
  have hN : (N : Rat) ≠ 0 := fun z => h0 (by exact_mod_cast z)
  have e2 : a = Rat.divInt k (N : Int) := by
    rw [Rat.divInt_eq_div, ← e, Rat.intCast_natCast]
    grind
  rw [e2]
  exact (bd_divInt (by omega)).le l (by omega)
theorem zb_divInt {n d : Int} {N M c : Nat} (hd : d ≠ 0) (hN : (N : Int) = d * (c : Int)) (hl : n.natAbs * c ≤ M) : Zb (Rat.divInt n d) N M := by
  refine ⟨n * (c : Int), ?_, by rw [Int.natAbs_mul]; exact hl⟩
  have hd' : (d : Rat) ≠ 0 := fun z => hd (by exact_mod_cast z)
  have e : (N : Rat) = (d : Rat) * (c : Rat) := by
    rw [← Rat.intCast_natCast N, hN, Rat.intCast_mul, Rat.intCast_natCast]
  rw [Rat.divInt_eq_div, e, Rat.intCast_mul, Rat.intCast_natCast]
  grind
theorem zb_of {r : Rat} {p q N M : Nat} (h : Bd r p q) (hN : ∀ d, d ≤ q → d ≠ 0 → d ∣ N) (hl : p * N ≤ M) : Zb r N M := by
  obtain ⟨c, hc⟩ := hN r.den h.2 r.den_nz
  have hd := r.den_nz
  have e := zb_divInt (n := r.num) (d := (r.den : Int)) (N := N) (M := M) (c := c) (by omega) (by exact_mod_cast hc) (Nat.le_trans (Nat.mul_le_mul h.1 (show c ≤ N by rw [hc]; exact Nat.le_mul_of_pos_left _ (by omega))) hl)
  rwa [Rat.num_divInt_den] at e
end Z

namespace Z
open PySem PySem.Spec PyProof.Rows L2
def RevQ (K : PySem.W.Frag) (Q : VK) : VK := fun x H1 => ∃ a xs, x = .ref a ∧ SqL K H1 a xs ∧ ∀ p, H1 p = none → Q (.ref p) (upd H1 p (.lst xs.reverse))
section
variable {K : PySem.W.Frag} {H : Hp} {Q : VK} {p q : Addr} {xs ys : List V} {y : V} {σ : L2.St}
theorem z_revL {te : TE} (h : te σ H (RevQ K Q)) : tRevL K te σ H Q := h
theorem z_revE (h : SqL K H p xs) (k : ∀ a H', H a = none → Same H H' → H' a = some (.lst xs.reverse) → Q (.ref a) H') : RevQ K Q (.ref p) H :=
  ⟨p, xs, rfl, h, fun l hl => k l _ hl (same_upd hl) upd_same⟩
theorem z_pop (hp : H p = some (.lst (xs ++ [y]))) (k : Q y (upd H p (.lst xs))) : rPop (.ref p) [] H Q :=
  ⟨p, xs ++ [y], y, rfl, rfl, hp, by simp, by simpa using k⟩
theorem z_cat (h1 : H p = some (.lst xs)) (h2 : H q = some (.lst ys)) (hl : xs.length + ys.length ≤ 1000) (k : ∀ a H', H a = none → Same H H' → H' a = some (.lst (xs ++ ys)) → Q (.ref a) H') : rCat (.ref p) (.ref q) H Q :=
  ⟨p, q, xs, ys, rfl, rfl, h1, h2, sz hl, fun a ha => k a _ ha (same_upd ha) upd_same⟩
theorem z_extend (h1 : H p = some (.lst xs)) (h2 : H q = some (.lst ys)) (hl : xs.length + ys.length ≤ 1000) (k : Q .non (upd H p (.lst (xs ++ ys)))) : rExtend (.ref p) [.ref q] H Q :=
  ⟨p, q, xs, ys, rfl, rfl, h1, h2, sz hl, k⟩
theorem z_bm0L {r : V → List V → Hp → VK → Prop} {to : TE} (ho : ∀ R : VK, R (.ref p) H → to σ H R) (hp : H p = some (.lst xs)) (h : r (.ref p) [] H Q) : tBM0 K "list" r to σ H Q :=
  ho _ ⟨.inl ⟨rfl, _, .inl (.inl hp)⟩, h⟩
end
end Z

/-! set comprehensions, whatever the members are: `r` says what set.add asks, `fr` what the empty set is -/
namespace Sc
open PySem PySem.Spec PyProof.Rows L2 PpSet
abbrev AddR := V → List V → Hp → VK → Prop
/-- one turn's end: the member is added, or left out -/
def Keep (r : AddR) (D : Addr) (te : TE) (Nx : Hp → Prop) (σ2 : L2.St) (b : Bool) (H3 : Hp) : Prop := if b = true then te σ2 H3 fun y H4 => r (.ref D) [y] H4 fun _ H5 => Nx H5 else Nx H3
def tSet (r : AddR) (fr : Addr → HO) (wi : TI) (g : TG) (tt : TT) (te : TE) (vs : List Nat) : TE := fun σ H Q => wi σ H fun J H1 => ∀ D, H1 D = none → ∃ W : Nat → Nat → Hp → Prop,
  (∃ m, W 0 m (upd H1 D (fr D))) ∧ ∀ i m H, W i m H → (J.stop i H ∧ Q (.ref D) H) ∨ (J.go i H ∧ ∃ Nx : Hp → Prop, (∀ H', Nx H' → ∃ m', m' < m ∧ W (i + 1) m' H') ∧
    ∀ x H', J.yld i H x H' → g x (wipe σ vs) H' fun σ2 H2 => wipe σ2 vs = wipe σ vs ∧ tt σ2 H2 (Keep r D te Nx σ2))
abbrev freshSet (w : World) : Obj := { cls := .type "set", dict := none, data := .set #[] 0 (.fresh 0 0 (!w.params.followText "set-order")) }
section
variable {X : Cx}
theorem run_set {pins : List (Addr × Obj)} {s : Shared} {σ : L2.St} {H : Hp} {Q : VK} {r : AddR} {fr : Addr → HO} {elt tg iter : Expr} {ifs : List Expr} {scope : Scope} {own : List (PySem.Str × Nat)} {pos pos' : Pos} {wi : TI} {g : TG} {tt : TT} {te : TE} {use : Option (Value → Sem Unit)} {Qf : Value → Shared → Prop}
    (hfr : ∀ (H : Hp) (h : Heap) (a : Addr), a = h.objs.size → ObjOk X.prog X.w H (h.push (freshSet X.w)) a (fr a))
    (hr : ∀ (s : Shared) (H : Hp) (e : Env) (fp : List Addr), MtR (X.blk s H scope e fp) "set.add" r)
    (hc : X.calm = true) (hN : X.N.Nodup) (I : Inv X pins σ H s) (hi : PI X tg iter wi) (ok : BlkOk X.N X.env.scope scope own)
    (hg : ∀ (s : Shared) (H : Hp) (C : Addr) (cl : List (PySem.Str × Addr)) (fp : List Addr), PG (X.blk s H scope (compEnvC scope cl C X.env) fp) tg g)
    (ht : ∀ (s : Shared) (H : Hp) (C : Addr) (cl : List (PySem.Str × Addr)) (fp : List Addr), PTs (X.blk s H scope (compEnvC scope cl C X.env) fp) ifs tt)
    (he : ∀ (s : Shared) (H : Hp) (C : Addr) (cl : List (PySem.Str × Addr)) (fp : List Addr), PE (X.blk s H scope (compEnvC scope cl C X.env) fp) elt te)
    (hs : ∀ x, foldedSetIterable iter X.env x = pure x) (h : tSet r fr wi g tt te (own.map (·.2)) σ H Q)
    (hend : ∀ D C s' m H', Inv X pins σ H' s' → Q (.ref D) H' → s'.heap.Ns C m → FpOk X pins H' C → compPost (model X.prog X.w) X.A X.xe use Qf (.ref D) C (.ok .next) s') :
    wpAny (model X.prog X.w) X.A (comprehension (.SetComp elt [⟨tg, iter, ifs, 0⟩] scope pos) scope X.env pos' (newSet (.type "set")) false (eval iter X.env) use) Qf X.xe s := by
  have free0 : ∀ y ∈ scope.names, y.2 = .free → ∃ c, X.env.cells.lookup y.1 = some c := fun y hy e => (ok.free y hy e).elim (fun k => I.ok.has _ (.inl k)) fun k => I.ok.has _ (.inr k)
  refine wpAny_comprehension_free (use := use) rfl hs (closure_ok free0) ok.kind (fun y hy e => by rw [ok.uniq y hy, e]) ?_
  refine thn (hi.run pins s σ H _ I h) fun xv s1 hx => thn hx fun itv s2 h2 => ?_
  obtain ⟨it, fp, tn, J, H2, e, I2, T, st2, f2, q⟩ := h2
  subst e
  refine newSet_ok (newEnv_comp ?_)
  have hDn : H2 s2.heap.objs.size = none := I2.hok.fresh (Nat.le_refl _)
  obtain ⟨W, ⟨m0, w0⟩, turn⟩ := q _ hDn
  generalize hs3 : ({ s2 with heap := s2.heap.push (freshSet X.w) } : Shared) = s3
  have h3 : s3.heap = s2.heap.push (freshSet X.w) := by rw [← hs3]
  have I3 : Inv X pins σ (upd H2 s2.heap.objs.size (fr s2.heap.objs.size)) s3 := by
    rw [← hs3]
    exact I2.laid (t' := s2.toks) (fun b o e => Heap.get?_push_of_some _ e) (Nat.le_refl _) (hfr _ _ _ rfl)
  generalize hD : s2.heap.objs.size = D at *
  have old : ∀ b ∈ fp, b < D := fun b hb => by
    obtain ⟨o, e, _⟩ := T.obj _ _ st2 b hb
    rw [← hD]
    exact Heap.lt_size e
  have f3 : ∀ b ∈ fp, FpOk X pins (upd H2 D (fr D)) b ∧ b < s3.heap.objs.size := fun b hb => by
    have l := old b hb
    refine ⟨⟨?_, (f2 b hb).2⟩, ?_⟩
    · rw [upd_ne (Nat.ne_of_lt l)]
      exact (f2 b hb).1
    · rw [h3, Heap.size_push, hD]
      exact Nat.lt_succ_of_lt l
  have st3 : tn 0 s3.heap := T.keep _ _ _ st2 fun b _ o e => by
    rw [h3]
    exact Heap.get?_push_of_some _ e
  have I4 := block_start I3 ok hN f3
  generalize hH3 : upd H2 D (fr D) = H3 at I3 I4 w0 f3
  have pg := hg s3 H3 s3.heap.objs.size (cellsFrom (s3.heap.objs.size + 1) scope.names (cloFrom X.env.cells scope.names [])) fp
  have pt := ht s3 H3 s3.heap.objs.size (cellsFrom (s3.heap.objs.size + 1) scope.names (cloFrom X.env.cells scope.names [])) fp
  have pe := he s3 H3 s3.heap.objs.size (cellsFrom (s3.heap.objs.size + 1) scope.names (cloFrom X.env.cells scope.names [])) fp
  show codeAny _ _ (.compStart (.SetComp elt [⟨tg, iter, ifs, 0⟩] scope pos) 0 (.ref it) (.ref D) (compEnvC scope (cellsFrom (s3.heap.objs.size + 1) scope.names (cloFrom X.env.cells scope.names [])) s3.heap.objs.size X.env)) (compPost (model X.prog X.w) X.A X.xe use Qf (.ref D) s3.heap.objs.size) { s3 with heap := pushCells (s3.heap.push { cls := .type "dict", data := .dict #[] }) scope.names }
  generalize hce : compEnvC scope (cellsFrom (s3.heap.objs.size + 1) scope.names (cloFrom X.env.cells scope.names [])) s3.heap.objs.size X.env = ce at I4 pg pt pe ⊢
  have cL : ce.locals = s3.heap.objs.size := by rw [← hce] <;> rfl
  have ad := hr s3 H3 ce fp
  have nfp : ∀ b ∈ fp, H3 b = none := fun b hb => (f3 b hb).1.1
  generalize hs4 : ({ s3 with heap := pushCells (s3.heap.push { cls := .type "dict", data := .dict #[] }) scope.names } : Shared) = s4 at I4 ⊢
  have st4 : tn 0 s4.heap := T.keep _ _ _ st3 fun b _ o e => by
    rw [← hs4]
    exact pushCells_keeps _ _ _ _ (Heap.get?_push_of_some _ e)
  have stat : ∀ {σ' : L2.St} {H' : Hp} {s' : Shared}, Inv (X.blk s3 H3 scope ce fp) [] σ' H' s' → (∀ b ∈ fp, H' b = none) → ∀ b ∈ fp, FpOk (X.blk s3 H3 scope ce fp) [] H' b := fun I' hn b hb =>
    ⟨hn b hb, (I'.ok.exf b hb).1, I'.ok.exfs b hb, .inl hb, fun x c e => (I'.ok.exf b hb).2 x c e, fun p hp => nomatch (show p ∈ ([] : List (Addr × Obj)) from hp)⟩
  have loop : codeAny (model X.prog X.w) X.A (.compLoop (.SetComp elt [⟨tg, iter, ifs, 0⟩] scope pos) 0 (.ref it) (.ref D) ce) (compPost (model X.prog X.w) X.A X.xe use Qf (.ref D) s3.heap.objs.size) s4 := by
    refine compLoopS_any (fun n s' => ∃ i H', Inv (X.blk s3 H3 scope ce fp) [] (wipe σ (own.map (·.2))) H' s' ∧ tn i s'.heap ∧ (∀ b ∈ fp, H' b = none) ∧ W i n H') ?_ m0 ⟨0, H3, I4, st4, nfp, w0⟩
    rintro n s5 ⟨i, H5, I5, st5, n5, w5⟩
    rcases turn i n H5 w5 with ⟨stop, qq⟩ | ⟨go, Nx, hNx, step⟩
    · refine thnF (T.done (X.blk s3 H3 scope ce fp) rfl rfl rfl hc i [] s5 _ H5 (fun _ _ => False) I5 (stat I5 n5) st5 stop) fun r6 s6 ⟨hr6, I6⟩ => ?_
      subst hr6
      have I7 : Inv X pins σ H5 s6 := I3.call' (ch := fp) I6.os I6.base I6.hok I6.bare fun b hb => by
        obtain ⟨⟨_, a2, _, a4, a5, a6⟩, _⟩ := f3 b hb
        exact ⟨a4, a2, a5, a6⟩
      obtain ⟨m, hn, _⟩ := I6.loc
      have nC : H5 ce.locals = none := I6.free
      have hn : s6.heap.Ns ce.locals m := hn
      rw [cL] at hn nC
      exact hend D _ s6 m H5 I7 qq hn (I3.fpOk (Nat.le_refl _) nC)
    · refine thnF (T.item (X.blk s3 H3 scope ce fp) rfl rfl rfl hc i [] s5 _ H5 (fun _ _ => False) I5 (stat I5 n5) st5 go) fun r6 s6 ⟨u, hr6, h6⟩ => ?_
      subst hr6
      refine thnF h6 fun _ s7 ⟨x, H7, I7, r7, y7, st7, n7⟩ => ?_
      refine thnF (pg.run _ s7 _ H7 x u _ (I7.pinned (stat I7 n7) (T.obj _ _ st7)) r7 (step x H7 y7)) fun _ s8 ⟨σ8, H8, I8, hw8, q8⟩ => ?_
      refine thnF (pt.run _ s8 σ8 H8 _ I8 q8) fun b s9 ⟨H9, I9, q9⟩ => ?_
      have fin : ∀ {s' : Shared} {H' : Hp}, Inv (X.blk s3 H3 scope ce fp) ([] ++ pinsAt fp s7.heap) σ8 H' s' → Nx H' → ∃ m, m < n ∧ ∃ i H', Inv (X.blk s3 H3 scope ce fp) [] (wipe σ (own.map (·.2))) H' s' ∧ tn i s'.heap ∧ (∀ b ∈ fp, H' b = none) ∧ W i m H' := fun {s' H'} I' nx => by
        obtain ⟨m', hm, w'⟩ := hNx H' nx
        have keep : ∀ b ∈ fp, ∀ o, s7.heap.get? b = some o → s'.heap.get? b = some o ∧ H' b = none := fun b hb o e => by
          have z := I'.pin (b, o) (List.mem_append_right _ (List.mem_append_right _ (mem_pinsAt hb e)))
          exact ⟨z.1, z.2.1⟩
        refine ⟨m', hm, i + 1, H', (I'.unpinned (pins := [])).weak (by rw [← hw8, wipe_length]) (fun j v e => ?_), T.keep _ _ _ st7 fun b hb o e => (keep b hb o e).1, fun b hb => ?_, w'⟩
        · rw [← hw8] at e
          exact (wipe_some e).1
        · obtain ⟨o, e, _⟩ := T.obj _ _ st7 b hb
          exact (keep b hb o e).2
      have q9 : Keep r D te Nx σ8 b H9 := q9
      unfold Keep at q9
      cases b with
      | false =>
        rw [if_neg (by decide)] at q9
        exact fin I9 q9
      | true =>
        rw [if_pos rfl] at q9
        refine thnF (pe.run _ s9 σ8 H9 _ I9 q9) fun z s10 ⟨yv, H10, I10, r10, q10⟩ => ?_
        refine thnF (ad _ s10 σ8 H10 (.ref D) [yv] (.ref D) [z] _ I10 rfl (.cons r10 .nil) q10) fun _ s11 ⟨_, H11, I11, _, q11⟩ => fin I11 q11
  exact codeAny_compStart_set loop (T.self X.A 0 _ _ _ st4 loop)
theorem pe_set {r : AddR} {fr : Addr → HO} {elt tg iter : Expr} {ifs : List Expr} {scope : Scope} {own : List (PySem.Str × Nat)} {pos : Pos} {wi : TI} {g : TG} {tt : TT} {te : TE}
    (hfr : ∀ (H : Hp) (h : Heap) (a : Addr), a = h.objs.size → ObjOk X.prog X.w H (h.push (freshSet X.w)) a (fr a)) (hr : ∀ (s : Shared) (H : Hp) (e : Env) (fp : List Addr), MtR (X.blk s H scope e fp) "set.add" r)
    (hc : X.calm = true) (hN : X.N.Nodup) (hi : PI X tg iter wi) (ok : BlkOk X.N X.env.scope scope own)
    (hg : ∀ (s : Shared) (H : Hp) (C : Addr) (cl : List (PySem.Str × Addr)) (fp : List Addr), PG (X.blk s H scope (compEnvC scope cl C X.env) fp) tg g)
    (ht : ∀ (s : Shared) (H : Hp) (C : Addr) (cl : List (PySem.Str × Addr)) (fp : List Addr), PTs (X.blk s H scope (compEnvC scope cl C X.env) fp) ifs tt)
    (he : ∀ (s : Shared) (H : Hp) (C : Addr) (cl : List (PySem.Str × Addr)) (fp : List Addr), PE (X.blk s H scope (compEnvC scope cl C X.env) fp) elt te)
    (hs : ∀ x, foldedSetIterable iter X.env x = pure x := by intro _; rfl) : PE X (.SetComp elt [⟨tg, iter, ifs, 0⟩] scope pos) (tSet r fr wi g tt te (own.map (·.2))) := by
  constructor
  intro pins s σ H Q I h
  rw [eval_SetComp]
  refine run_set hfr hr hc hN I hi ok hg ht he hs h fun D C s' m H' I' q hn ⟨f0, f1, f2, f3, f4, f5⟩ => ⟨m, hn, fun h'' sb => ?_⟩
  exact ⟨.ref D, H', I'.turned (t' := s'.toks) (fun b o hb e => (sb.2 b hb).trans e) f0 f1 f3 f4 f5, rfl, q⟩
/-- sets of whole numbers -/
def frI (w : World) : Addr → HO := fun a => SetO w a (fun _ => false) 0
theorem pe_setI {elt tg iter : Expr} {ifs : List Expr} {scope : Scope} {own : List (PySem.Str × Nat)} {pos : Pos} {wi : TI} {g : TG} {tt : TT} {te : TE}
    (hc : X.calm = true) (hN : X.N.Nodup) (hi : PI X tg iter wi) (ok : BlkOk X.N X.env.scope scope own)
    (hg : ∀ (s : Shared) (H : Hp) (C : Addr) (cl : List (PySem.Str × Addr)) (fp : List Addr), PG (X.blk s H scope (compEnvC scope cl C X.env) fp) tg g)
    (ht : ∀ (s : Shared) (H : Hp) (C : Addr) (cl : List (PySem.Str × Addr)) (fp : List Addr), PTs (X.blk s H scope (compEnvC scope cl C X.env) fp) ifs tt)
    (he : ∀ (s : Shared) (H : Hp) (C : Addr) (cl : List (PySem.Str × Addr)) (fp : List Addr), PE (X.blk s H scope (compEnvC scope cl C X.env) fp) elt te)
    (hs : ∀ x, foldedSetIterable iter X.env x = pure x := by intro _; rfl) : PE X (.SetComp elt [⟨tg, iter, ifs, 0⟩] scope pos) (tSet (rSAdd X.w) (frI X.w) wi g tt te (own.map (·.2))) :=
  pe_set (fun H h a e => by subst e; exact setO_new (setR_fresh X.w)) (fun s H e fp => mt_sadd) hc hN hi ok hg ht he hs
end
/-! ### readings: the set of the numbers of a list that a test lets in -/
open Z
def tSetE (r : AddR) (fr : Addr → HO) (K : PySem.W.Frag) (g : TG) (tt : TT) (te : TE) (vs : List Nat) (σ : L2.St) (Q : VK) : VK := fun x H1 => tSet r fr (iList K (tC x)) g tt te vs σ H1 Q
section
variable {K : PySem.W.Frag} {H : Hp} {Q : VK} {σ : L2.St} {r : AddR} {fr : Addr → HO} {w : World}
theorem z_setE {tl : TE} {g : TG} {tt : TT} {te : TE} {vs : List Nat} (h : tl σ H (tSetE r fr K g tt te vs σ Q)) : tSet r fr (iList K tl) g tt te vs σ H Q := h
/-- the ints of ns that p lets in -/
def inI (p : Int → Bool) (ns : List Int) (S : Int → Bool) : Prop := ∀ k, S k = true ↔ k ∈ ns ∧ p k = true
theorem z_setI {k : Nat} {tt : TT} {vs : List Nat} {a : Addr} {ns : List Int} {te : TE} (p : Int → Bool) (hl : ns.length ≤ 1000) (hx : H a = some (.lst (ns.map V.int)))
    (hw : ∀ x, wipe ((wipe σ vs).set k (some x)) vs = wipe σ vs)
    (ht : ∀ (x : Int) (H' : Hp) (R : Bool → Hp → Prop), x ∈ ns → R (p x) H' → tt ((wipe σ vs).set k (some (.int x))) H' R)
    (he : ∀ (x : Int) (H' : Hp) (R : VK), x ∈ ns → R (.int x) H' → te ((wipe σ vs).set k (some (.int x))) H' R)
    (q : ∀ D H' S n, H D = none → Same H H' → H' D = some (SetO w D S n) → inI p ns S → n ≤ ns.length → Q (.ref D) H') :
    tSetE (rSAdd w) (frI w) K (gName k) tt te vs σ Q (.ref a) H := by
  refine ⟨a, rfl, ⟨_, .inl (.inl hx)⟩, fun D hD => ?_⟩
  have hDa : a ≠ D := ne_of_none hx hD
  let Pv : Nat → Hp → Prop := fun i H' => Same H H' ∧ ∃ S n, H' D = some (SetO w D S n) ∧ inI p (ns.take i) S ∧ n ≤ i
  refine ⟨fun i m H' => m = ns.length - i ∧ i ≤ ns.length ∧ Pv i H', ⟨ns.length, by simp, Nat.zero_le _, same_upd hD, _, 0, upd_same, fun k => by simp, Nat.le_refl _⟩, ?_⟩
  rintro i m H' ⟨rfl, hi, sm, S, n, hS, hin, hn⟩
  have ha := sm _ _ hx
  by_cases hlt : i < ns.length
  · refine .inr ⟨⟨_, .int ns[i], .inl (.inl ha), by simp [hlt]⟩, Pv (i + 1), fun H2 p2 => ⟨ns.length - (i + 1), by omega, rfl, hlt, p2⟩, fun x H2 y => ?_⟩
    obtain ⟨e, y⟩ := y
    subst e
    have e := y _ (.inl (.inl ha))
    have ex : x = .int ns[i] := by
      have e2 : (ns.map V.int)[i]? = some (.int ns[i]) := by simp [hlt]
      rw [e2] at e
      exact (Option.some.inj e).symm
    subst ex
    refine ⟨hw _, ht _ _ _ (List.getElem_mem hlt) ?_⟩
    have tk : ns.take (i + 1) = ns.take i ++ [ns[i]] := by rw [List.take_add_one, List.getElem?_eq_getElem hlt] <;> rfl
    unfold Keep
    by_cases c : p ns[i] = true
    · rw [if_pos c]
      refine he _ _ _ (List.getElem_mem hlt) ?_
      refine ⟨D, ns[i], S, n, rfl, rfl, hS, Nat.lt_of_le_of_lt (show n + 1 ≤ 1001 by omega) (by decide), ?_, _, _, upd_same, ?_, ?_⟩
      · exact fun b o e => by
          rw [upd_ne (ne_of_none e hD)]
          exact sm _ _ e
      · intro k
        rw [tk, List.mem_append, List.mem_singleton, Bool.or_eq_true, hin k, decide_eq_true_eq]
        constructor
        · rintro (⟨z1, z2⟩ | rfl)
          · exact ⟨.inl z1, z2⟩
          · exact ⟨.inr rfl, c⟩
        · rintro ⟨z1 | rfl, z2⟩
          · exact .inl ⟨z1, z2⟩
          · exact .inr rfl
      · split <;> omega
    · rw [if_neg c]
      refine ⟨sm, S, n, hS, fun k => ?_, by omega⟩
      rw [tk, List.mem_append, List.mem_singleton, hin k]
      constructor
      · rintro ⟨z1, z2⟩
        exact ⟨.inl z1, z2⟩
      · rintro ⟨z1 | rfl, z2⟩
        · exact ⟨z1, z2⟩
        · exact absurd z2 c
  · have e : i = ns.length := by omega
    subst e
    refine .inl ⟨⟨_, .inl (.inl ha), by simp⟩, q D H' S n hD sm hS (by rwa [List.take_length] at hin) hn⟩
/-- sorted(set of ints) -/
theorem z_sortedSet {a : Addr} {S : Int → Bool} {n : Nat} (h : H a = some (SetO w a S n)) (hn : n < 64) (q : ∀ (ns : List Int) (p : Addr) (H' : Hp), ns.Pairwise (· < ·) → (∀ k, k ∈ ns ↔ S k = true) → ns.length = n → H p = none → Same H H' → H' p = some (.lst (ns.map V.int)) → Q (.ref p) H') :
    rSortedSet w [.ref a] H Q := ⟨a, S, n, rfl, h, hn, fun ns p h1 h2 h3 hp => q ns p _ h1 h2 h3 hp (same_upd hp) upd_same⟩
end
end Sc

namespace Z
open PySem PySem.Spec PyProof.Rows L2
def rMax2 : List V → Hp → VK → Prop := fun xs H Q => ∃ i j, xs = [.int i, .int j] ∧ Q (.int (if j > i then j else i)) H
def rMin2 : List V → Hp → VK → Prop := fun xs H Q => ∃ i j, xs = [.int i, .int j] ∧ Q (.int (if j < i then j else i)) H
theorem c_max2 {X : Cx} (hc : X.calm = true) : CallR X (.builtin "max") rMax2 := call_max2 hc
theorem c_min2 {X : Cx} (hc : X.calm = true) : CallR X (.builtin "min") rMin2 := call_min2 hc
def rDivmod : List V → Hp → VK → Prop := fun xs H Q => ∃ i j, xs = [.int i, .int j] ∧ CDiv i j ∧ ∀ p, H p = none → Q (.ref p) (upd H p (.tup [.int (i / j), .int (i % j)]))
theorem c_divmod {X : Cx} : CallR X (.builtin "divmod") rDivmod := call_divmod
def TruQ (K : PySem.W.Frag) (QB : Bool → Hp → Prop) : VK := fun x H' => ∃ k, TruV K x H' k ∧ QB k H'
def tTru (K : PySem.W.Frag) (te : TE) : TT := fun σ H QB => te σ H (TruQ K QB)
theorem pt_tru {X : Cx} {a : Expr} {ta : TE} (ha : PE X a ta) (he : ∀ whole, isTrue a X.env whole = (do let v ← whole; standAt a.pos; holding [v] (truthy v))) : PT X a (tTru X.K ta) := pt_truth ha he
section
variable {K : PySem.W.Frag} {σ : L2.St} {H : Hp} {Q : VK} {QB : Bool → Hp → Prop} {i j : Int} {v x y : V} {p q l : Addr} {xs ys : List V} {te : TE}
theorem z_max2 (h : Q (.int (if j > i then j else i)) H) : rMax2 [.int i, .int j] H Q := ⟨i, j, rfl, h⟩
theorem z_min2 (h : Q (.int (if j < i then j else i)) H) : rMin2 [.int i, .int j] H Q := ⟨i, j, rfl, h⟩
theorem z_divmod (c : 0 < j ∧ j < 1073741824) (h : ∀ p H', H p = none → Same H H' → H' p = some (.tup [.int (i / j), .int (i % j)]) → Q (.ref p) H') : rDivmod [.int i, .int j] H Q :=
  ⟨i, j, rfl, c, fun a ha => h a _ ha (same_upd ha) upd_same⟩
theorem z_tru (h : te σ H (TruQ K QB)) : tTru K te σ H QB := h
/-- a test whose answer is known -/
theorem z_known {tt : TT} (k : Bool) (h : ∀ R : Bool → Hp → Prop, R k H → tt σ H R) (q : QB k H) : tt σ H QB := h QB q
/-- a test that is known to fail -/
theorem z_skip {n : L2.St → Hp → Prop} {r : VK} {b c : L2.St → Hp → Prop} {tt : TT} {t : TS} (h : ∀ R : Bool → Hp → Prop, R false H → tt σ H R) (q : n σ H) : tIfS tt t tNext ⟨n, r, b, c⟩ σ H := by
  refine h _ ?_
  rw [if_neg (by decide)]
  exact q
theorem z_truL (h : H p = some (.lst xs)) (q : QB (!xs.isEmpty) H) : TruQ K QB (.ref p) H := ⟨_, .inl ⟨xs, .inl (.inl h), rfl⟩, q⟩
theorem z_truT (h : SqT K H p xs) (q : QB (!xs.isEmpty) H) : TruQ K QB (.ref p) H := ⟨_, .inr (.inl ⟨xs, h, rfl⟩), q⟩
theorem z_truI (q : QB (i != 0) H) : TruQ K QB (.int i) H := ⟨_, rfl, q⟩
theorem rep_one (v : V) : ∀ m : Nat, (List.replicate m [v]).flatten = List.replicate m v
  | 0 => rfl
  | m + 1 => by
    rw [List.replicate_succ, List.flatten_cons, rep_one v m, List.replicate_succ]
    rfl
theorem z_rep (m : Nat) (h : H l = some (.lst [v])) (hj : j = (m : Int)) (hm : m ≤ 1000) (q : ∀ a H', H a = none → Same H H' → H' a = some (.lst (List.replicate m v)) → Q (.ref a) H') : rRep (.ref l) (.int j) H Q := by
  subst hj
  refine ⟨l, (m : Int), [v], rfl, rfl, h, by omega, by omega, Nat.le_trans (show [v].length * (m : Int).toNat ≤ 1000 by simpa using hm) (by decide), fun a ha => ?_⟩
  rw [Int.toNat_natCast, rep_one v m]
  exact q a _ ha (same_upd ha) upd_same
/-! while -/
/-- the number in slot k, as a measure -/
def muI (k : Nat) : L2.St → Hp → Nat := fun σ _ => match (σ[k]? : Option (Option V)) with
  | some (some (V.int m)) => m.toNat
  | _ => 0
def WB (Pv : L2.St → Hp → Prop) (μ : L2.St → Hp → Nat) (m : Nat) (tb : TS) (n : L2.St → Hp → Prop) (r : VK) (σ : L2.St) : Bool → Hp → Prop := fun b H1 =>
  if b = true then ∃ N : L2.St → Hp → Prop, (∀ σ' H', N σ' H' → ∃ m', m' < m ∧ m' = μ σ' H' ∧ Pv σ' H') ∧ tb ⟨N, r, n, N⟩ σ H1 else n σ H1
section
variable {Pv : L2.St → Hp → Prop} {μ : L2.St → Hp → Nat} {m : Nat} {tb : TS} {n : L2.St → Hp → Prop} {r : VK} {b c : L2.St → Hp → Prop}
theorem z_wbT (h : tb ⟨fun σ' H' => Pv σ' H' ∧ μ σ' H' < m, r, n, fun σ' H' => Pv σ' H' ∧ μ σ' H' < m⟩ σ H) : WB Pv μ m tb n r σ true H := by
  unfold WB
  rw [if_pos rfl]
  exact ⟨_, fun σ' H' z => ⟨_, z.2, rfl, z.1⟩, h⟩
theorem z_wbF (h : n σ H) : WB Pv μ m tb n r σ false H := by
  unfold WB
  rw [if_neg (by decide)]
  exact h
theorem z_wb {p : Prop} [Decidable p] (h1 : p → tb ⟨fun σ' H' => Pv σ' H' ∧ μ σ' H' < m, r, n, fun σ' H' => Pv σ' H' ∧ μ σ' H' < m⟩ σ H) (h2 : ¬ p → n σ H) : WB Pv μ m tb n r σ (decide p) H := by
  by_cases h : p
  · rw [decide_eq_true h]
    exact z_wbT (h1 h)
  · rw [decide_eq_false h]
    exact z_wbF (h2 h)
theorem z_while {tt : TT} (Pv : L2.St → Hp → Prop) (μ : L2.St → Hp → Nat) (h0 : Pv σ H) (hs : ∀ σ H, Pv σ H → tt σ H (WB Pv μ (μ σ H) tb n r σ)) : tWhile tt tb ⟨n, r, b, c⟩ σ H := by
  refine ⟨fun m σ H => m = μ σ H ∧ Pv σ H, ⟨_, rfl, h0⟩, ?_⟩
  rintro m σ H ⟨rfl, p⟩
  exact hs σ H p
end
/-! comprehensions over a range, over a list: the list at D grows -/
def LcB (D : Addr) (i : Nat) (Pv : Nat → Addr → List V → Hp → Prop) (Nx : Hp → Prop) : VK := fun y H4 => ∃ acc, H4 D = some (.lst acc) ∧ acc.length < sizeLine ∧ Nx (upd H4 D (.lst (acc ++ [y])))
theorem z_lcB {D : Addr} {i : Nat} {Pv : Nat → Addr → List V → Hp → Prop} {acc : List V} (h : H D = some (.lst acc)) (hl : acc.length = i) (hi : i < 1000) (q : ∀ H', H' D = some (.lst (acc ++ [y])) → Kp D H H' → (∀ b, b ≠ D → H' b = H b) → Pv (i + 1) D (acc ++ [y]) H') :
    LcB D i Pv (fun H' => ∃ acc', acc'.length = i + 1 ∧ H' D = some (.lst acc') ∧ Pv (i + 1) D acc' H') y H :=
  ⟨acc, h, Nat.lt_of_lt_of_le (show acc.length < 1000 by omega) (by decide), acc ++ [y], by simp [hl], upd_same, q _ upd_same (fun b o hb e => by rw [upd_ne hb]; exact e) fun b hb => upd_ne hb⟩
abbrev LcN (D : Addr) (i : Nat) (Pv : Nat → Addr → List V → Hp → Prop) : VK := LcB D i Pv (fun H' => ∃ acc', acc'.length = i + 1 ∧ H' D = some (.lst acc') ∧ Pv (i + 1) D acc' H')
theorem z_lcR {ta : TA} {k : Nat} {te : TE} {vs : List Nat} (m : Nat) (hm : m ≤ 1000) (ha : ∀ R : List V → Hp → Prop, R [.int (m : Int)] H → ta σ H R) (hw : ∀ x, wipe ((wipe σ vs).set k (some x)) vs = wipe σ vs) (Pv : Nat → Addr → List V → Hp → Prop)
    (h0 : ∀ D H', H D = none → Same H H' → H' D = some (.lst []) → Pv 0 D [] H')
    (hs : ∀ i D acc H', i < m → acc.length = i → H' D = some (.lst acc) → Pv i D acc H' → te ((wipe σ vs).set k (some (.int (i : Int)))) H' (LcN D i Pv))
    (hd : ∀ D acc H', H D = none → acc.length = m → H' D = some (.lst acc) → Pv m D acc H' → Q (.ref D) H') : tLc (iRng1 ta) (gName k) tYes te vs σ H Q := by
  refine ha _ ⟨(m : Int), rfl, by omega, by omega, fun D hD => ?_⟩
  refine lc_range (lo := 0) (n := (m : Int).toNat) (fun i H' => ∃ acc, acc.length = i ∧ H' D = some (.lst acc) ∧ Pv i D acc H') ⟨[], rfl, upd_same, h0 D _ hD (same_upd hD) upd_same⟩ (fun i H' hi ⟨acc, hl, hH, pv⟩ => ?_) (fun H' ⟨acc, hl, hH, pv⟩ => hd D acc H' hD (by simpa using hl) hH (by simpa using pv))
  have e : (0 : Int) + (i : Int) = (i : Int) := Int.zero_add _
  show wipe ((wipe σ vs).set k (some (.int ((0 : Int) + (i : Int))))) vs = wipe σ vs ∧ _
  refine ⟨hw _, z_yes (z_ifT ?_)⟩
  rw [e]
  exact hs i D acc H' (by simpa using hi) hl hH pv
def LcE (K : PySem.W.Frag) (g : TG) (tt : TT) (te : TE) (vs : List Nat) (σ : L2.St) (Q : VK) : VK := fun x H1 => tLc (iList K (tC x)) g tt te vs σ H1 Q
theorem z_lcE {tl : TE} {g : TG} {tt : TT} {vs : List Nat} (h : tl σ H (LcE K g tt te vs σ Q)) : tLc (iList K tl) g tt te vs σ H Q := h
def LcRE (g : TG) (tt : TT) (te : TE) (vs : List Nat) (σ : L2.St) (Q : VK) : List V → Hp → Prop := fun xs H1 => tLc (iRng1 fun _ H R => R xs H) g tt te vs σ H1 Q
theorem z_lcRE {ta : TA} {g : TG} {tt : TT} {vs : List Nat} (h : ta σ H (LcRE g tt te vs σ Q)) : tLc (iRng1 ta) g tt te vs σ H Q := h
theorem z_lcRr {k : Nat} {vs : List Nat} (m : Nat) (hm : m ≤ 1000) (hw : ∀ x, wipe ((wipe σ vs).set k (some x)) vs = wipe σ vs) (Pv : Nat → Addr → List V → Hp → Prop)
    (h0 : ∀ D H', H D = none → Same H H' → H' D = some (.lst []) → Pv 0 D [] H')
    (hs : ∀ i D acc H', i < m → acc.length = i → H' D = some (.lst acc) → Pv i D acc H' → te ((wipe σ vs).set k (some (.int (i : Int)))) H' (LcN D i Pv))
    (hd : ∀ D acc H', H D = none → acc.length = m → H' D = some (.lst acc) → Pv m D acc H' → Q (.ref D) H') : LcRE (gName k) tYes te vs σ Q [.int (m : Int)] H := z_lcR m hm (fun R q => q) hw Pv h0 hs hd
/-- over a list that stands as long as Pv -/
theorem z_lcLs {k : Nat} {vs : List Nat} {a : Addr} (hm : xs.length ≤ 1000) (hx : SqL K H a xs) (hw : ∀ x, wipe ((wipe σ vs).set k (some x)) vs = wipe σ vs) (Pv : Nat → Addr → List V → Hp → Prop)
    (h0 : ∀ D H', H D = none → Same H H' → H' D = some (.lst []) → Pv 0 D [] H') (hl : ∀ i D acc H', Pv i D acc H' → SqL K H' a xs)
    (hs : ∀ i x D acc H', xs[i]? = some x → acc.length = i → H' D = some (.lst acc) → Pv i D acc H' → te ((wipe σ vs).set k (some x)) H' (LcN D i Pv))
    (hd : ∀ D acc H', H D = none → acc.length = xs.length → H' D = some (.lst acc) → Pv xs.length D acc H' → Q (.ref D) H') : LcE K (gName k) tYes te vs σ Q (.ref a) H := by
  refine ⟨a, rfl, ⟨xs, hx⟩, fun D hD => ?_⟩
  refine lc_list (xs := xs) (fun i H' => ∃ acc, acc.length = i ∧ H' D = some (.lst acc) ∧ Pv i D acc H') ⟨[], rfl, upd_same, h0 D _ hD (same_upd hD) upd_same⟩ (fun i H' _ ⟨acc, _, _, pv⟩ => hl _ _ _ _ pv) (fun i x H' hi ⟨acc, hl, hH, pv⟩ => ?_) (fun H' ⟨acc, hl, hH, pv⟩ => hd D acc H' hD hl hH pv)
  show wipe ((wipe σ vs).set k (some x)) vs = wipe σ vs ∧ _
  exact ⟨hw _, z_yes (z_ifT (hs i x D acc H' hi hl hH pv))⟩
/-- any target -/
theorem z_lcG {g : TG} {vs : List Nat} {a : Addr} (hm : xs.length ≤ 1000) (hx : SqL K H a xs) (Pv : Nat → Addr → List V → Hp → Prop)
    (h0 : ∀ D H', H D = none → Same H H' → H' D = some (.lst []) → Pv 0 D [] H') (hl : ∀ i D acc H', Pv i D acc H' → SqL K H' a xs)
    (hs : ∀ i x D acc H', xs[i]? = some x → acc.length = i → H' D = some (.lst acc) → Pv i D acc H' → g x (wipe σ vs) H' fun σ2 H2 => wipe σ2 vs = wipe σ vs ∧ te σ2 H2 (LcN D i Pv))
    (hd : ∀ D acc H', H D = none → acc.length = xs.length → H' D = some (.lst acc) → Pv xs.length D acc H' → Q (.ref D) H') : LcE K g tYes te vs σ Q (.ref a) H := by
  refine ⟨a, rfl, ⟨xs, hx⟩, fun D hD => ?_⟩
  refine lc_list (xs := xs) (fun i H' => ∃ acc, acc.length = i ∧ H' D = some (.lst acc) ∧ Pv i D acc H') ⟨[], rfl, upd_same, h0 D _ hD (same_upd hD) upd_same⟩ (fun i H' _ ⟨acc, _, _, pv⟩ => hl _ _ _ _ pv) (fun i x H' hi ⟨acc, hl, hH, pv⟩ => ?_) (fun H' ⟨acc, hl, hH, pv⟩ => hd D acc H' hD hl hH pv)
  have h := hs i x D acc H' hi hl hH pv
  have e : (fun σ2 H2 => wipe σ2 vs = wipe σ vs ∧ te σ2 H2 (LcN D i Pv)) = (fun (σ2 : L2.St) (H2 : Hp) => wipe σ2 vs = wipe σ vs ∧ tYes σ2 H2 fun b H3 => if b = true then te σ2 H3 (LcN D i Pv) else ∃ acc', acc'.length = i + 1 ∧ H3 D = some (.lst acc') ∧ Pv (i + 1) D acc' H3) := by
    funext σ2 H2
    show _ = (wipe σ2 vs = wipe σ vs ∧ if true = true then te σ2 H2 (LcN D i Pv) else ∃ acc', acc'.length = i + 1 ∧ H2 D = some (.lst acc') ∧ Pv (i + 1) D acc' H2)
    rw [if_pos rfl]
  rw [e] at h
  exact h
/-- where the item answers at once -/
theorem z_lcS {k : Nat} {vs : List Nat} {a : Addr} (ws : List V) (hlen : ws.length = xs.length) (hm : xs.length ≤ 1000) (hx : H a = some (.lst xs)) (hw : ∀ x, wipe ((wipe σ vs).set k (some x)) vs = wipe σ vs)
    (body : ∀ (i : Nat) (x w : V) (H' : Hp), xs[i]? = some x → ws[i]? = some w → Same H H' → ∀ R : VK, R w H' → te ((wipe σ vs).set k (some x)) H' R)
    (hd : ∀ D H', H D = none → Same H H' → H' D = some (.lst ws) → Q (.ref D) H') : LcE K (gName k) tYes te vs σ Q (.ref a) H :=
  z_lcM (tl := tC (.ref a)) hlen hm (fun R q => q) hx hw body hd
end
/-! ### data: numbers, lists of numbers -/
def Fl (n : Nat) (d : PyData) : Prop := PyData.canLay0 d = true ∧ PyData.depth d ≤ n
theorem fl_all {n : Nat} : ∀ {ds : List PyData}, (∀ d ∈ ds, Fl n d) → PyData.canLayAll0 ds = true ∧ PyData.depthAll ds ≤ n
  | [], _ => ⟨rfl, Nat.zero_le _⟩
  | d :: ds, h => by
    have h1 := h d (.head _)
    have h2 := fl_all (ds := ds) fun x hx => h x (.tail _ hx)
    refine ⟨?_, ?_⟩
    · show (PyData.canLay0 d && PyData.canLayAll0 ds) = true
      rw [h1.1, h2.1]
      rfl
    · show max (PyData.depth d) (PyData.depthAll ds) ≤ n
      have := h1.2
      have := h2.2
      omega
theorem fl_list {n : Nat} {ds : List PyData} (h : ∀ d ∈ ds, Fl n d) : Fl (n + 1) (.list ds) := ⟨(fl_all h).1, Nat.succ_le_succ (fl_all h).2⟩
theorem fl_tup {n : Nat} {ds : List PyData} (h : ∀ d ∈ ds, Fl n d) : Fl (n + 1) (.tuple ds) := ⟨(fl_all h).1, Nat.succ_le_succ (fl_all h).2⟩
theorem fl_int (i : Int) : Fl 0 (.int i) := ⟨rfl, Nat.le_refl 0⟩
theorem shaped_fl {n : Nat} {d : PyData} (h : Fl n d) (hn : n ≤ 64 := by decide) : SeqAt.shaped d = true := by
  unfold SeqAt.shaped
  rw [Bool.and_eq_true]
  exact ⟨h.1, decide_eq_true (Nat.le_trans h.2 hn)⟩
theorem fl_ints (ns : List Int) : Fl 1 (.list (ns.map .int)) := fl_list fun d hd => by
  obtain ⟨i, _, rfl⟩ := List.mem_map.mp hd
  exact fl_int i
section
variable {K : PySem.W.Frag} {H : Hp} {Q : VK} {p q : Addr}
theorem dpa_ints : ∀ (ns : List Int), DpAll K H (ns.map V.int) (ns.map PyData.int)
  | [] => .nil
  | n :: ns => .cons (.int n) (dpa_ints ns)
theorem dp_ints {ns : List Int} (h : H p = some (.lst (ns.map V.int))) : Dp K H (.ref p) (.list (ns.map .int)) := .lst (.inl (.inl h)) (dpa_ints ns)
theorem eqv_intsA : ∀ (ns ms : List Int), PyData.eqv (.list (ns.map .int)) (.list (ms.map .int)) = decide (ns = ms)
  | [], [] => rfl
  | [], m :: ms => rfl
  | n :: ns, [] => rfl
  | n :: ns, m :: ms => by
    have ih := eqv_intsA ns ms
    show ((n == m) && PyData.eqv (.list (ns.map .int)) (.list (ms.map .int))) = _
    rw [ih]
    by_cases h : n = m
    · subst h
      by_cases h2 : ns = ms
      · simp [h2]
      · simp [h2]
    · simp [h]
theorem z_eqInts {ns ms : List Int} (h1 : H p = some (.lst (ns.map V.int))) (h2 : H q = some (.lst (ms.map V.int))) (k : Q (.bl (decide (ns = ms))) H) : rEqD K (.ref p) (.ref q) H Q :=
  ⟨_, _, dp_ints h1, dp_ints h2, shaped_fl (fl_ints ns), shaped_fl (fl_ints ms), by rw [eqv_intsA]; exact k⟩
theorem z_neInts {ns ms : List Int} (h1 : H p = some (.lst (ns.map V.int))) (h2 : H q = some (.lst (ms.map V.int))) (k : Q (.bl (decide (¬ ns = ms))) H) : rNeD K (.ref p) (.ref q) H Q :=
  ⟨_, _, dp_ints h1, dp_ints h2, shaped_fl (fl_ints ns), shaped_fl (fl_ints ms), by
    rw [eqv_intsA, show (!decide (ns = ms)) = decide (¬ ns = ms) by simp]
    exact k⟩
theorem inV_int (i : Int) : ∀ (ns : List Int), inV (.int i) (ns.map V.int) = decide (i ∈ ns)
  | [] => rfl
  | n :: ns => by
    have ih := inV_int i ns
    show (eqV (.int n) (.int i) || inV (.int i) (ns.map V.int)) = _
    rw [ih, show eqV (.int n) (.int i) = decide (n = i) by first | rfl | simp [eqV]]
    by_cases h : n = i
    · subst h
      simp
    · have h' : ¬ i = n := fun z => h z.symm
      simp [h, h']
theorem flat_ints (ns : List Int) : (ns.map V.int).all flatV = true := by
  rw [List.all_eq_true]
  intro v hv
  obtain ⟨i, _, rfl⟩ := List.mem_map.mp hv
  rfl
theorem z_inI {i : Int} {ns : List Int} (h : H p = some (.lst (ns.map V.int))) (k : Q (.bl (decide (i ∈ ns))) H) : rIn K false (.int i) (.ref p) H Q :=
  ⟨p, _, rfl, .inl (.inl (.inl h)), rfl, flat_ints ns, by rw [inV_int]; exact k⟩
theorem z_notInI {i : Int} {ns : List Int} (h : H p = some (.lst (ns.map V.int))) (k : Q (.bl (decide (¬ i ∈ ns))) H) : rIn K true (.int i) (.ref p) H Q :=
  ⟨p, _, rfl, .inl (.inl (.inl h)), rfl, flat_ints ns, by
    rw [inV_int, show (if true = true then !decide (i ∈ ns) else decide (i ∈ ns)) = decide (¬ i ∈ ns) by simp]
    exact k⟩
theorem z_sortedI {ns : List Int} (h : H p = some (.lst (ns.map V.int))) (k : ∀ (ms : List Int) (a : Addr) (H' : Hp), ms.Perm ns → ms.Pairwise (· ≤ ·) → H a = none → Same H H' → H' a = some (.lst (ms.map V.int)) → Q (.ref a) H') : rSortedI K [.ref p] H Q :=
  ⟨p, ns, rfl, .inl (.inl h), fun ms a h1 h2 ha => k ms a _ h1 h2 ha (same_upd ha) upd_same⟩
/-- truth values -/
theorem inV_bl (i : Bool) : ∀ (ns : List Bool), inV (.bl i) (ns.map V.bl) = decide (i ∈ ns)
  | [] => rfl
  | n :: ns => by
    have ih := inV_bl i ns
    show (eqV (.bl n) (.bl i) || inV (.bl i) (ns.map V.bl)) = _
    rw [ih]
    cases n <;> cases i <;> simp [eqV]
theorem flat_bls (ns : List Bool) : (ns.map V.bl).all flatV = true := by
  rw [List.all_eq_true]
  intro v hv
  obtain ⟨i, _, rfl⟩ := List.mem_map.mp hv
  rfl
theorem z_inB {i : Bool} {ns : List Bool} (h : H p = some (.lst (ns.map V.bl))) (k : Q (.bl (decide (i ∈ ns))) H) : rIn K false (.bl i) (.ref p) H Q :=
  ⟨p, _, rfl, .inl (.inl (.inl h)), rfl, flat_bls ns, by rw [inV_bl]; exact k⟩
theorem z_notInB {i : Bool} {ns : List Bool} (h : H p = some (.lst (ns.map V.bl))) (k : Q (.bl (decide (¬ i ∈ ns))) H) : rIn K true (.bl i) (.ref p) H Q :=
  ⟨p, _, rfl, .inl (.inl (.inl h)), rfl, flat_bls ns, by
    rw [inV_bl, show (if true = true then !decide (i ∈ ns) else decide (i ∈ ns)) = decide (¬ i ∈ ns) by simp]
    exact k⟩
theorem z_notNI {i : Int} (q : Q (.bl true) H) : rNotN (.int i) .non H Q := ⟨rfl, by simpa using q⟩
theorem z_isNI {i : Int} (q : Q (.bl false) H) : rIsN (.int i) .non H Q := ⟨rfl, by simpa using q⟩
theorem fresh_of {H H' : Hp} {a : Addr} (s : Same H H') (h : H' a = none) : H a = none := by
  cases z : H a with
  | none => rfl
  | some o =>
    have := s _ _ z
    rw [h] at this
    cases this
/-- sorted(ints) -/
theorem z_sorted {ns : List Int} (h : H p = some (.lst (ns.map V.int))) (hl : ns.length < 64) (k : ∀ (ms : List Int) (a : Addr) (H' : Hp), ms.Perm ns → ms.Pairwise (· ≤ ·) → H a = none → Same H H' → H' a = some (.lst (ms.map V.int)) → Q (.ref a) H') : rSorted K [.ref p] H Q :=
  ⟨p, ns, rfl, .inl (.inl h), hl, fun ms a h1 h2 ha => k ms a _ h1 h2 ha (same_upd ha) upd_same⟩
end
end Z

namespace Z
open PySem PySem.Spec PyProof PyProof.Rows L2
theorem get_list {X : Cx} : PGet X (rIxL X.K) := by
  intro pins s σ H o i ov iv Q I ro ri h
  obtain ⟨p, xs, k, z, rfl, rfl, hq, he, q⟩ := h
  cases ro
  obtain ⟨t, rfl⟩ := ri
  obtain ⟨its, r, pl, hz⟩ := I.list hq
  obtain ⟨j, h1, h2, h3, h4, h5⟩ := atI_get he
  obtain ⟨w, ew, rw'⟩ := r.get h2
  have hl := r.length
  have hn := line63
  by_cases h0 : 0 ≤ k
  · have hj : k.toNat = j := by
      rw [seqIndex_of h0 h5] at h1
      exact Option.some.inj h1
    exact wpAny_getItem_list pl.isList h0 (by omega) (by rw [hj]; simpa using ew) ⟨z, H, I, rw', q⟩
  · have hj : (k + (its.toArray.size : Int)).toNat = j := by
      rw [seqIndex_neg (by omega) h4] at h1
      rw [List.size_toArray, ← hl]
      exact Option.some.inj h1
    exact wpAny_getItem_list_neg pl.isList (by omega) (by rw [List.size_toArray, ← hl]; omega) (by omega) (by rw [hj]; simpa using ew) ⟨z, H, I, rw', q⟩
section
variable {K : PySem.W.Frag} {σ : L2.St} {H H' : Hp} {Q : VK} {p q : Addr} {xs ys : List V} {v y : V} {n : L2.St → Hp → Prop} {r : VK} {b c : L2.St → Hp → Prop} {tb : TS}
theorem z_augS {to ti te : TE} {tip : TIp} {st : TSet} {tget : V → V → Hp → VK → Prop} (h : to σ H fun o H1 => ti σ H1 fun i H2 => tget o i H2 fun x H3 => te σ H3 fun y H4 => tip x y H4 fun z H5 => st o i z H5 fun H6 => n σ H6) : tAugS to ti te tget tip st ⟨n, r, b, c⟩ σ H := h
/-- for k in range(lo, hi), whatever the two are -/
theorem z_forR2g {ta : TA} {k : Nat} (lo hi : Int) (hl : -(2 ^ 61) ≤ lo ∧ lo < 2 ^ 61) (hh : -(2 ^ 61) ≤ hi ∧ hi < 2 ^ 61) (ha : ∀ R : List V → Hp → Prop, R [.int lo, .int hi] H → ta σ H R) (Pv : Nat → L2.St → Hp → Prop) (h0 : Pv 0 σ H)
    (hs : ∀ i σ H, i < (hi - lo).toNat → Pv i σ H → tb ⟨Pv (i + 1), r, n, Pv (i + 1)⟩ (σ.set k (some (.int (lo + (i : Int))))) H) (hd : ∀ σ H, Pv (hi - lo).toNat σ H → n σ H) : tFor (iRng2 ta) (gName k) tb ⟨n, r, b, c⟩ σ H :=
  ha _ ⟨lo, hi, rfl, by omega, for_range (lo := lo) (n := (hi - lo).toNat) Pv h0 hs hd⟩
theorem z_extendW (h1 : H p = some (.lst xs)) (h2 : H q = some (.lst ys)) (hl : xs.length + ys.length ≤ 1000000) (k : Q .non (upd H p (.lst (xs ++ ys)))) : rExtend (.ref p) [.ref q] H Q :=
  ⟨p, q, xs, ys, rfl, rfl, h1, h2, Nat.le_trans hl (by decide), k⟩
theorem z_appendW (hp : H p = some (.lst xs)) (hl : xs.length < 1000000) (k : Q .non (upd H p (.lst (xs ++ [y])))) : rAppend (.ref p) [y] H Q := ⟨p, xs, y, rfl, rfl, hp, Nat.lt_of_lt_of_le hl (by decide), k⟩
/-! lists of data -/
theorem dpa_len : ∀ {ds : List PyData} {vs : List V}, DpAll K H vs ds → vs.length = ds.length
  | [], vs, h => by rw [dpa_nil h]; rfl
  | d :: ds, vs, h => by
    obtain ⟨v, t, rfl, _, h2⟩ := dpa_cons h
    rw [List.length_cons, List.length_cons, dpa_len h2]
theorem dpa_get : ∀ {ds : List PyData} {vs : List V} {i : Nat} {d : PyData}, DpAll K H vs ds → ds[i]? = some d → ∃ v, vs[i]? = some v ∧ Dp K H v d
  | [], _, _, _, _, e => by simp at e
  | d' :: ds, vs, i, d, h, e => by
    obtain ⟨v, t, rfl, h1, h2⟩ := dpa_cons h
    cases i with
    | zero =>
      cases e
      exact ⟨v, rfl, h1⟩
    | succ i =>
      have h5 := dpa_get (i := i) h2 (show ds[i]? = some _ from e)
      exact h5
theorem dpa_getv {ds : List PyData} {vs : List V} {i : Nat} {v : V} (h : DpAll K H vs ds) (e : vs[i]? = some v) : ∃ d, ds[i]? = some d ∧ Dp K H v d := by
  have hi : i < vs.length := (List.getElem?_eq_some_iff.mp e).1
  obtain ⟨w, hw, d⟩ := dpa_get h (List.getElem?_eq_getElem (show i < ds.length by rw [← dpa_len h]; exact hi))
  rw [e] at hw
  cases hw
  exact ⟨_, List.getElem?_eq_getElem _, d⟩
theorem dpa_app : ∀ {ds es : List PyData} {vs ws : List V}, DpAll K H vs ds → DpAll K H ws es → DpAll K H (vs ++ ws) (ds ++ es)
  | [], _, _, _, h, k => by
    rw [dpa_nil h]
    exact k
  | _ :: _, _, _, _, h, k => by
    obtain ⟨v, t, rfl, h1, h2⟩ := dpa_cons h
    exact .cons h1 (dpa_app h2 k)
theorem dpa_one {d : PyData} (h : Dp K H v d) : DpAll K H [v] [d] := .cons h .nil
end
end Z

namespace Cw
open PySem PySem.Spec PyProof.Rows L2 Z
/-- o.m(e, .., k = v, ..) -/
def tMethN (C : Addr) (mn : Str) (n m : Nat) (sp : Sp) (gV : List V → List V → List V) (E : XK) (ta : TE) (t tk : TA) : TE := fun σ H Q => ta σ H fun x H1 => ∃ a dx fs, x = .ref a ∧ H1 a = some (.ins C dx fs) ∧ fs.lookup mn = none ∧
  t σ H1 fun vs H2 => tk σ H2 fun zs H3 => vs.length = n ∧ zs.length = m ∧ sp (gV (x :: vs) zs) H3 Q E
section
variable {X : Cx} {CX : CXT} {k n : Nat} {f C : Addr} {fd : FuncData} {ps ks : List Str} {sp : Sp} {E : XK} {m : Str} {apos pos : Pos} {o e : Expr} {es : List Expr} {kws : List Keyword} {ta : TE} {t tk : TA} {g : List Value → List Value → List Value} {gV : List V → List V → List V}
theorem pe_methN {pl : Sem Bool} (he : PE X o ta) (c : Cls X.K C) (hm : Meth X.K C m f) (F : FnOk X.prog X.w X.K X.mg X.base CX k f fd ps sp) (hr : Room k X.A) (hb : KBn X.K fd ps (n + 1) ks g gV) (hx : Passes CX X E) (ha : PA X (e :: es) t) (hkw : PK X kws tk)
    (hall : (backToKw pos (keywordEach kws X.env)).all (·.1.isSome) = true := by rfl) (hks : (backToKw pos (keywordEach kws X.env)).filterMap (·.1) = ks := by rfl)
    (hst : starEach (e :: es) X.env = (false, eval e X.env) :: starEach es X.env := by rfl)
    (hpl : ((backTo pos (starEach (e :: es) X.env)).any (·.1) || (backToKw pos (keywordEach kws X.env)).any (·.1.isNone)) = false := by rfl)
    (ht : eval (.Call (.Attribute o m apos) (e :: es) kws pos) X.env = (do
      let ov ← eval o X.env
      standAt apos.atName
      let (f, first) ← holding [ov] (getMethod ov m pl)
      callWith pos f first (backTo pos (starEach (e :: es) X.env)) (backToKw pos (keywordEach kws X.env))) := by rfl) :
    PE X (.Call (.Attribute o m apos) (e :: es) kws pos) (tMethN C m n ks.length sp gV E ta t tk) := by
  refine ⟨fun pins s σ H Q I h => ?_⟩
  refine PySem.W.methodCall_KW (pl := pl) (thn (he.run pins s σ H _ I h) fun u s1 ⟨x, H1, I1, rx, a, dx, fs, ex, ea, l, q⟩ => ?_) ht
  subst ex
  obtain rfl : u = Value.ref a := rx
  refine getmeth_ok I1 ea c hm l ?_
  refine PySem.W.callWith_KW (first := [.ref a]) (h₀ := X.base) I.ok.mod.kin hm.kp hall (thn (ha.run pos pins s1 σ H1 _ I1 q) fun us s2 ⟨vs, H2, I2, r, q2⟩ => ?_) hpl hst
  refine thn (hkw.run pos pins s2 σ H2 _ I2 q2) fun ws s3 ⟨zs, H3, I3, rz, l1, l2, q3⟩ => ⟨I3.kIn, ?_⟩
  rw [hks]
  exact run_fnN (us := .ref a :: us) (vs := .ref a :: vs) F hr hb hx I3 (.cons rfl r) rz (by rw [List.length_cons, l1]) l2 q3
end
/-! methods whose errors are wished for at the slots (in a try) -/
def tMethS (C : Addr) (m : Str) (sp : Sp) (dvs : List V) (E : L2.St → XK) (ta : TE) (t : TA) : TE := fun σ H Q => ta σ H fun x H1 => ∃ a dx fs, x = .ref a ∧ H1 a = some (.ins C dx fs) ∧ fs.lookup m = none ∧ t σ H1 fun vs H2 => sp (x :: (vs ++ dvs)) H2 Q (E σ)
def tMethNS (C : Addr) (mn : Str) (n m : Nat) (sp : Sp) (gV : List V → List V → List V) (E : L2.St → XK) (ta : TE) (t tk : TA) : TE := fun σ H Q => ta σ H fun x H1 => ∃ a dx fs, x = .ref a ∧ H1 a = some (.ins C dx fs) ∧ fs.lookup mn = none ∧
  t σ H1 fun vs H2 => tk σ H2 fun zs H3 => vs.length = n ∧ zs.length = m ∧ sp (gV (x :: vs) zs) H3 Q (E σ)
section
variable {X : Cx} {CX : CXT} {k n : Nat} {f C : Addr} {fd : FuncData} {ps ks : List Str} {sp : Sp} {E : L2.St → XK} {m : Str} {apos pos : Pos} {o e : Expr} {es : List Expr} {kws : List Keyword} {ta : TE} {t tk : TA} {dvs : List V} {ds : List Value} {g : List Value → List Value → List Value} {gV : List V → List V → List V}
theorem pe_methS {pl : Sem Bool} (he : PE X o ta) (c : Cls X.K C) (hm : Meth X.K C m f) (F : FnOk X.prog X.w X.K X.mg X.base CX k f fd ps sp) (hr : Room k X.A) (hb : Binds X.K fd ps ds) (hd : Vals dvs ds) (hx : ∀ σ, PassesAt CX X σ (E σ)) (ha : PA X (e :: es) t)
    (hst : starEach (e :: es) X.env = (false, eval e X.env) :: starEach es X.env := by rfl) (hpl : (backTo pos (starEach es X.env)).any (·.1) = false := by rfl)
    (ht : eval (.Call (.Attribute o m apos) (e :: es) [] pos) X.env = (do
      let ov ← eval o X.env
      standAt apos.atName
      let (f, first) ← holding [ov] (getMethod ov m pl)
      callWith pos f first (backTo pos (starEach (e :: es) X.env)) (backToKw pos (keywordEach [] X.env))) := by rfl) :
    PE X (.Call (.Attribute o m apos) (e :: es) [] pos) (tMethS C m sp dvs E ta t) := by
  refine ⟨fun pins s σ H Q I h => ?_⟩
  refine PySem.W.methodCall_KW (pl := pl) (thn (he.run pins s σ H _ I h) fun u s1 ⟨x, H1, I1, rx, a, dx, fs, ex, ea, l, q⟩ => ?_) ht
  subst ex
  obtain rfl : u = Value.ref a := rx
  refine getmeth_ok I1 ea c hm l ?_
  refine PySem.W.callWith_K (first := [.ref a]) (h₀ := X.base) I.ok.mod.kin hm.kp (thn (ha.run pos pins s1 σ H1 _ I1 q) fun us s2 ⟨vs, H2, I2, r, q2⟩ => ⟨I2.kIn, ?_⟩) hst hpl
  exact run_fnSD (us := .ref a :: us) (vs := .ref a :: vs) F hr hb hd (hx σ) I2 (.cons rfl r) q2
theorem pe_meth0S {pl : Sem Bool} (he : PE X o ta) (c : Cls X.K C) (hm : Meth X.K C m f) (F : FnOk X.prog X.w X.K X.mg X.base CX k f fd ps sp) (hr : Room k X.A) (hb : Binds X.K fd ps ds) (hd : Vals dvs ds) (hx : ∀ σ, PassesAt CX X σ (E σ))
    (ht : eval (.Call (.Attribute o m apos) [] [] pos) X.env = (do
      let ov ← eval o X.env
      standAt apos.atName
      let (f, first) ← holding [ov] (getMethod ov m pl)
      callWith pos f first (backTo pos (starEach [] X.env)) (backToKw pos (keywordEach [] X.env))) := by rfl) :
    PE X (.Call (.Attribute o m apos) [] [] pos) (tMethS C m sp dvs E ta tNil) := by
  refine ⟨fun pins s σ H Q I h => ?_⟩
  refine PySem.W.methodCall_KW (pl := pl) (thn (he.run pins s σ H _ I h) fun u s1 ⟨x, H1, I1, rx, a, dx, fs, ex, ea, l, q⟩ => ?_) ht
  subst ex
  obtain rfl : u = Value.ref a := rx
  refine getmeth_ok I1 ea c hm l ?_
  exact PySem.W.callWith_K0 (first := [.ref a]) I1.kIn hm.kp (run_fnSD (us := [.ref a]) (vs := [.ref a]) F hr hb hd (hx σ) I1 (.cons rfl .nil) q)
theorem run_fnNS {pins : List (Addr × Obj)} {σ : L2.St} {H : Hp} {s : Shared} {Q : VK} {us ws : List Value} {vs zs : List V} (F : FnOk X.prog X.w X.K X.mg X.base CX k f fd ps sp) (hr : Room k X.A) (hb : KBn X.K fd ps n ks g gV) (hx : PassesAt CX X σ (E σ))
    (I : Inv X pins σ H s) (r : Vals vs us) (rz : Vals zs ws) (l1 : vs.length = n) (l2 : zs.length = ks.length) (h : sp (gV vs zs) H Q (E σ)) : wpAny (model X.prog X.w) X.A (call (.ref f) us (ks.zip ws)) (EP X pins σ Q) X.xe s := by
  have r2 := hb.rel r rz
  refine wpAny_call (codeAny_mono (F.run X.A X.stack s H ⟨us, ks.zip ws⟩ (g us ws) (gV vs zs) Q (E σ) hr I.env0 (hb.to s us ws I.kIn (r.length.symm.trans l1) (rz.length.symm.trans l2)) r2 h) fun r s' hq => ?_)
  cases r with
  | error e => exact hx pins H s e s' I hq
  | ok fl =>
    cases fl with
    | ret u => exact I.after hq
    | next => exact False.elim hq
    | brk => exact False.elim hq
    | cont => exact False.elim hq
theorem pe_methNS {pl : Sem Bool} (he : PE X o ta) (c : Cls X.K C) (hm : Meth X.K C m f) (F : FnOk X.prog X.w X.K X.mg X.base CX k f fd ps sp) (hr : Room k X.A) (hb : KBn X.K fd ps (n + 1) ks g gV) (hx : ∀ σ, PassesAt CX X σ (E σ)) (ha : PA X (e :: es) t) (hkw : PK X kws tk)
    (hall : (backToKw pos (keywordEach kws X.env)).all (·.1.isSome) = true := by rfl) (hks : (backToKw pos (keywordEach kws X.env)).filterMap (·.1) = ks := by rfl)
    (hst : starEach (e :: es) X.env = (false, eval e X.env) :: starEach es X.env := by rfl)
    (hpl : ((backTo pos (starEach (e :: es) X.env)).any (·.1) || (backToKw pos (keywordEach kws X.env)).any (·.1.isNone)) = false := by rfl)
    (ht : eval (.Call (.Attribute o m apos) (e :: es) kws pos) X.env = (do
      let ov ← eval o X.env
      standAt apos.atName
      let (f, first) ← holding [ov] (getMethod ov m pl)
      callWith pos f first (backTo pos (starEach (e :: es) X.env)) (backToKw pos (keywordEach kws X.env))) := by rfl) :
    PE X (.Call (.Attribute o m apos) (e :: es) kws pos) (tMethNS C m n ks.length sp gV E ta t tk) := by
  refine ⟨fun pins s σ H Q I h => ?_⟩
  refine PySem.W.methodCall_KW (pl := pl) (thn (he.run pins s σ H _ I h) fun u s1 ⟨x, H1, I1, rx, a, dx, fs, ex, ea, l, q⟩ => ?_) ht
  subst ex
  obtain rfl : u = Value.ref a := rx
  refine getmeth_ok I1 ea c hm l ?_
  refine PySem.W.callWith_KW (first := [.ref a]) (h₀ := X.base) I.ok.mod.kin hm.kp hall (thn (ha.run pos pins s1 σ H1 _ I1 q) fun us s2 ⟨vs, H2, I2, r, q2⟩ => ?_) hpl hst
  refine thn (hkw.run pos pins s2 σ H2 _ I2 q2) fun ws s3 ⟨zs, H3, I3, rz, l1, l2, q3⟩ => ⟨I3.kIn, ?_⟩
  rw [hks]
  exact run_fnNS (us := .ref a :: us) (vs := .ref a :: vs) F hr hb (hx σ) I3 (.cons rfl r) rz (by rw [List.length_cons, l1]) l2 q3
end
/-! the readings -/
section
variable {K : PySem.W.Frag} {H : Hp} {Q : VK} {σ : L2.St} {a C dx : Addr} {fs : List (Str × V)} {f m : Str} {v : V} {ta tv : TE} {t tk : TA} {n : L2.St → Hp → Prop} {r : VK} {b c : L2.St → Hp → Prop} {sp : Sp} {dvs : List V} {E : XK} {gV : List V → List V → List V}
def QFld (K : PySem.W.Frag) (f : Str) (Q : VK) : VK := fun x H1 => ∃ a C dx fs v, x = .ref a ∧ H1 a = some (.ins C dx fs) ∧ Cls K C ∧ NoAttr K C f ∧ fs.lookup f = some v ∧ Q v H1
theorem z_fldE (h : ta σ H (QFld K f Q)) : tFld K ta f σ H Q := h
theorem z_fld (e : H a = some (.ins C dx fs)) (c : Cls K C) (no : NoAttr K C f) (l : fs.lookup f = some v) (q : Q v H) : QFld K f Q (.ref a) H := ⟨a, C, dx, fs, v, rfl, e, c, no, l, q⟩
def QSet (K : PySem.W.Frag) (f : Str) (y : V) (n : Hp → Prop) : VK := fun x H2 => ∃ a C dx fs, x = .ref a ∧ H2 a = some (.ins C dx fs) ∧ Cls K C ∧ NoAttr K C f ∧ fs.length < 1000 ∧ n (upd H2 a (.ins C dx (putF f y fs)))
theorem z_sfldE (h : tv σ H fun y H1 => ta σ H1 (QSet K f y (n σ))) : sFld K ta tv f ⟨n, r, b, c⟩ σ H := h
theorem z_sfld {n : Hp → Prop} (e : H a = some (.ins C dx fs)) (c : Cls K C) (no : NoAttr K C f) (l : fs.length < 1000) (q : n (upd H a (.ins C dx (putF f v fs)))) : QSet K f v n (.ref a) H := ⟨a, C, dx, fs, rfl, e, c, no, l, q⟩
def QMeth (C : Addr) (m : Str) (σ : L2.St) (t : TA) (sp : List V → Hp → Prop) : VK := fun x H1 => ∃ a dx fs, x = .ref a ∧ H1 a = some (.ins C dx fs) ∧ fs.lookup m = none ∧ t σ H1 fun vs H2 => sp (x :: vs) H2
theorem z_methSE {E : L2.St → XK} (h : ta σ H (QMeth C m σ t fun vs H2 => sp (vs ++ dvs) H2 Q (E σ))) : tMethS C m sp dvs E ta t σ H Q := h
theorem z_methE (h : ta σ H (QMeth C m σ t fun vs H2 => sp (vs ++ dvs) H2 Q E)) : tMeth C m sp dvs E ta t σ H Q := h
theorem z_meth {sp : List V → Hp → Prop} (e : H a = some (.ins C dx fs)) (l : fs.lookup m = none) (q : t σ H fun vs H2 => sp (.ref a :: vs) H2) : QMeth C m σ t sp (.ref a) H := ⟨a, dx, fs, rfl, e, l, q⟩
def QMethN (C : Addr) (mn : Str) (k j : Nat) (sp : Sp) (gV : List V → List V → List V) (E : XK) (σ : L2.St) (t tk : TA) (Q : VK) : VK := fun x H1 => ∃ a dx fs, x = .ref a ∧ H1 a = some (.ins C dx fs) ∧ fs.lookup mn = none ∧
  t σ H1 fun vs H2 => tk σ H2 fun zs H3 => vs.length = k ∧ zs.length = j ∧ sp (gV (x :: vs) zs) H3 Q E
theorem z_methNE {k j : Nat} (h : ta σ H (QMethN C m k j sp gV E σ t tk Q)) : tMethN C m k j sp gV E ta t tk σ H Q := h
theorem z_methNSE {k j : Nat} {E : L2.St → XK} (h : ta σ H (QMethN C m k j sp gV (E σ) σ t tk Q)) : tMethNS C m k j sp gV E ta t tk σ H Q := h
theorem z_methN {k j : Nat} (e : H a = some (.ins C dx fs)) (l : fs.lookup m = none) (q : t σ H fun vs H2 => tk σ H2 fun zs H3 => vs.length = k ∧ zs.length = j ∧ sp (gV (.ref a :: vs) zs) H3 Q E) : QMethN C m k j sp gV E σ t tk Q (.ref a) H := ⟨a, dx, fs, rfl, e, l, q⟩
theorem z_lens {xs ys : List V} {k j : Nat} {P : Prop} (h1 : xs.length = k) (h2 : ys.length = j) (q : P) : xs.length = k ∧ ys.length = j ∧ P := ⟨h1, h2, q⟩
theorem z_make (h : t σ H fun vs H1 => ∀ x dx, H1 x = none → H1 dx = none → dx ≠ x → sp (.ref x :: (vs ++ dvs)) (upd (upd H1 dx (.own x)) x (.ins C dx [])) (fun v H2 => v = .non ∧ Q (.ref x) H2) E) : tMake C sp dvs E t σ H Q := h
end
/-! for and comprehensions over any walk -/
section
variable {K : PySem.W.Frag} {H : Hp} {Q : VK} {σ : L2.St} {wi : TI} {J : It} {m : Nat} {G : Hp → Prop} {Y : Nat → Hp → V → Hp → Prop} {g : TG} {tb : TS} {te : TE} {n : L2.St → Hp → Prop} {r : VK} {b c : L2.St → Hp → Prop} {vs : List Nat}
theorem z_forW (w : Walk J m G Y) (hi : ∀ R : It → Hp → Prop, R J H → wi σ H R) (Pv : Nat → L2.St → Hp → Prop) (h0 : Pv 0 σ H) (hG : ∀ i σ H, i ≤ m → Pv i σ H → G H)
    (hs : ∀ i x σ H H', i < m → Pv i σ H → Y i H x H' → g x σ H' fun σ2 H2 => tb ⟨Pv (i + 1), r, n, Pv (i + 1)⟩ σ2 H2) (hd : ∀ σ H, Pv m σ H → n σ H) : tFor wi g tb ⟨n, r, b, c⟩ σ H :=
  hi _ (for_it w Pv h0 hG hs hd)
theorem z_lcW (w : Walk J m G Y) (hi : ∀ R : It → Hp → Prop, R J H → wi σ H R) (Pv : Nat → Addr → List V → Hp → Prop)
    (h0 : ∀ D H', H D = none → Same H H' → H' D = some (.lst []) → Pv 0 D [] H') (hG : ∀ i D acc H', Pv i D acc H' → G H')
    (hs : ∀ i x D acc H' H2, i < m → acc.length = i → H' D = some (.lst acc) → Pv i D acc H' → Y i H' x H2 → g x (wipe σ vs) H2 fun σ2 H3 => wipe σ2 vs = wipe σ vs ∧ te σ2 H3 (LcN D i Pv))
    (hd : ∀ D acc H', H D = none → acc.length = m → H' D = some (.lst acc) → Pv m D acc H' → Q (.ref D) H') : tLc wi g tYes te vs σ H Q := by
  refine hi _ fun D hD => ?_
  refine lc_it w (fun i H' => ∃ acc, acc.length = i ∧ H' D = some (.lst acc) ∧ Pv i D acc H') ⟨[], rfl, upd_same, h0 D _ hD (same_upd hD) upd_same⟩ (fun i H' _ ⟨acc, _, _, pv⟩ => hG _ _ _ _ pv) (fun i x H' H2 hi' ⟨acc, hl, hH, pv⟩ y => ?_) (fun H' ⟨acc, hl, hH, pv⟩ => hd D acc H' hD hl hH pv)
  have h := hs i x D acc H' H2 hi' hl hH pv y
  have e : (fun σ2 H2 => wipe σ2 vs = wipe σ vs ∧ te σ2 H2 (LcN D i Pv)) = (fun (σ2 : L2.St) (H2 : Hp) => wipe σ2 vs = wipe σ vs ∧ tYes σ2 H2 fun b H3 => if b = true then te σ2 H3 (LcN D i Pv) else ∃ acc', acc'.length = i + 1 ∧ H3 D = some (.lst acc') ∧ Pv (i + 1) D acc' H3) := by
    funext σ2 H2
    show _ = (wipe σ2 vs = wipe σ vs ∧ if true = true then te σ2 H2 (LcN D i Pv) else ∃ acc', acc'.length = i + 1 ∧ H2 D = some (.lst acc') ∧ Pv (i + 1) D acc' H2)
    rw [if_pos rfl]
  rw [e] at h
  exact h
/-- [e for x in ..]: the values ws -/
theorem z_valsW {ws : List V} (w : Walk J m G Y) (hm : m ≤ 1000) (hi : ∀ R : It → Hp → Prop, R J H → wi σ H R) (hG : ∀ H', Same H H' → G H') (hl : ws.length = m)
    (hs : ∀ i x v H' H2 (R : VK), ws[i]? = some v → i < m → Same H H' → Y i H' x H2 → (∀ H3, Same H' H3 → R v H3) → g x (wipe σ vs) H2 fun σ2 H3 => wipe σ2 vs = wipe σ vs ∧ te σ2 H3 R)
    (hd : ∀ D H', H D = none → Same H H' → H' D = some (.lst ws) → Q (.ref D) H') : tLc wi g tYes te vs σ H Q := by
  refine z_lcW w hi (fun i D acc H' => Same H H' ∧ H D = none ∧ acc = ws.take i) (fun D H' f s _ => ⟨s, f, rfl⟩) (fun i D acc H' h => hG _ h.1) (fun i x D acc H' H2 hi' hl' hD ⟨s', fD, ea⟩ y => ?_) (fun D acc H' fD hl' hD ⟨s', _, ea⟩ => ?_)
  · have hw : ws[i]? = some ws[i] := List.getElem?_eq_getElem (by omega)
    refine hs i x ws[i] H' H2 _ hw hi' s' y fun H3 s3 => ?_
    refine z_lcB (s3 _ _ hD) hl' (by omega) fun H5 hD5 k5 e5 => ⟨fun b o h => ?_, fD, ?_⟩
    · rw [e5 b (ne_of_none h fD)]
      exact s3 _ _ (s' _ _ h)
    · subst ea
      rw [List.take_add_one, hw]
      rfl
  · refine hd D H' fD s' ?_
    rw [hD, ea, ← hl, List.take_length]
/-- [e for x in ..]: a new object each time -/
theorem z_objsW {ob : Nat → HO} (w : Walk J m G Y) (hm : m ≤ 1000) (hi : ∀ R : It → Hp → Prop, R J H → wi σ H R) (hG : ∀ H', Same H H' → G H')
    (hs : ∀ i x H' H2 (R : VK), i < m → Same H H' → Y i H' x H2 → (∀ a H3, H' a = none → Same H' H3 → H3 a = some (ob i) → R (.ref a) H3) → g x (wipe σ vs) H2 fun σ2 H3 => wipe σ2 vs = wipe σ vs ∧ te σ2 H3 R)
    (hd : ∀ (D : Addr) (H' : Hp) (as : List Addr), H D = none → Same H H' → H' D = some (.lst (as.map V.ref)) → as.length = m → as.Nodup → D ∉ as → (∀ i a, as[i]? = some a → H a = none ∧ H' a = some (ob i)) → Q (.ref D) H') : tLc wi g tYes te vs σ H Q := by
  refine z_lcW w hi (fun i D acc H' => Same H H' ∧ H D = none ∧ ∃ as : List Addr, acc = as.map V.ref ∧ as.Nodup ∧ D ∉ as ∧ ∀ i a, as[i]? = some a → H a = none ∧ H' a = some (ob i)) (fun D H' f s _ => ⟨s, f, [], rfl, List.nodup_nil, List.not_mem_nil, fun i a h => (by simp at h)⟩) (fun i D acc H' h => hG _ h.1) (fun i x D acc H' H2 hi' hl' hD ⟨s', fD, as, ea, nd, nD, hv⟩ y => ?_) (fun D acc H' fD hl' hD ⟨s', _, as, ea, nd, nD, hv⟩ => ?_)
  · have la : as.length = i := by
      have := congrArg List.length ea
      rw [List.length_map, hl'] at this
      exact this.symm
    refine hs i x H' H2 _ hi' s' y fun a H3 fa s3 h3 => ?_
    have na : a ∉ as := fun hm => by
      obtain ⟨j, hj⟩ := List.mem_iff_getElem?.mp hm
      have := (hv j a hj).2
      rw [fa] at this
      cases this
    have nDa : a ≠ D := fun z => by
      rw [z, hD] at fa
      cases fa
    refine z_lcB (s3 _ _ hD) hl' (by omega) fun H5 hD5 k5 e5 => ⟨fun b o h => ?_, fD, as ++ [a], by rw [ea, List.map_append]; rfl, ?_, ?_, fun j b hb => ?_⟩
    · rw [e5 b (ne_of_none h fD)]
      exact s3 _ _ (s' _ _ h)
    · rw [List.nodup_append]
      refine ⟨nd, List.pairwise_singleton _ _, fun x hx y hy z => ?_⟩
      rw [List.mem_singleton.mp hy] at z
      exact na (by rw [← z]; exact hx)
    · rw [List.mem_append, List.mem_singleton]
      rintro (h | h)
      · exact nD h
      · exact nDa h.symm
    · rcases Nat.lt_or_ge j as.length with h | h
      · rw [List.getElem?_append_left h] at hb
        have hne : b ≠ D := fun z => nD (by rw [← z]; exact List.mem_of_getElem? hb)
        refine ⟨(hv j b hb).1, ?_⟩
        rw [e5 b hne]
        exact s3 _ _ (hv j b hb).2
      · have hr : j = i := by
          have := (List.getElem?_eq_some_iff.mp hb).1
          rw [List.length_append, List.length_singleton] at this
          omega
        subst hr
        rw [List.getElem?_append_right h, la, Nat.sub_self] at hb
        cases hb
        refine ⟨?_, by rw [e5 a nDa]; exact h3⟩
        cases z : H a with
        | none => rfl
        | some o =>
          have := s' _ _ z
          rw [fa] at this
          cases this
  · have la : as.length = m := by
      have := congrArg List.length ea
      rw [List.length_map, hl'] at this
      exact this.symm
    exact hd D H' as fD s' (by rw [hD, ea]) la nd nD hv
/-! what is walked -/
def It0 (R : It → Hp → Prop) : List V → Hp → Prop := fun _ _ => True
theorem z_iRng {ta : TA} {k : Nat} {R : It → Hp → Prop} (ha : ∀ S : List V → Hp → Prop, S [.int (k : Int)] H → ta σ H S) (hk : k ≤ 1000) (q : R (Itr 0 k) H) : iRng1 ta σ H R := by
  refine ha _ ⟨(k : Int), rfl, by omega, by omega, ?_⟩
  rw [Int.toNat_natCast]
  exact q
theorem z_iList {te : TE} {a : Addr} {xs : List V} {R : It → Hp → Prop} (ha : ∀ S : VK, S (.ref a) H → te σ H S) (h : SqL K H a xs) (q : R (Itl K a) H) : iList K te σ H R := ha _ ⟨a, rfl, ⟨xs, h⟩, q⟩
theorem z_iZip {ta : TA} {a b : Addr} {xs ys : List V} {R : It → Hp → Prop} (ha : ∀ S : List V → Hp → Prop, S [.ref a, .ref b] H → ta σ H S) (h1 : SqL K H a xs) (h2 : SqL K H b ys) (q : R (Itz K a b) H) : iZip K ta σ H R := ha _ ⟨a, b, xs, ys, rfl, h1, h2, q⟩
theorem z_iEnum {ta : TA} {a : Addr} {xs : List V} {R : It → Hp → Prop} (ha : ∀ S : List V → Hp → Prop, S [.ref a] H → ta σ H S) (h1 : SqL K H a xs) (q : R (Ite K a) H) : iEnum K ta σ H R := ha _ ⟨a, xs, rfl, h1, q⟩
def rSumN (K : PySem.W.Frag) : List V → Hp → VK → Prop := rSum K
theorem z_sum {ns : List Int} {a : Addr} (h : SqL K H a (ns.map V.int)) (q : Q (.int ns.sum) H) : rSum K [.ref a] H Q := ⟨a, ns, rfl, h, q⟩
theorem z_reverse {xs : List V} {l : Addr} (h : H l = some (.lst xs)) (q : Q .non (upd H l (.lst xs.reverse))) : rReverse (.ref l) [] H Q := ⟨l, xs, rfl, rfl, h, q⟩
end
/-! one field -/
theorem look1 {f : Str} {v : V} : ([(f, v)] : List (Str × V)).lookup f = some v := by
  unfold List.lookup
  rw [show (f == f) = true from beq_self_eq_true f]
theorem look1n {f m : Str} {v : V} (h : (m == f) = false) : ([(f, v)] : List (Str × V)).lookup m = none := by
  unfold List.lookup
  rw [h]
  rfl
theorem put1 {f : Str} {v w : V} : putF f w [(f, v)] = [(f, w)] := by
  unfold putF
  rw [if_pos rfl]
theorem put0 {f : Str} {w : V} : putF f w [] = [(f, w)] := rfl
end Cw

namespace Co
open PySem PySem.Spec PyProof.Rows L2 Z
/-- a value is never NotImplemented -/
theorem notNI {v : V} {u : Value} (r : RelV v u) {Q : Value → Shared → Prop} {s : Shared} (q : Q u s) : PySem.W.CmpBack Q u s := by
  cases u <;> first | exact q | (cases v <;> first | (cases r; done) | (obtain ⟨_, r⟩ := r; cases r; done) | exact absurd r (by intro z; cases z))
/-- x op y by an own method -/
def rOwn (C : Addr) (sp : Sp) (E : L2.St → XK) : L2.St → R2 := fun σ x y H Q => ∃ a b dx dy fs gs, x = .ref a ∧ y = .ref b ∧ H a = some (.ins C dx fs) ∧ H b = some (.ins C dy gs) ∧ sp [.ref a, .ref b] H Q (E σ)
def rOwn1 (C : Addr) (sp : Sp) (E : L2.St → XK) : L2.St → V → Hp → VK → Prop := fun σ x H Q => ∃ a dx fs, x = .ref a ∧ H a = some (.ins C dx fs) ∧ sp [.ref a] H Q (E σ)
def tOpS (r : L2.St → R2) (ta tb : TE) : TE := fun σ H Q => ta σ H fun x H1 => tb σ H1 fun y H2 => r σ x y H2 Q
def tUnS (r : L2.St → V → Hp → VK → Prop) (ta : TE) : TE := fun σ H Q => ta σ H fun x H1 => r σ x H1 Q
section
variable {X : Cx} {CX : CXT} {k : Nat} {f C : Addr} {fd : FuncData} {ps : List Str} {sp : Sp} {E : L2.St → XK} {op : Operator} {nm : Str}
theorem own_bin {pins : List (Addr × Obj)} {s : Shared} {σ : L2.St} {H : Hp} {x y : V} {v u : Value} {Q : VK} (c : PySem.W.selfFirst X.K C = true) (hs : PySem.W.findIn X.K (.ref C) nm = some (some (.ref f))) (hf : PySem.W.isFn X.K (.ref f) = true) (F : FnOk X.prog X.w X.K X.mg X.base CX k f fd ps sp) (hr : Room k X.A) (hb : Binds X.K fd ps []) (hx : ∀ σ, PassesAt CX X σ (E σ))
    (hn : PySem.dunder op.info.2 = nm) (I : Inv X pins σ H s) (rx : RelV x v) (ry : RelV y u) (h : rOwn C sp E σ x y H Q) : wpAny (model X.prog X.w) X.A (binaryOp op v u) (EP X pins σ Q) X.xe s := by
  obtain ⟨a, b, dx, dy, fs, gs, rfl, rfl, ha, hb', hq⟩ := h
  cases rx
  cases ry
  obtain ⟨mA, J, _⟩ := ins_get I.hok ha
  obtain ⟨mB, J', _⟩ := ins_get I.hok hb'
  obtain ⟨od, J, _⟩ := J.look
  obtain ⟨od', J', _⟩ := J'.look
  obtain ⟨m, hF⟩ := I.fr
  subst hn
  refine PySem.W.binop_K hF I.ok.mod.kin J J'.type c hs hf ?_
  refine wpAny_mono (run_fnSD (us := [.ref a, .ref b]) (vs := [.ref a, .ref b]) F hr hb .nil (hx σ) I (.cons rfl (.cons rfl .nil)) hq) (fun r s' q => ?_) fun _ _ x => x
  obtain ⟨z, H', I', rz, q⟩ := q
  exact notNI rz ⟨z, H', I', rz, q⟩
theorem pe_own {a b : Expr} {ta tb : TE} {pos : Pos} (c : PySem.W.selfFirst X.K C = true) (hs : PySem.W.findIn X.K (.ref C) nm = some (some (.ref f))) (hf : PySem.W.isFn X.K (.ref f) = true) (F : FnOk X.prog X.w X.K X.mg X.base CX k f fd ps sp) (hr : Room k X.A) (hb : Binds X.K fd ps []) (hx : ∀ σ, PassesAt CX X σ (E σ))
    (ha : PE X a ta) (hbb : PE X b tb) (hn : PySem.dunder op.info.2 = nm := by decide +kernel) : PE X (.BinOp a op b pos) (tOpS (rOwn C sp E) ta tb) := by
  refine ⟨fun pins s σ H Q I h => ?_⟩
  exact wpAny_BinOp (binT ha hbb I h fun v u s2 x y H2 I2 rx ry q => own_bin c hs hf F hr hb hx hn I2 rx ry q)
theorem own_neg {pins : List (Addr × Obj)} {s : Shared} {σ : L2.St} {H : Hp} {x : V} {v : Value} {Q : VK} (hs : PySem.W.findIn X.K (.ref C) "__neg__" = some (some (.ref f))) (hf : PySem.W.isFn X.K (.ref f) = true) (F : FnOk X.prog X.w X.K X.mg X.base CX k f fd ps sp) (hr : Room k X.A) (hb : Binds X.K fd ps []) (hx : ∀ σ, PassesAt CX X σ (E σ))
    (I : Inv X pins σ H s) (rx : RelV x v) (h : rOwn1 C sp E σ x H Q) : wpAny (model X.prog X.w) X.A (unaryOp .USub v) (EP X pins σ Q) X.xe s := by
  obtain ⟨a, dx, fs, rfl, ha, hq⟩ := h
  cases rx
  obtain ⟨mA, J, _⟩ := ins_get I.hok ha
  obtain ⟨od, J, _⟩ := J.look
  obtain ⟨m, hF⟩ := I.fr
  unfold unaryOp
  refine wpAny_holding ?_
  show wpAny _ _ (if (UnaryOp.USub == UnaryOp.Not) = true then _ else _) _ _ _
  rw [if_neg (by decide)]
  refine wpAny_bind (PySem.W.special_fn (args := []) (I.ok.mod.kin.keeps hF.keep) J hs (beq_iff_eq.mp hf) ?_)
  refine wpAny_mono (run_fnSD (us := [.ref a]) (vs := [.ref a]) F hr hb .nil (hx σ) I (.cons rfl .nil) hq) (fun r s' q => ?_) fun _ _ x => x
  exact wpAny_pure q
theorem pe_ownNeg {a : Expr} {ta : TE} {pos : Pos} (hs : PySem.W.findIn X.K (.ref C) "__neg__" = some (some (.ref f))) (hf : PySem.W.isFn X.K (.ref f) = true) (F : FnOk X.prog X.w X.K X.mg X.base CX k f fd ps sp) (hr : Room k X.A) (hb : Binds X.K fd ps []) (hx : ∀ σ, PassesAt CX X σ (E σ))
    (ha : PE X a ta) : PE X (.UnaryOp .USub a pos) (tUnS (rOwn1 C sp E) ta) := by
  refine ⟨fun pins s σ H Q I h => ?_⟩
  exact UnaryOp_ (thn (ha.run pins s σ H _ I h) fun v s1 ⟨x, H1, I1, r1, q1⟩ => own_neg hs hf F hr hb hx I1 r1 q1)
end
theorem passAll {X : Cx} {CX : CXT} {E : XK} (h : Passes CX X E) : ∀ σ, PassesAt CX X σ ((fun _ => E) σ) := fun σ pins H s e s' I q => h pins σ H s e s' I q
section
variable {ta tb : TE} {σ : L2.St} {H : Hp} {Q : VK} {C a b dx dy : Addr} {fs gs : List (Str × V)} {sp : Sp} {E : L2.St → XK}
theorem z_opS {r : L2.St → R2} (h : ta σ H fun x H1 => tb σ H1 fun y H2 => r σ x y H2 Q) : tOpS r ta tb σ H Q := h
theorem z_unS {r : L2.St → V → Hp → VK → Prop} (h : ta σ H fun x H1 => r σ x H1 Q) : tUnS r ta σ H Q := h
theorem z_own (h1 : H a = some (.ins C dx fs)) (h2 : H b = some (.ins C dy gs)) (q : sp [.ref a, .ref b] H Q (E σ)) : rOwn C sp E σ (.ref a) (.ref b) H Q := ⟨a, b, dx, dy, fs, gs, rfl, rfl, h1, h2, q⟩
theorem z_own1 (h1 : H a = some (.ins C dx fs)) (q : sp [.ref a] H Q (E σ)) : rOwn1 C sp E σ (.ref a) H Q := ⟨a, dx, fs, rfl, h1, q⟩
end
end Co

/-! an exception that leaves a list comprehension, also a nested one -/
namespace Xc
open PySem PySem.Spec PyProof.Rows L2 Z
section
variable {M : Model} {A : Around} {E : Value → Shared → Prop} {s : Shared} {env : Env}
/-- what a comprehension's run is to leave; the frame of its environment is told -/
def cpX (M : Model) (A : Around) (E : Value → Shared → Prop) (Q : Value → Shared → Prop) (acc : Value) (cenv : Env) (r : Result) (s' : Shared) : Prop :=
  match r with
  | .ok _ => ∃ m, s'.heap.Ns cenv.locals m ∧ ∀ h', Heap.SameBut cenv.locals s'.heap h' → Q acc { s' with heap := h' }
  | .error x => ∃ m, s'.heap.Ns cenv.locals m ∧ ∀ h', Heap.SameBut cenv.locals s'.heap h' → ∀ c' : Env, c'.frame = cenv.frame → wpAny M A (passOn "comprehension.variables-let-go" x c' : Sem Value) (fun _ _ => False) E { s' with heap := h' }
theorem comp_x {e : Expr} {scope : Scope} {pos : Pos} {newAcc first : Sem Value} {g : Comprehension} {gs : List Comprehension} {cl : List (Str × Addr)} {Q : Value → Shared → Prop}
    (hcl : clausesOf e = g :: gs) (hs : ∀ x, foldedSetIterable g.iter env x = pure x) (hclos : closureFor scope env = pure cl)
    (hkind : scope.kind = .function) (hnames : ∀ x ∈ scope.names, x.2 = .local → scope.names.lookup x.1 = some .local)
    (h : wpAny M A first (fun x s₁ => wpAny M A (pyIter x) (fun it s₂ => wpAny M A newAcc (fun acc s₃ =>
      wpAny M A (newFunctionEnv scope env.globals cl [] env.qual none .none (some env)) (fun cenv s₄ =>
        codeAny M A (.compStart e 0 it acc { cenv with scope := relabel scope env }) (cpX M A E Q acc cenv) s₄) E s₃) E s₂) E s₁) E s) :
    wpAny M A (comprehension e scope env pos newAcc false first none) Q E s := by
  unfold comprehension
  rw [hclos, hcl]
  refine wpAny_bind (wpAny_mono h (fun x s₁ h₁ => wpAny_bind (wpAny_standAt (wpAny_bind (wpAny_of_eq (hs x) (wpAny_bind (wpAny_holding (wpAny_mono h₁ (fun it s₂ h₂ =>
    wpAny_standIf (wpAny_bind (wpAny_mono h₂ (fun acc s₃ h₃ => wpAny_bind (wpAny_pure (wpAny_bind (wpAny_mono h₃ (fun cenv s₄ h₄ => ?_) fun _ _ h' => h')))) fun _ _ h' => h')))
      fun _ _ h' => h'))))))) fun _ _ h' => h')
  dsimp only
  have hv : ∀ x ∈ (scope.names.filter fun x => (x.2 == .local || x.2 == .cell) && x.1 != (".0" : Str)).reverse, x.2 = .local →
      Env.kindOf { cenv with scope := relabel scope env } x.1 = some .local := fun x hx hl => lookup_relabel_local (hnames x (List.mem_filter.mp (List.mem_reverse.mp hx)).1 hl)
  refine wpAny_holding (wpAny_bind (wpAny_attempt (wpAny_holding (wpAny_run (codeAny_mono h₄ fun r s' hr => ?_)))))
  cases r with
  | ok f =>
    obtain ⟨m, hn, hr⟩ := hr
    exact wpAny_bind (wpAny_holding (wpAny_comp_letGo (cenv := { cenv with scope := relabel scope env }) hkind _ s' m hv hn fun h' m' _ hs' => wpAny_pure (hr h' hs')))
  | error x =>
    obtain ⟨m, hn, hr⟩ := hr
    exact wpAny_bind (wpAny_holding (wpAny_comp_letGo (cenv := { cenv with scope := relabel scope env }) hkind _ s' m hv hn fun h' m' _ hs' => wpAny_mono (hr h' hs' _ rfl) (fun _ _ f => f.elim) fun _ _ y => y))
end

/-- an exception in the air of X, its frame at L -/
def XF (X : Cx) (L : Addr) (E : XK) (P : Heap → List Env → Addr → (Obj → Prop) → Addr → Heap → Prop) (u : Value) (s' : Shared) : Prop :=
  ∃ (a : Addr) (B : Heap) (sI : Shared) (pins : List (Addr × Obj)) (σ : L2.St) (H : Hp) (cls : Value) (d : Option Addr),
    u = .ref a ∧ Inv X pins σ H sI ∧ (∀ b o, sI.heap.get? b = some o → b ∉ frs X.stack → B.get? b = some o) ∧ sI.heap.UpToSlots s'.heap ∧
      P B X.stack a (Zc cls d) L s'.heap ∧ H a = none ∧ s'.os = sI.os ∧ AllBare s'.gens ∧ E cls d H
def Tk (X : Cx) (E : XK) : Prop := ∃ L D outs, X.stack = D :: outs ∧ D.frame = some L ∧ X.env.frame = some L ∧ ∀ u s', XF X L E Sky u s' → X.xe u s'
abbrev Held (B : Heap) (l : List Env) (a : Addr) (Z : Obj → Prop) (L : Addr) (h : Heap) : Prop := HandSPX.HeldZ B l a Z L h

section
variable {X : Cx} {E : XK} {L : Addr} {pins : List (Addr × Obj)} {σ : L2.St} {H : Hp} {s s' : Shared} {u : Value}
theorem tk_def (hs : X.stack = X.env :: X.outer) (hf : X.env.frame = some X.env.locals) (tk : Takes X (fun cls d _ H => E cls d H)) : Tk X E := ⟨X.env.locals, X.env, X.outer, hs, hf, hf, fun u s' h => tk u s' h⟩

/-- a call's exception -/
theorem XF.of_call (I : Inv X pins σ H s) (c : L2.CX X.prog X.w X.stack H s E u s') : XF X L E Sky u s' := by
  obtain ⟨a, B, H', cls, d, rfl, fl, hok, ub, na, os, ag, hE⟩ := c
  obtain ⟨G, gy, gn⟩ := restrict s'.heap fun b => (B.get? b).isSome || decide (b ∈ frs X.stack)
  have keepB : ∀ b o, B.get? b = some o → G.get? b = some o := fun b o e => (gy b (by simp [e])).trans (fl.1 b o e)
  have atF : ∀ b, b ∈ frs X.stack → G.get? b = s'.heap.get? b := fun b hb => gy b (by simp [hb])
  have inG : ∀ b o, G.get? b = some o → s'.heap.get? b = some o ∧ ((B.get? b).isSome = true ∨ b ∈ frs X.stack) := fun b o e => by
    by_cases q : ((B.get? b).isSome || decide (b ∈ frs X.stack)) = true
    · rw [gy b q] at e
      exact ⟨e, by simpa [Bool.or_eq_true] using q⟩
    · rw [gn b (by simpa using q)] at e; cases e
  have J : Inv X pins σ H' { s with heap := G, gens := s'.gens, drawn := s'.drawn, toks := s'.toks } := by
    refine I.call (ch := []) ⟨fun b o e n hb _ => keepB b o (ub.keep b o e n hb), fun b o e _ hb _ => ?_, fun b o e n _ => ub.free b o e n, fun b o e _ => ?_, ub.tups, ub.frzs, ub.tbls⟩ (hok.kept keepB) ag (fun _ z => nomatch z)
    · obtain ⟨sl, q⟩ := ub.slot b o e hb
      exact ⟨sl, (atF b hb).trans q⟩
    · by_cases hb : b ∈ frs X.stack
      · obtain ⟨sl, q⟩ := ub.slot b o e hb
        exact ⟨_, (atF b hb).trans q⟩
      · obtain ⟨o', q⟩ := ub.there b o e hb
        exact ⟨o', keepB b o' q⟩
  refine ⟨a, B, _, pins, σ, H', cls, d, rfl, J, fun b o e hb => ?_, Heap.UpToSlots.of_keeps fun b o e => (inG b o e).1, .inr (.inl fl), na, os, ag, hE⟩
  obtain ⟨e', h⟩ := inG b o e
  rcases h with h | h
  · obtain ⟨o', q⟩ := Option.isSome_iff_exists.mp h
    have z := fl.1 b o' q
    rw [e'] at z; cases z
    exact q
  · exact absurd h hb
theorem pass (tk : Tk X E) : Passes (L2.CX X.prog X.w) X E := fun pins σ H s e s' I c => by
  obtain ⟨L, D, outs, _, _, _, t⟩ := tk
  exact t e s' (XF.of_call I c)

/-- noted -/
theorem XF.noted {E₁ : Value → Shared → Prop} {D : Env} {outs : List Env} (hs : X.stack = D :: outs) (hD : D.frame = some L) (hf : X.env.frame = some L) (hA : X.A.frames = some X.stack) (x : XF X L E Sky u s') :
    wpAny (model X.prog X.w) X.A (noteFrame u X.env) (fun _ s'' => XF X L E Held u s'') E₁ s' := by
  obtain ⟨a, B, sI, pins, σ, H, cls, d, rfl, I, nb, up, sky, na, os, ag, hE⟩ := x
  have e : noteFrame (.ref a) X.env = noteFrame (.ref a) D := by unfold noteFrame PySem.frameOf; rw [hf, hD]
  rw [e]
  have hfr : X.A.frames = some (D :: outs) := by rw [hA, hs]
  have fin : ∀ h', HandSPX.HeldZ B X.stack a (Zc cls d) L h' → s'.heap.UpToSlots h' → XF X L E Held (.ref a) { s' with heap := h' } := fun h' hh up' => ⟨a, B, sI, pins, σ, H, cls, d, rfl, I, nb, up.trans up', hh, na, os, ag, hE⟩
  rw [hs] at sky fin
  rcases sky with ⟨hB, hn, hl, oe, vs, he, hz, hd, h1⟩ | fl | hh
  · exact HandSPX.look_newZ Zc.steady hfr hl hD he hB hn hd h1 hz fin
  · exact HandSPX.looks_onZ Zc.steady hfr hD fl fin
  · exact HandSPX.againZ hD hh.2.2.2 (fin s'.heap hh (Heap.UpToSlots.refl _))
/-- handed on -/
theorem XF.passed {E₁ : Value → Shared → Prop} {ce : Env} {what : String} (hf : ce.frame = some L) (x : XF X L E Held u s') (h : ∀ s'', XF X L E Sky u s'' → E₁ u s'') :
    wpAny (model X.prog X.w) X.A (passOn what u ce : Sem Value) (fun _ _ => False) E₁ s' := by
  obtain ⟨a, B, sI, pins, σ, H, cls, d, rfl, I, nb, up, hh, na, os, ag, hE⟩ := x
  unfold PySem.passOn
  obtain ⟨oe, vs, T, oT, ts, he, hz, hd, h1, hnT, hTe, hT, hdT, h3⟩ := hh.2.2.2
  refine wpAny_bind (wpAny_field he hd h1 ?_)
  rw [if_neg (show ¬ ((Value.ref T == Value.none) = true) from by simp)]
  rw [hf]
  refine wpAny_bind (HandSPX.setFlight_onZ hh fun h' hh' up' => ?_)
  exact wpAny_throw (h _ ⟨a, B, sI, pins, σ, H, cls, d, rfl, I, nb, up.trans up', .inr (.inr hh'), na, os, ag, hE⟩)
end
/-- the context of a block, with what is wanted of an exception -/
abbrev blkE (X : Cx) (s : Shared) (H : Hp) (scope : Scope) (cenv : Env) (fp : List Addr) (xe : Value → Shared → Prop) : Cx := { X with s_0 := s, H_0 := H, env := cenv, outer := X.stack, ex := fp, fn := fun x => scope.names.lookup x == some .cell, pn := [], xe := xe }
theorem toE {X : Cx} {s : Shared} {H : Hp} {scope : Scope} {ce : Env} {fp : List Addr} {xe : Value → Shared → Prop} {pins : List (Addr × Obj)} {σ : L2.St} {H' : Hp} {s' : Shared} (I : Inv (X.blk s H scope ce fp) pins σ H' s') : Inv (blkE X s H scope ce fp xe) pins σ H' s' :=
  ⟨⟨I.ok.mod, I.ok.kind, I.ok.glob, I.ok.blt, I.ok.above, I.ok.inj, I.ok.has, I.ok.cab, I.ok.hd, I.ok.frames, I.ok.stk, I.ok.exf, I.ok.bs, I.ok.bsz, I.ok.noex, I.ok.exfs, I.ok.funs, I.ok.frf⟩, I.os, I.bare, I.base, I.loc, I.cell, I.free, I.freeC, I.pin, I.hok, I.len⟩

theorem fun_hide {h h' B B' : Heap} {C : Addr} (sb : Heap.SameBut C h h') (gone : ∀ b, B.get? b = none → B'.get? b = none) : ∀ {l : List Env}, C ∉ frs l → h.FunFrames B l → h'.FunFrames B' l
  | [], _, _ => trivial
  | env :: l, hn, ⟨hk, ⟨L, o, hf, hb, ho, hd⟩, hr⟩ => by
    have hm : L ∈ frs (env :: l) := List.mem_filterMap.mpr ⟨env, List.mem_cons_self, hf⟩
    exact ⟨hk, ⟨L, o, hf, gone L hb, (sb.2 L fun z => hn (z ▸ hm)).trans ho, hd⟩, fun_hide sb gone (fun q => hn (by
      obtain ⟨e, he, q⟩ := List.mem_filterMap.mp q
      exact List.mem_filterMap.mpr ⟨e, List.mem_cons_of_mem _ he, q⟩)) hr⟩
/-- out of a block: the block's own names go -/
theorem XF.out {X : Cx} {E : XK} {L : Addr} {pins : List (Addr × Obj)} {σ : L2.St} {H : Hp} {s3 s' : Shared} {u : Value} {scope : Scope} {ce : Env} {fp : List Addr} {xe : Value → Shared → Prop} (I3 : Inv X pins σ H s3) (hC : s3.heap.objs.size ≤ ce.locals)
    (f3 : ∀ b ∈ fp, FpOk X pins H b ∧ b < s3.heap.objs.size) (x : XF (blkE X s3 H scope ce fp xe) L E Held u s') :
    (∃ m, s'.heap.Ns ce.locals m) ∧ ∀ h', Heap.SameBut ce.locals s'.heap h' → XF X L E Held u { s' with heap := h' } := by
  obtain ⟨a, B, sI, pn, σ', H', cls, d, rfl, I, nb, up, hh, na, os, ag, hE⟩ := x
  have J : Inv X pins σ H' sI := I3.call' (ch := fp) I.os I.base I.hok I.bare fun b hb => ⟨(f3 b hb).1.2.2.2.1, (f3 b hb).1.2.1, (f3 b hb).1.2.2.2.2.1, (f3 b hb).1.2.2.2.2.2⟩
  have nf : ce.locals ∉ frs X.stack := fun hm => by
    obtain ⟨_, o, e, _⟩ := I3.stack.mem hm
    exact absurd (Nat.lt_of_lt_of_le (Heap.lt_size e) hC) (Nat.lt_irrefl _)
  have nC : H' ce.locals = none := I.free
  obtain ⟨m, hn, _⟩ := I.loc
  have hn : sI.heap.Ns ce.locals m := hn
  obtain ⟨oc, es, ep, ho, hd, hk, hf⟩ := hn
  have hB : B.get? ce.locals = some oc := nb _ _ ho nf
  have hs' : s'.heap.get? ce.locals = some oc := hh.1 _ _ hB
  refine ⟨⟨m, oc, es, ep, hs', hd, hk, hf⟩, fun h' sb => ?_⟩
  have f := I3.fpOk (H' := H') hC nC
  obtain ⟨f0, f1, f2, f3', f4, f5⟩ := f
  have J2 : Inv X pins σ H' { sI with heap := PySem.W.hideAll sI.heap [ce.locals], toks := sI.toks } := J.turned (it := ce.locals) (fun b o hb e => PySem.W.hideAll_get _ e (by simpa using hb)) f0 f1 f3' f4 f5
  have aC : a ≠ ce.locals := fun z => by
    have q := hh.2.1
    rw [z, hB] at q; cases q
  have inB : ∀ b o, (PySem.W.hideAll B [ce.locals]).get? b = some o → B.get? b = some o ∧ b ≠ ce.locals := fun b o e => ⟨PySem.W.of_hideAll _ e, fun z => by
    rw [z, PySem.W.hideAll_none [ce.locals] (by simp)] at e; cases e⟩
  have inS : ∀ b o, (PySem.W.hideAll sI.heap [ce.locals]).get? b = some o → sI.heap.get? b = some o ∧ b ≠ ce.locals := fun b o e => ⟨PySem.W.of_hideAll _ e, fun z => by
    rw [z, PySem.W.hideAll_none [ce.locals] (by simp)] at e; cases e⟩
  have gone : ∀ b, B.get? b = none → (PySem.W.hideAll B [ce.locals]).get? b = none := fun b e => by
    cases q : (PySem.W.hideAll B [ce.locals]).get? b with
    | none => rfl
    | some o => rw [(inB b o q).1] at e; cases e
  have hh0 := hh
  obtain ⟨k1, k2, k3, k4⟩ := hh
  have k3 : s'.heap.FunFrames B X.stack := k3
  have k4 := k4
  refine ⟨a, PySem.W.hideAll B [ce.locals], _, pins, σ, H', cls, d, rfl, J2, fun b o e hb => ?_, fun b o e hnf => ?_, ⟨fun b o e => ?_, gone a k2, ?_, ?_⟩, na, os, ag, hE⟩
  · have e : (PySem.W.hideAll sI.heap [ce.locals]).get? b = some o := e
    obtain ⟨e1, e2⟩ := inS b o e
    exact PySem.W.hideAll_get _ (nb b o e1 hb) (by simpa using e2)
  · have e : (PySem.W.hideAll sI.heap [ce.locals]).get? b = some o := e
    obtain ⟨e1, e2⟩ := inS b o e
    obtain ⟨sl, q⟩ := up b o e1 hnf
    exact ⟨sl, (sb.2 b e2).trans q⟩
  · obtain ⟨e1, e2⟩ := inB b o e
    exact (sb.2 b e2).trans (k1 b o e1)
  · exact fun_hide sb gone nf k3
  · obtain ⟨oe, vs, T, oT, ts, he, hz, hd', h1, hnT, hTe, hT, hdT, h3⟩ := k4
    have tC : T ≠ ce.locals := fun z => by rw [z, hB] at hnT; cases hnT
    exact ⟨oe, vs, T, oT, ts, (sb.2 a aC).trans he, hz, hd', h1, gone T hnT, hTe, (sb.2 T tC).trans hT, hdT, h3⟩

section
variable {X : Cx} {E : XK}
/-- [elt for target in iter if ..], what may raise E inside -/
theorem pe_lcX {elt tg iter : Expr} {ifs : List Expr} {scope : Scope} {own : List (Str × Nat)} {pos : Pos} {wi : TI} {g : TG} {tt : TT} {te : TE} (tk : Tk X E) (hc : X.calm = true) (hN : X.N.Nodup) (hi : PI X tg iter wi) (ok : BlkOk X.N X.env.scope scope own)
    (hg : ∀ (s : Shared) (H : Hp) (C : Addr) (cl : List (Str × Addr)) (fp : List Addr) (xe : Value → Shared → Prop), Tk (blkE X s H scope (compEnvC scope cl C X.env) fp xe) E → PG (blkE X s H scope (compEnvC scope cl C X.env) fp xe) tg g)
    (ht : ∀ (s : Shared) (H : Hp) (C : Addr) (cl : List (Str × Addr)) (fp : List Addr) (xe : Value → Shared → Prop), Tk (blkE X s H scope (compEnvC scope cl C X.env) fp xe) E → PTs (blkE X s H scope (compEnvC scope cl C X.env) fp xe) ifs tt)
    (he : ∀ (s : Shared) (H : Hp) (C : Addr) (cl : List (Str × Addr)) (fp : List Addr) (xe : Value → Shared → Prop), Tk (blkE X s H scope (compEnvC scope cl C X.env) fp xe) E → PE (blkE X s H scope (compEnvC scope cl C X.env) fp xe) elt te)
    (hs : ∀ x, foldedSetIterable iter X.env x = pure x := by intro _; rfl) :
    PE X (.ListComp elt [⟨tg, iter, ifs, 0⟩] scope pos) (tLc wi g tt te (own.map (·.2))) := by
  refine ⟨fun pins s σ H Q I h => ?_⟩
  obtain ⟨L, Dm, outs, hstk, hDf, hXf, htk⟩ := tk
  rw [eval_ListComp]
  have hfree : ∀ y ∈ scope.names, y.2 = .free → ∃ c, X.env.cells.lookup y.1 = some c := fun y hy e => by
    rcases ok.free y hy e with k | k
    · exact I.ok.has _ (.inl k)
    · exact I.ok.has _ (.inr k)
  refine comp_x rfl hs (closure_ok hfree) ok.kind (fun y hy e => by rw [ok.uniq y hy, e])
    (thn (hi.run pins s σ H _ I h) fun xv s1 hx => thn hx fun itv s2 h2 => ?_)
  obtain ⟨it, fp, tn, J, H2, e, I2, T, st2, f2, q⟩ := h2
  subst e
  refine wpAny_newObj_type (newEnv_comp ?_) (by show 0 ≤ sizeLine; decide)
  generalize hD : s2.heap.objs.size = D
  have hDn : H2 D = none := I2.hok.fresh (Nat.le_of_eq hD)
  obtain ⟨W, ⟨m0, w0⟩, turn⟩ := q D hDn
  generalize hs3 : ({ s2 with heap := s2.heap.push { cls := .type "list", data := .seq ([] : List Value).toArray } } : Shared) = s3
  have I3 : Inv X pins σ (upd H2 D (.lst [])) s3 := by
    rw [← hs3]
    refine I2.laid (t' := s2.toks) (fun b o e => Heap.get?_push_of_some _ e) (Nat.le_of_eq hD) ⟨Nat.zero_le _, [], 0, .nil, ?_⟩
    rw [← hD]
    exact Heap.get?_push_size _ rfl
  have h3 : s3.heap = s2.heap.push { cls := .type "list", data := .seq ([] : List Value).toArray } := by rw [← hs3]
  have sz : ∀ b ∈ fp, b < s2.heap.objs.size := fun b hb => by
    obtain ⟨o, e, _⟩ := T.obj _ _ st2 b hb
    exact Heap.lt_size e
  have f3 : ∀ b ∈ fp, FpOk X pins (upd H2 D (.lst [])) b ∧ b < s3.heap.objs.size := fun b hb => by
    have hlt := sz b hb
    refine ⟨⟨?_, (f2 b hb).2⟩, by rw [h3, Heap.size_push]; exact Nat.lt_succ_of_lt hlt⟩
    rw [upd_ne (by rw [← hD]; exact Nat.ne_of_lt hlt)]
    exact (f2 b hb).1
  have st3 : tn 0 s3.heap := T.keep _ _ _ st2 fun b _ o e => by rw [h3]; exact Heap.get?_push_of_some _ e
  have I4 := block_start I3 ok hN f3
  generalize hcl : cellsFrom (s3.heap.objs.size + 1) scope.names (cloFrom X.env.cells scope.names []) = cl at I4
  have pg := hg s3 (upd H2 D (.lst [])) s3.heap.objs.size cl fp
  have pt := ht s3 (upd H2 D (.lst [])) s3.heap.objs.size cl fp
  have pe := he s3 (upd H2 D (.lst [])) s3.heap.objs.size cl fp
  show codeAny _ _ (.compStart (.ListComp elt [⟨tg, iter, ifs, 0⟩] scope pos) 0 (.ref it) (.ref D) (compEnvC scope cl s3.heap.objs.size X.env)) (cpX (model X.prog X.w) X.A X.xe (fun v s' => EP X pins σ Q v s') (.ref D) (newEnv scope s3.heap.objs.size X.env.globals cl X.env.qual none .none (some X.env) builtinsNs)) { s3 with heap := pushCells (s3.heap.push { cls := .type "dict", data := .dict #[] }) scope.names }
  have nL : (newEnv scope s3.heap.objs.size X.env.globals cl X.env.qual none .none (some X.env) builtinsNs).locals = s3.heap.objs.size := rfl
  have nF : (newEnv scope s3.heap.objs.size X.env.globals cl X.env.qual none .none (some X.env) builtinsNs).frame = some L := hXf
  generalize newEnv scope s3.heap.objs.size X.env.globals cl X.env.qual none .none (some X.env) builtinsNs = cn at nL nF ⊢
  have nfp : ∀ b ∈ fp, (upd H2 D (.lst [])) b = none := fun b hb => (f3 b hb).1.1
  have cF : (compEnvC scope cl s3.heap.objs.size X.env).frame = some L := hXf
  have cL : (compEnvC scope cl s3.heap.objs.size X.env).locals = s3.heap.objs.size := rfl
  generalize hce : compEnvC scope cl s3.heap.objs.size X.env = ce at I4 pg pt pe cF cL ⊢
  generalize hH3 : upd H2 D (.lst []) = H3 at I3 I4 pg pt pe w0 nfp f3
  generalize hs4 : ({ s3 with heap := pushCells (s3.heap.push { cls := .type "dict", data := .dict #[] }) scope.names } : Shared) = s4 at I4 ⊢
  have st4 : tn 0 s4.heap := T.keep _ _ _ st3 fun b _ o e => by rw [← hs4]; exact pushCells_keeps _ _ _ _ (Heap.get?_push_of_some _ e)
  generalize hR : cpX (model X.prog X.w) X.A X.xe (fun v s' => EP X pins σ Q v s') (.ref D) cn = R
  generalize hxe : notedBy (model X.prog X.w) X.A ce (fun e s' => R (.error e) s') = xe
  have tkb : Tk (blkE X s3 H3 scope ce fp xe) E := by
    refine ⟨L, Dm, outs, hstk, hDf, cF, fun u s' x => ?_⟩
    show xe u s'
    rw [← hxe]
    show wpAny _ _ (noteFrame u ce) _ _ s'
    refine wpAny_mono (XF.noted (X := blkE X s3 H3 scope ce fp xe) (E₁ := fun e s' => R (.error e) s') hstk hDf cF I3.ok.frames x) (fun _ s'' x' => ?_) fun _ _ z => z
    rw [← hR]
    obtain ⟨⟨m, hm⟩, ho⟩ := XF.out I3 (Nat.le_of_eq cL.symm) f3 x'
    rw [cL] at hm ho
    refine ⟨m, by rw [nL]; exact hm, fun h' sb c' hc' => ?_⟩
    rw [nL] at sb
    exact XF.passed (hc'.trans nF) (ho h' sb) (htk u)
  have pg := pg xe tkb
  have pt := pt xe tkb
  have pe := pe xe tkb
  have I4 := toE (xe := xe) I4
  have stat : ∀ {σ' : L2.St} {H' : Hp} {s' : Shared}, Inv (blkE X s3 H3 scope ce fp xe) [] σ' H' s' → (∀ b ∈ fp, H' b = none) → ∀ b ∈ fp, FpOk (blkE X s3 H3 scope ce fp xe) [] H' b := fun {σ' H' s'} I' hn b hb =>
    ⟨hn b hb, (I'.ok.exf b hb).1, I'.ok.exfs b hb, .inl hb, fun x c e => (I'.ok.exf b hb).2 x c e, fun p hp => absurd (show p ∈ ([] : List (Addr × Obj)) ++ [] from hp) (by simp)⟩
  have loop : codeAny (model X.prog X.w) X.A (.compLoop (.ListComp elt [⟨tg, iter, ifs, 0⟩] scope pos) 0 (.ref it) (.ref D) ce) R s4 := by
    refine compLoop_any (fun n s' => ∃ i H', Inv (blkE X s3 H3 scope ce fp xe) [] (wipe σ (own.map (·.2))) H' s' ∧ tn i s'.heap ∧ (∀ b ∈ fp, H' b = none) ∧ W i n H') ?_ m0 ⟨0, H3, I4, st4, nfp, w0⟩
    rintro n s5 ⟨i, H5, I5, st5, n5, w5⟩
    rw [hxe]
    rcases turn i n H5 w5 with ⟨stop, qq⟩ | ⟨go, Nx, hNx, step⟩
    · refine thnF (T.done (blkE X s3 H3 scope ce fp xe) rfl rfl rfl hc i [] s5 _ H5 (fun _ _ => False) I5 (stat I5 n5) st5 stop) fun r s6 ⟨hr, I6⟩ => ?_
      subst hr
      have I7 : Inv X pins σ H5 s6 := I3.call' (ch := fp) I6.os I6.base I6.hok I6.bare fun b hb => ⟨(f3 b hb).1.2.2.2.1, (f3 b hb).1.2.1, (f3 b hb).1.2.2.2.2.1, (f3 b hb).1.2.2.2.2.2⟩
      have nC : H5 s3.heap.objs.size = none := by
        have z : H5 ce.locals = none := I6.free
        rw [cL] at z
        exact z
      obtain ⟨m, hn, _⟩ := I6.loc
      have hn : s6.heap.Ns ce.locals m := hn
      rw [cL] at hn
      show R (.ok .next) s6
      rw [← hR]
      refine ⟨m, by rw [nL]; exact hn, fun h'' sb => ?_⟩
      rw [nL] at sb
      obtain ⟨f0, f1, f2, f3', f4, f5⟩ := I3.fpOk (H' := H5) (Nat.le_refl _) nC
      exact ⟨.ref D, H5, I7.turned (t' := s6.toks) (fun b o hb e => (sb.2 b hb).trans e) f0 f1 f3' f4 f5, rfl, qq⟩
    · refine thnF (T.item (blkE X s3 H3 scope ce fp xe) rfl rfl rfl hc i [] s5 _ H5 (fun _ _ => False) I5 (stat I5 n5) st5 go) fun r s6 ⟨u, hr, h6⟩ => ?_
      subst hr
      refine thnF h6 fun _ s7 ⟨x, H7, I7, r7, y7, st7, n7⟩ => ?_
      have I7' := I7.pinned (stat I7 n7) (T.obj _ _ st7)
      refine thn (pg.run _ s7 _ H7 x u _ I7' r7 (step x H7 y7)) fun _ s8 ⟨σ8, H8, I8, hw8, q8⟩ => ?_
      refine thn (pt.run _ s8 σ8 H8 _ I8 q8) fun b s9 ⟨H9, I9, q9⟩ => ?_
      have fin : ∀ {s' : Shared} {H' : Hp}, Inv (blkE X s3 H3 scope ce fp xe) ([] ++ pinsAt fp s7.heap) σ8 H' s' → Nx H' → ∃ m, m < n ∧ ∃ i H', Inv (blkE X s3 H3 scope ce fp xe) [] (wipe σ (own.map (·.2))) H' s' ∧ tn i s'.heap ∧ (∀ b ∈ fp, H' b = none) ∧ W i m H' := fun {s' H'} I' nx => by
        obtain ⟨m', hm, w'⟩ := hNx H' nx
        have pin' : ∀ b ∈ fp, ∀ o, s7.heap.get? b = some o → s'.heap.get? b = some o ∧ H' b = none := fun b hb o e =>
          let z := I'.pin (b, o) (List.mem_append_right _ (List.mem_append_right _ (mem_pinsAt hb e)))
          ⟨z.1, z.2.1⟩
        have hl : (wipe σ (own.map (·.2))).length = σ8.length := by rw [← hw8, wipe_length]
        refine ⟨m', hm, i + 1, H', (I'.unpinned (pins := [])).weak hl (fun j v e => ?_), T.keep _ _ _ st7 fun b hb o e => (pin' b hb o e).1, fun b hb => ?_, w'⟩
        · rw [← hw8] at e
          exact (wipe_some e).1
        · obtain ⟨o, e, _⟩ := T.obj _ _ st7 b hb
          exact (pin' b hb o e).2
      cases b with
      | false =>
        simp only [Bool.false_eq_true, if_false] at q9 ⊢
        exact fin I9 q9
      | true =>
        simp only [if_true] at q9 ⊢
        refine thn (pe.run _ s9 σ8 H9 _ I9 q9) fun z s10 ⟨yv, H10, I10, r10, acc, hD10, hz10, nx⟩ => ?_
        exact app_ok (X := blkE X s3 H3 scope ce fp xe) I10 hD10 hz10 r10 fun s11 I11 => fin I11 nx
  exact codeAny_compStart_list loop (T.self X.A 0 _ _ _ st4 loop)
end
section
variable {H : Hp} {Q : VK} {σ : L2.St} {wi : TI} {J : It} {m : Nat} {G : Hp → Prop} {Y : Nat → Hp → V → Hp → Prop} {g : TG} {te : TE} {vs : List Nat}
/-- a comprehension that can't come to its end: an element without P raises -/
theorem z_failW (P : Nat → Prop) (w : Walk J m G Y) (hm : m ≤ 1000) (hi : ∀ R : It → Hp → Prop, R J H → wi σ H R) (hG : ∀ H', Same H H' → G H') (no : ¬ ∀ i, i < m → P i)
    (hs : ∀ i x H' H2 (R : VK), i < m → Same H H' → Y i H' x H2 → (P i → ∀ v H3, Same H' H3 → R v H3) → g x (wipe σ vs) H2 fun σ2 H3 => wipe σ2 vs = wipe σ vs ∧ te σ2 H3 R) : tLc wi g tYes te vs σ H Q := by
  refine Cw.z_lcW w hi (fun i D acc H' => Same H H' ∧ H D = none ∧ ∀ k, k < i → P k) (fun D H' f s _ => ⟨s, f, fun k h => absurd h (Nat.not_lt_zero _)⟩) (fun i D acc H' h => hG _ h.1) (fun i x D acc H' H2 hi' hl' hD ⟨s', fD, hp⟩ y => ?_) (fun D acc H' fD hl' hD ⟨s', _, hp⟩ => absurd hp no)
  refine hs i x H' H2 _ hi' s' y fun p v H3 s3 => ?_
  refine z_lcB (s3 _ _ hD) hl' (by omega) fun H5 hD5 k5 e5 => ⟨fun b o h => ?_, fD, fun k hk => ?_⟩
  · rw [e5 b (ne_of_none h fD)]
    exact s3 _ _ (s' _ _ h)
  · rcases Nat.lt_succ_iff_lt_or_eq.mp hk with h | h
    · exact hp k h
    · exact h ▸ p
end
end Xc

/-! tuple(e for x in xs), whose element may call defs of the program -/
namespace Tg
open PySem PySem.Spec PyProof.Rows L2 GenW Gl GxR
/-- the context of a generator expression's own run -/
abbrev gx (X : Cx) (A' : Around) (s : Shared) (H : Hp) (ce : Env) (fp : List Addr) : Cx :=
  { X with A := A', s_0 := s, H_0 := H, env := ce, outer := X.stack, stack := ce :: X.stack, ex := fp, fn := fun _ => false, calm := true, pn := [], xe := fun _ _ => False }
section
variable {X : Cx} {pins : List (Addr × Obj)} {σ : L2.St} {H : Hp} {s : Shared}
theorem gen_start {A' : Around} {scope : Scope} {own : List (Str × Nat)} {fp : List Addr} {code : Value} {s' : Shared} (I : Inv X pins σ H s) (ok : BlkOk X.N X.env.scope scope own) (hcell : ∀ y ∈ scope.names, y.2 ≠ .cell) (hN : X.N.Nodup)
    (hfp : ∀ b ∈ fp, FpOk X pins H b ∧ b < s.heap.objs.size) (hd : A'.handled = none) (hA : A'.frames = some (genEnv scope (cloFrom X.env.cells scope.names []) s.heap.objs.size code builtinsNs X.env :: X.stack))
    (kp : ∀ b o, s.heap.get? b = some o → s'.heap.get? b = some o) (os : s'.os = s.os) (hb : AllBare s'.gens) (hns : ∃ m, s'.heap.Ns s.heap.objs.size m) :
    Inv (gx X A' s H (genEnv scope (cloFrom X.env.cells scope.names []) s.heap.objs.size code builtinsNs X.env) fp) [] (wipe σ (own.map (·.2))) H s' := by
  have hfree : ∀ y ∈ scope.names, y.2 = .free → ∃ c, X.env.cells.lookup y.1 = some c := fun y hy e => by
    rcases ok.free y hy e with k | k
    · exact I.ok.has _ (.inl k)
    · exact I.ok.has _ (.inr k)
  generalize hcenv : genEnv scope (cloFrom X.env.cells scope.names []) s.heap.objs.size code builtinsNs X.env = ce at hA ⊢
  have hL : ce.locals = s.heap.objs.size := by rw [← hcenv]; rfl
  have hcl : ce.cells = cloFrom X.env.cells scope.names [] := by rw [← hcenv]; rfl
  have hsc : ce.scope = scope := by rw [← hcenv]; rfl
  have cm : ∀ {y c}, (y, c) ∈ cloFrom X.env.cells scope.names [] → X.env.cells.lookup y = some c ∧ c < s.heap.objs.size := fun {y c} hm => by
    rcases cloFrom_mem hm with hm | ⟨h1, rfl⟩
    · cases hm
    · obtain ⟨c, hc⟩ := hfree _ h1 rfl
      rw [hc]
      obtain ⟨w, z⟩ := I.cell _ _ hc
      exact ⟨rfl, z.lt⟩
  have mem : ∀ {y c}, ce.cells.lookup y = some c → X.env.cells.lookup y = some c ∧ c < s.heap.objs.size := fun {y c} e => by
    rw [hcl] at e
    exact cm (PySem.mem_of_lookup e)
  have look : ∀ {y}, scope.names.lookup y = some .free → ∃ c, ce.cells.lookup y = some c ∧ X.env.cells.lookup y = some c := fun {y} hl => by
    have hy : (y, NameKind.free) ∈ scope.names := PySem.mem_of_lookup hl
    obtain ⟨c', e'⟩ := mem_lookup (cloFrom_has (cells := X.env.cells) (acc := []) hy)
    rw [← hcl] at e'
    exact ⟨c', e', (mem e').1⟩
  have noc : ∀ {y}, ce.kindOf y ≠ some .cell := fun {y} z => by
    unfold Env.kindOf at z
    rw [hsc] at z
    exact hcell _ (PySem.mem_of_lookup z) rfl
  obtain ⟨m, hm⟩ := hns
  have okB : (gx X A' s H ce fp).Ok := by
    refine ⟨I.ok.mod, by show ce.scope.kind = _; rw [hsc]; exact ok.kind, by show ce.globals = _; rw [← hcenv]; exact I.ok.glob, by show ce.builtins = _; rw [← hcenv]; rfl, by show s.heap.objs.size ≤ ce.locals; rw [hL]; exact Nat.le_refl _,
      fun y z c e1 e2 => I.ok.inj y z c (mem e1).1 (mem e2).1, fun y hy => ?_, fun y c z e => Bool.noConfusion z, fun _ => hd, hA, .inr ⟨rfl, ?_⟩, fun b hb => ⟨?_, fun y c e z => ?_⟩, I.bs, Nat.le_trans I.ok.bsz I.sz, fun b o e hb => ?_, fun b hb z => ?_, I.stack, I.stkFree⟩
    · rcases hy with hy | hy
      · exact absurd hy noc
      · have hy : ce.scope.names.lookup y = some .free := hy
        rw [hsc] at hy
        obtain ⟨c, h1, _⟩ := look hy
        exact ⟨c, h1⟩
    · show ce.frame = some ce.locals
      rw [← hcenv]
      rfl
    · show b ≠ ce.locals
      rw [hL]; exact Nat.ne_of_lt (hfp b hb).2
    · exact (hfp b hb).1.2.2.2.2.1 y c (mem e).1 z
    · rcases (hfp b hb).1.2.2.2.1 with z | z
      · exact I.ok.noex b o e z
      · exact absurd (Nat.lt_of_lt_of_le (Heap.lt_size e) (Nat.le_trans I.ok.bsz z)) (Nat.lt_irrefl _)
    · rcases List.mem_cons.mp (I.stkSub b z) with z | z
      · exact (hfp b hb).1.2.1 z
      · exact (hfp b hb).1.2.2.1 z
  refine ⟨okB, os, hb, Un.kept kp, ⟨m, ?_, fun i y av e1 e2 e3 => ?_⟩, fun y c e => ?_, ?_, fun y c e => I.freeC y c (mem e).1, fun p hp => ?_, I.hok.kept kp, by rw [wipe_length]; exact I.len⟩
  · show Heap.Ns _ ce.locals _
    rw [hL]
    exact hm
  · obtain ⟨e2, hne⟩ := wipe_some e2
    have hfr : scope.names.lookup y = some .free := by
      have e3 : Vis ce.scope y := e3
      rw [hsc] at e3
      have no : ∀ k', scope.names.lookup y = some k' → ¬ (k' = .local ∨ k' = .cell) := fun k' e hh => by
        rcases ok.own _ (PySem.mem_of_lookup e) hh with e' | e'
        · obtain ⟨p, hp, hpy⟩ := List.mem_map.mp e'
          have e3 := ok.ix p hp
          have : p.1 = y := hpy
          rw [this] at e3
          exact hne (List.mem_map.mpr ⟨p, hp, nodup_ix hN e3 e1⟩)
        · exact e' (List.mem_of_getElem? e1)
      rcases e3 with e3 | e3 | e3
      · exact absurd (.inl rfl) (no _ e3)
      · exact absurd (.inr rfl) (no _ e3)
      · exact e3
    obtain ⟨m, hn, hl⟩ := I.loc
    have hvis : Vis X.env.scope y := (ok.free _ (PySem.mem_of_lookup hfr) rfl).elim (fun k => .inr (.inl k)) (fun k => .inr (.inr k))
    obtain ⟨w, r, q⟩ := hl i y av e1 e2 hvis
    have kf : ce.kindOf y = some .free := by
      unfold Env.kindOf
      rw [hsc]
      exact hfr
    refine ⟨w, r, .inr ⟨.inr kf, ?_⟩⟩
    obtain ⟨c, h1, h2⟩ := look hfr
    rcases q with ⟨k, _⟩ | ⟨_, c', e', z⟩
    · have k : X.env.scope.names.lookup y = some .local := k
      rcases ok.free _ (PySem.mem_of_lookup hfr) rfl with k' | k' <;> rw [show X.env.scope.names.lookup y = _ from k'] at k <;> cases k
    · rw [h2] at e'; cases e'
      exact ⟨c, h1, z.keeps kp⟩
  · obtain ⟨w, z⟩ := I.cell y c (mem e).1
    exact ⟨w, z.keeps kp⟩
  · show H ce.locals = none
    rw [hL]; exact I.hok.fresh (Nat.le_refl _)
  · exact absurd (show p ∈ ([] : List (Addr × Obj)) ++ [] from hp) (by simp)
end
/-! ### a turn of the generator -/
abbrev gE (elt tg iter : Expr) (scope : Scope) (pos : Pos) : Expr := .GeneratorExp elt [⟨tg, iter, [], 0⟩] scope pos
abbrev cL (elt tg iter : Expr) (scope : Scope) (pos : Pos) (it : Addr) (ce : Env) : Code := .compLoop (gE elt tg iter scope pos) 0 (.ref it) .none ce
abbrev cS (elt tg iter : Expr) (scope : Scope) (pos : Pos) (it : Addr) (ce : Env) : Code := .compStart (gE elt tg iter scope pos) 0 (.ref it) .none ce
section
variable {A : Around} {elt tg iter : Expr} {scope : Scope} {pos : Pos} {it : Addr} {ce : Env}
theorem over_cL : A.over (cL elt tg iter scope pos it ce) [] = A.deeper ce := by
  first
    | rfl
    | (obtain ⟨hd, d, fr, gs, u⟩ := A; simp [Around.over, Around.deeper, marksOver, frameCount, unitsOf, envsOf, guardsOf, pushEnvs, pushGuards, Code.envs, Code.env?, Code.isFrame, Code.guards, Code.isGuard, Code.weight, Code.frames, Code.isCreation, Code.isCaller, Code.cUnits])
variable {GX : Cx} {pins : List (Addr × Obj)} {σ : L2.St} {H : Hp} {s : Shared} {fp : List Addr} {tn : Nat → Heap → Prop} {J : It} {g : TG} {te : TE} {i : Nat} {Φ : End → Shared → Prop} {vs : List Nat}
theorem sg_item (hA : A.over (cL elt tg iter scope pos it GX.env) [] = GX.A) (hco : GX.env.scope.isCoroutine = false) (hc : GX.calm = true) (hxe : GX.xe = fun _ _ => False)
    (hg : PG GX tg g) (he : PE GX elt te) (T : Turn GX.prog GX.w GX.K tg J fp it tn) (I : Inv GX pins σ H s) (hf : ∀ b ∈ fp, FpOk GX pins H b) (st : tn i s.heap) (go : J.go i H) {Post : V → Hp → Prop}
    (step : ∀ x H', J.yld i H x H' → g x σ H' fun σ2 H2 => wipe σ2 vs = σ ∧ te σ2 H2 fun y H3 => Post y H3)
    (hΦ : ∀ v y σ1 pl H3 s1, Inv GX (pins ++ pl) σ1 H3 s1 → wipe σ1 vs = σ → tn (i + 1) s1.heap → (∀ b ∈ fp, H3 b = none) → RelV y v → Post y H3 → ∀ k l p, Again GX.prog GX.w A (cL elt tg iter scope pos it GX.env) [] k → Φ (.susp v false l k (cL elt tg iter scope pos it GX.env) p []) s1) :
    Sg (model GX.prog GX.w) A Φ (cL elt tg iter scope pos it GX.env) ((model GX.prog GX.w).den (cL elt tg iter scope pos it GX.env)) [] s := by
  show Sg _ A Φ _ ((compTurn (gE elt tg iter scope pos) 0 (.ref it) .none GX.env).onRaise (leaving GX.env)) [] s
  rw [compTurn_gen, Sem.onRaise_eq_wrap]
  refine sg_bindw (wpAny_standAt ?_)
  refine sg_bindw ?_
  rw [hA]
  refine wpAny_mono (T.item GX rfl rfl rfl hc i pins s σ H (fun _ _ => False) I hf st go) (fun r s1 hr => ?_) fun _ _ z => z.elim
  obtain ⟨u, rfl, hu⟩ := hr
  refine sg_bindw ?_
  rw [hA]
  refine wpAny_mono hu (fun _ s2 h2 => ?_) fun _ _ z => z.elim
  obtain ⟨x, H2, I2, rx, yx, st2, fr2⟩ := h2
  have I2' := I2.pinned (fun b hb => ⟨fr2 b hb, (hf b hb).2⟩) (T.obj _ _ st2)
  refine sg_bindw ?_
  rw [hA]
  refine wpAny_mono (hg.run _ s2 σ H2 x u _ I2' rx (step x H2 yx)) (fun _ s3 h3 => ?_) fun _ _ z => by rw [hxe] at z; exact z.elim
  obtain ⟨σ3, H3, I3, hw3, q3⟩ := h3
  refine sg_bindw ?_
  rw [hA]
  simp only [List.forIn_nil]
  refine wpAny_pure ?_
  have hy : ∀ v, yieldOut GX.env v = yieldValue v := fun v => by
    simp only [yieldOut, hco, Bool.false_eq_true, if_false]
  simp only [if_true, hy]
  rw [Sem.bind_eq_wrap', Sem.bind_eq_wrap', Sem.wrap_wrap, Sem.wrap_wrap]
  refine sg_wrap ?_
  rw [hA]
  refine wpAny_mono (he.run _ s3 σ3 H3 _ I3 q3) (fun v s4 h4 => ?_) fun _ _ z => by rw [hxe] at z; exact z.elim
  obtain ⟨y, H4, I4, ry, q4⟩ := h4
  have keepT : tn (i + 1) s4.heap := T.keep _ _ _ st2 fun b hb o q => (I4.pin (b, o) (List.mem_append_right _ (List.mem_append_right _ (mem_pinsAt hb q)))).1
  have frT : ∀ b ∈ fp, H4 b = none := fun b hb => by
    obtain ⟨o, q, _⟩ := T.obj _ _ st2 b hb
    exact (I4.pin (b, o) (List.mem_append_right _ (List.mem_append_right _ (mem_pinsAt hb q)))).2.1
  refine sg_at (sg_yield rfl fun p => ?_)
  exact hΦ v y σ3 _ H4 s4 I4 hw3 keepT frT ry q4 _ _ p fun Φ' s' h' => sg_again rfl h'
theorem sg_done (hA : A.over (cL elt tg iter scope pos it GX.env) [] = GX.A) (hc : GX.calm = true) (T : Turn GX.prog GX.w GX.K tg J fp it tn) (I : Inv GX pins σ H s) (hf : ∀ b ∈ fp, FpOk GX pins H b) (st : tn i s.heap) (stop : J.stop i H)
    (hΦ : ∀ s1, Inv GX pins σ H s1 → Φ (.ret (.ok .next)) s1) :
    Sg (model GX.prog GX.w) A Φ (cL elt tg iter scope pos it GX.env) ((model GX.prog GX.w).den (cL elt tg iter scope pos it GX.env)) [] s := by
  show Sg _ A Φ _ ((compTurn (gE elt tg iter scope pos) 0 (.ref it) .none GX.env).onRaise (leaving GX.env)) [] s
  rw [compTurn_gen, Sem.onRaise_eq_wrap]
  refine sg_bindw (wpAny_standAt ?_)
  refine sg_bindw ?_
  rw [hA]
  refine wpAny_mono (T.done GX rfl rfl rfl hc i pins s σ H (fun _ _ => False) I hf st stop) (fun r s1 hr => ?_) fun _ _ z => z.elim
  obtain ⟨rfl, I1⟩ := hr
  exact sg_end (.ok .next) (hΦ s1 I1)
theorem sg_start {P : Program} {w : World} {K : PySem.W.Frag} (T : Turn P w K tg J fp it tn) (st : tn i s.heap) (loop : Sg (model P w) A Φ (cL elt tg iter scope pos it ce) ((model P w).den (cL elt tg iter scope pos it ce)) [] s) :
    Sg (model P w) A Φ (cS elt tg iter scope pos it ce) ((model P w).den (cS elt tg iter scope pos it ce)) [] s := by
  show Sg _ A Φ _ ((compStart (gE elt tg iter scope pos) 0 (.ref it) .none ce).onRaise (leaving ce)) [] s
  unfold compStart
  rw [Sem.onRaise_eq_wrap]
  show Sg _ A Φ _ ((ask >>= _).wrap _ _ _ _) [] s
  refine sg_bindw (wpAny_askSetting ?_)
  split
  · exact sg_again rfl loop
  · refine sg_bindw (wpAny_rule ?_)
    show Sg _ A Φ _ ((standAt iter.pos >>= _).wrap _ _ _ _) [] s
    exact sg_bindw (wpAny_standAt (sg_bindw (T.self _ i s _ _ st (sg_again rfl loop))))
end
section
variable {P : Program} {w : World} {A : Around} {E : Value → Shared → Prop} {s : Shared}
/-- the next item of a generator expression, or its end -/
theorem next_gx {a : Addr} {g : Nat} {gs : GenState} {Φ : End → Shared → Prop} {Q : Option Value → Shared → Prop} (hh : A.handled = none) (hl : s.heap.NoLimit) (hroom : A.depth < recursionLimit) (hg : s.heap.IsGen a g) (hgs : s.gens[g]? = some gs)
    (hgo : Wk (model P w) A.in1 Φ gs (s.setGen g .running))
    (hΦ : ∀ e s1, Φ e s1 → (∃ v l k c p fs, e = .susp v false l k c p fs ∧ fs.any Frame.guarded = false ∧ Q (some v) (s1.setGen g e.genState)) ∨
      (e = .ret (.ok .next) ∧ ∀ h', (∀ b o, s1.heap.get? b = some o → h'.get? b = some o) → Q none { s1.setGen g .finished with heap := h' })) : wpAny (model P w) A (pyNext (.ref a)) Q E s := by
  unfold pyNext
  apply wpAny_bind
  apply wpAny_attempt
  refine wpAny_callSpecial?_slot (name := Str.ofString "__next__") hg.typeIs slot_gen_next ?_
  refine wpAny_call_entry slot_gen_next hg.typeIs entry_gen_next ?_ (args_gen_next _)
  show wpAny _ A.in1 (Builtin.Generator.genWake (.ref a) (.send .none)) _ _ s
  unfold Builtin.Generator.genWake
  refine wpAny_bind (wpAny_holding (wpAny_genNumber hg ?_))
  refine wpAny_bind (wpAny_genState hgs ?_)
  have fin : ∀ e s1, Φ e s1 → e.quiet = true := fun e s1 h => by
    rcases hΦ e s1 h with ⟨v, l, k, c, p, fs, rfl, hfs, _⟩ | ⟨rfl, _⟩
    · show (!(false || fs.any Frame.guarded)) = true
      rw [hfs]
      rfl
    · rfl
  cases gs with
  | running => exact hgo.elim
  | finished => exact hgo.elim
  | fresh c0 =>
    apply wpAny_bind
    refine wpAny_roomToWake hl hroom ?_
    show wpAny (model P w) A.in1 (.resume g (.send .none) [] _) _ _ s
    refine wpAny_wake hgs hgo fun e s1 he => ⟨fin e s1 he, ?_⟩
    rcases hΦ e s1 he with ⟨v, l, k, c, p, fs, rfl, _, q⟩ | ⟨rfl, q⟩
    · exact wpAny_pure ⟨v, rfl, wpAny_pure q⟩
    · show wpAny (model P w) A.in1 (newExc (.type "StopIteration") [] >>= _) _ _ _
      apply wpAny_bind
      simp only [newExc, newTuple]
      apply wpAny_bind
      refine wpAny_newObj_type ?_ (by size_fits)
      refine wpAny_bind (m := firstArgMember _ _) (wpAny_of_eq (a := Value.none) ?_ ?_)
      · first
          | rfl
          | (simp only [firstArgMember]; rfl)
      refine wpAny_newObj_type ?_ (by size_fits)
      simp only [raiseNew]
      refine wpAny_bind (wpAny_bind (wpAny_handled ?_))
      rw [show A.in1.handled = none from hh]
      refine wpAny_throw (wpAny_bind ?_)
      refine wpAny_isInstance (T := "StopIteration") (b := true) ⟨_, Heap.get?_push_size _ rfl, rfl⟩ isSubtype_stop ?_
      exact wpAny_pure (q _ fun b o hb => Heap.get?_push_of_some _ (Heap.get?_push_of_some _ hb))
  | suspended k0 l0 c0 p0 fs0 cl =>
    apply wpAny_bind
    refine wpAny_roomToWake hl hroom ?_
    show wpAny (model P w) A.in1 (.resume g (.send .none) [] _) _ _ s
    refine wpAny_wake hgs hgo fun e s1 he => ⟨fin e s1 he, ?_⟩
    rcases hΦ e s1 he with ⟨v, l, k, c, p, fs, rfl, _, q⟩ | ⟨rfl, q⟩
    · exact wpAny_pure ⟨v, rfl, wpAny_pure q⟩
    · show wpAny (model P w) A.in1 (newExc (.type "StopIteration") [] >>= _) _ _ _
      apply wpAny_bind
      simp only [newExc, newTuple]
      apply wpAny_bind
      refine wpAny_newObj_type ?_ (by size_fits)
      refine wpAny_bind (m := firstArgMember _ _) (wpAny_of_eq (a := Value.none) ?_ ?_)
      · first
          | rfl
          | (simp only [firstArgMember]; rfl)
      refine wpAny_newObj_type ?_ (by size_fits)
      simp only [raiseNew]
      refine wpAny_bind (wpAny_bind (wpAny_handled ?_))
      rw [show A.in1.handled = none from hh]
      refine wpAny_throw (wpAny_bind ?_)
      refine wpAny_isInstance (T := "StopIteration") (b := true) ⟨_, Heap.get?_push_size _ rfl, rfl⟩ isSubtype_stop ?_
      exact wpAny_pure (q _ fun b o hb => Heap.get?_push_of_some _ (Heap.get?_push_of_some _ hb))
end
end Tg

namespace Tg
open PySem PySem.Spec PyProof.Rows L2 GenW Gl GxR
section
variable {GX : Cx} {A A1 : Around} {elt tg iter : Expr} {scope : Scope} {pos : Pos} {it : Addr} {pins : List (Addr × Obj)} {σ : L2.St} {H : Hp} {s : Shared} {fp : List Addr} {tn : Nat → Heap → Prop} {J : It} {g : TG} {te : TE} {i : Nat} {vs : List Nat} {E : Value → Shared → Prop}
/-- an address of ours: nothing knows it -/
structure Apart (GX : Cx) (fp : List Addr) (b : Addr) : Prop where
  loc : b ≠ GX.env.locals
  fs : b ∉ GX.fs
  new : GX.s_0.heap.objs.size ≤ b
  cell : ∀ x c, GX.env.cells.lookup x = some c → c ≠ b
  fp : b ∉ fp
/-- the generator asleep, i items taken; the collector's list at S -/
structure Alive (GX : Cx) (A1 : Around) (elt tg iter : Expr) (scope : Scope) (pos : Pos) (it : Addr) (σ : L2.St) (fp : List Addr) (tn : Nat → Heap → Prop) (a S gn i : Nat) (H : Hp) (us : List Value) (s : Shared) : Prop where
  inv : Inv GX [] σ H s
  at_ : tn i s.heap
  its : ∀ b ∈ fp, FpOk GX [] H b
  un : H a = none ∧ H S = none
  gen : s.heap.IsGen a gn
  gs : ∃ gs, s.gens[gn]? = some gs ∧ ∀ Φ s', tn i s'.heap → Sg (model GX.prog GX.w) A1 Φ (cL elt tg iter scope pos it GX.env) ((model GX.prog GX.w).den (cL elt tg iter scope pos it GX.env)) [] s' → Wk (model GX.prog GX.w) A1 Φ gs s'
  lst : ∃ c, s.heap.get? S = some { cls := .type "list", data := .seq us.toArray c }
theorem next_alive {a S gn : Nat} {us : List Value} (hA : A.in1.over (cL elt tg iter scope pos it GX.env) [] = GX.A) (hco : GX.env.scope.isCoroutine = false) (hc : GX.calm = true) (hxe : GX.xe = fun _ _ => False) (hpn : GX.pn = []) (hh : A.handled = none) (hroom : A.depth < recursionLimit)
    (hg : PG GX tg g) (he : PE GX elt te) (T : Turn GX.prog GX.w GX.K tg J fp it tn) (ea : Apart GX fp a) (eS : Apart GX fp S) (haS : a ≠ S) (al : Alive GX A.in1 elt tg iter scope pos it σ fp tn a S gn i H us s)
    (hl : σ.length = σ.length) {B : Prop} {Post : V → Hp → Prop} (turn : (B ∧ J.stop i H) ∨ (J.go i H ∧ ∀ x H', J.yld i H x H' → g x σ H' fun σ2 H2 => wipe σ2 vs = σ ∧ te σ2 H2 fun y H3 => Post y H3)) :
    wpAny (model GX.prog GX.w) A (pyNext (.ref a)) (fun r s' => (r = none ∧ B ∧ Inv GX [] σ H s' ∧ ∃ c, s'.heap.get? S = some { cls := .type "list", data := .seq us.toArray c }) ∨
      (∃ u y H', r = some u ∧ RelV y u ∧ Post y H' ∧ Alive GX A.in1 elt tg iter scope pos it σ fp tn a S gn (i + 1) H' us s')) E s := by
  obtain ⟨gs, hgs, wk⟩ := al.gs
  obtain ⟨cS, hS⟩ := al.lst
  obtain ⟨oa, nm, qn, hoa, ra⟩ := id al.gen
  have hgl : gn < s.gens.size := (Array.getElem?_eq_some_iff.mp hgs).1
  have I0 : Inv GX [] σ H (s.setGen gn .running) := inv_gens (s0 := s) al.inv ⟨s.gens, rfl⟩ (allBare_setGen al.inv.bare rfl)
  -- pins: a and S
  have I1 : Inv GX [(a, oa), (S, { cls := .type "list", data := .seq us.toArray cS })] σ H (s.setGen gn .running) := I0.pins_of fun p hp => by
    rcases List.mem_cons.mp hp with rfl | hp
    · refine ⟨hoa, al.un.1, ea.loc, ea.fs, fun v z => ?_⟩
      have := ra.2.1
      rw [z] at this
      cases this
    · obtain rfl := List.mem_singleton.mp hp
      exact ⟨hS, al.un.2, eS.loc, eS.fs, fun v z => by cases z⟩
  have hf : ∀ b ∈ fp, FpOk GX [(a, oa), (S, { cls := .type "list", data := .seq us.toArray cS })] H b := fun b hb => by
    obtain ⟨f0, f1, f2, f3, f4, _⟩ := al.its b hb
    refine ⟨f0, f1, f2, f3, f4, fun p hp => ?_⟩
    rw [hpn] at hp
    rcases List.mem_cons.mp hp with rfl | hp
    · exact fun z => ea.fp (by rw [show a = b from z]; exact hb)
    · obtain rfl := List.mem_singleton.mp hp
      exact fun z => eS.fp (by rw [show S = b from z]; exact hb)
  refine wpAny_gsz (n := gn + 1) hgl ?_
  refine next_gx (Φ := fun e s1 => (∃ v l k p y σ1 pl H1, e = .susp v false l k (cL elt tg iter scope pos it GX.env) p [] ∧ Inv GX ([(a, oa), (S, { cls := .type "list", data := .seq us.toArray cS })] ++ pl) σ1 H1 s1 ∧ wipe σ1 vs = σ ∧ tn (i + 1) s1.heap ∧ (∀ b ∈ fp, H1 b = none) ∧ RelV y v ∧ Post y H1 ∧
      Again GX.prog GX.w A.in1 (cL elt tg iter scope pos it GX.env) [] k) ∨ (e = .ret (.ok .next) ∧ B ∧ Inv GX [(a, oa), (S, { cls := .type "list", data := .seq us.toArray cS })] σ H s1)) hh al.inv.nolimit hroom al.gen hgs ?_ ?_
  · refine wk _ _ al.at_ ?_
    rcases turn with ⟨stop', stop⟩ | ⟨go, step⟩
    · exact sg_done hA hc T I1 hf al.at_ stop fun s1 I2 => .inr ⟨rfl, stop', I2⟩
    · exact sg_item (vs := vs) hA hco hc hxe hg he T I1 hf al.at_ go step fun v y σ1 pl H3 s1 I2 hw t2 f2 rv q k l p ag => .inl ⟨v, l, k, p, y, σ1, pl, H3, rfl, I2, hw, t2, f2, rv, q, ag⟩
  · rintro e s1 (⟨v, l, k, p, y, σ1, pl, H1, rfl, I2, hw, t2, f2, rv, q, ag⟩ | ⟨rfl, stop, I2⟩)
    · refine .inl ⟨v, l, k, _, p, [], rfl, rfl, fun hsz => ?_⟩
      have egs : (End.susp v false l k (cL elt tg iter scope pos it GX.env) p []).genState = .suspended k l (cL elt tg iter scope pos it GX.env) p [] false := rfl
      rw [egs] at hsz ⊢
      rw [setGen_size] at hsz
      have pa := I2.pin (a, oa) (List.mem_append_right _ (List.mem_append_left _ List.mem_cons_self))
      have pS := I2.pin (S, { cls := .type "list", data := .seq us.toArray cS }) (List.mem_append_right _ (List.mem_append_left _ (List.mem_cons_of_mem _ List.mem_cons_self)))
      have hlen : σ.length = σ1.length := by rw [← hw, wipe_length]
      have I3 : Inv GX [] σ H1 s1 := ((I2.unpinned (pins := [(a, oa), (S, { cls := .type "list", data := .seq us.toArray cS })])).unpinned (pins := [])).weak hlen fun j v e => by
        rw [← hw] at e
        exact (wipe_some e).1
      refine .inr ⟨v, y, H1, rfl, rv, q, ⟨inv_gens (s0 := s1) I3 ⟨s1.gens, rfl⟩ (allBare_setGen I3.bare rfl), t2, fun b hb => ⟨f2 b hb, (al.its b hb).2⟩, ⟨pa.2.1, pS.2.1⟩, ⟨oa, nm, qn, pa.1, ra⟩, ⟨_, setGen_at hsz, fun Φ' s' _ h' => ag Φ' s' h'⟩, cS, pS.1⟩⟩
    · refine .inr ⟨rfl, fun h' hk _ => .inl ⟨rfl, stop, ?_, cS, ?_⟩⟩
      · have I3 : Inv GX [] σ H s1 := I2.unpinned (pins := [])
        have I4 : Inv GX [] σ H (s1.setGen gn .finished) := inv_gens (s0 := s1) I3 ⟨s1.gens, rfl⟩ (allBare_setGen I3.bare rfl)
        exact I4.kept (t' := s1.toks) hk
      · exact hk _ _ (I2.pin (S, { cls := .type "list", data := .seq us.toArray cS }) (List.mem_append_right _ (List.mem_cons_of_mem _ List.mem_cons_self))).1
/-- what the reading asks of the generator's turns -/
def Wx (J : It) (g : TG) (te : TE) (vs : List Nat) (σ : L2.St) (W : Nat → Nat → List V → Hp → Prop) (Fin : List V → Hp → Prop) : Prop :=
  ∀ i m acc H, W i m acc H → (J.stop i H ∧ acc.length ≤ sizeLine ∧ Fin acc H) ∨ (J.go i H ∧ acc.length < sizeLine ∧ ∃ Nx : V → Hp → Prop, (∀ y H', Nx y H' → ∃ m', m' < m ∧ W (i + 1) m' (acc ++ [y]) H') ∧
    ∀ x H', J.yld i H x H' → g x σ H' fun σ2 H2 => wipe σ2 vs = σ ∧ te σ2 H2 Nx)
theorem drain {A0 : Around} {a S gn : Nat} {res : Value} {R : Result → Shared → Prop} {W : Nat → Nat → List V → Hp → Prop} {Fin : List V → Hp → Prop} (hA : A0.in1.in1.over (cL elt tg iter scope pos it GX.env) [] = GX.A) (hco : GX.env.scope.isCoroutine = false) (hc : GX.calm = true) (hxe : GX.xe = fun _ _ => False) (hpn : GX.pn = []) (hh : A0.handled = none) (hroom : A0.depth < recursionLimit)
    (hg : PG GX tg g) (he : PE GX elt te) (T : Turn GX.prog GX.w GX.K tg J fp it tn) (ea : Apart GX fp a) (eS : Apart GX fp S) (haS : a ≠ S) (wx : Wx J g te vs σ W Fin)
    (hR : ∀ s' H' acc us c, Inv GX [] σ H' s' → Vals acc us → acc.length ≤ sizeLine → Fin acc H' → s'.heap.get? S = some { cls := .type "list", data := .seq us.toArray c } → R (.ok (.ret res)) s') :
    ∀ m i H acc us s, Alive GX A0.in1.in1 elt tg iter scope pos it σ fp tn a S gn i H us s → Vals acc us → W i m acc H → codeAny (model GX.prog GX.w) A0 (.builtin "list.extend.loop" ⟨[.ref S, .ref a, res], []⟩) R s := by
  intro m
  induction m using Nat.strongRecOn with
  | ind m ih =>
  intro i H acc us s al rv w0
  refine codeAny_builtin F.entry_extend_loop ?_
  rw [Around.under_plainId F.plain_extend_loop _]
  show wpAny _ A0.in1 (pyNext (.ref a) >>= _) _ _ s
  rcases wx i m acc H w0 with ⟨stop, hz, fin⟩ | ⟨go, hz, Nx, hNx, step⟩
  · refine wpAny_bind (wpAny_mono (next_alive (E := fun _ _ => False) (A := A0.in1) (vs := vs) (B := True) (Post := fun _ _ => False) hA hco hc hxe hpn hh hroom hg he T ea eS haS al rfl (.inl ⟨trivial, stop⟩)) (fun r s1 h1 => ?_) fun _ _ z => z.elim)
    rcases h1 with ⟨rfl, _, I1, c, e1⟩ | ⟨_, _, _, _, _, z, _⟩
    · exact wpAny_pure (hR s1 H acc us c I1 rv hz fin e1)
    · exact z.elim
  · refine wpAny_bind (wpAny_mono (next_alive (E := fun _ _ => False) (A := A0.in1) (vs := vs) (B := False) (Post := Nx) hA hco hc hxe hpn hh hroom hg he T ea eS haS al rfl (.inr ⟨go, step⟩)) (fun r s1 h1 => ?_) fun _ _ z => z.elim)
    rcases h1 with ⟨rfl, stop, I1, c, e1⟩ | ⟨u, y, H1, rfl, ry, nx, al1⟩
    · exact stop.elim
    · obtain ⟨c, e1⟩ := al1.lst
      have lenV := rv.length
      show wpAny _ _ (updateSeq S (·.push u) >>= _) _ _ _
      have b1 : us.toArray.size ≤ sizeLine := by rw [List.size_toArray]; omega
      have b2 : (us.toArray.push u).size ≤ sizeLine + 1 := by rw [Array.size_push, List.size_toArray]; omega
      refine wpAny_bind ?_
      refine wpAny_updateSeq e1 rfl (wpAny_pure ⟨plainId_quiet F.plain_extend_loop _, ?_⟩) b1 b2
      obtain ⟨m', hm, w1⟩ := hNx y H1 nx
      have oth : ∀ b o, b ≠ S → s1.heap.get? b = some o → (s1.heap.update S (Obj.mapSeq (·.push u))).get? b = some o := fun b o h q => (Heap.get?_update_other _ _ (Ne.symm h)).trans q
      refine ih m' hm (i + 1) H1 (acc ++ [y]) (us ++ [u]) _ ⟨?_, ?_, al1.its, al1.un, ?_, al1.gs, ?_⟩ (rv.append (.cons ry .nil)) w1
      · exact al1.inv.turned (it := S) (t' := s1.toks) oth al1.un.2 eS.loc (.inr eS.new) eS.cell fun p hp => by
          rw [hpn] at hp
          exact absurd hp (by simp)
      · refine T.keep _ _ _ al1.at_ fun b hb o q => oth b o (fun z => eS.fp (by rw [← z]; exact hb)) q
      · obtain ⟨o, nm, qn, ho, r⟩ := al1.gen
        exact ⟨o, nm, qn, oth a o haS ho, r⟩
      · have := Heap.get?_update_self (Obj.mapSeq (·.push u)) e1 rfl
        refine ⟨c + 1, ?_⟩
        rw [this]
        simp [Obj.mapSeq]
end
end Tg

namespace Tg
open PySem PySem.Spec PyProof.Rows L2 GenW Gl GxR
section
variable {prog : Program} {w : World} {A : Around} {E : Value → Shared → Prop} {s : Shared} {I : Addr} {Fin : Array Value → Shared → Prop}
/-- the loop that the collector runs, from its list S just laid -/
def LoopOk (prog : Program) (w : World) (A : Around) (I : Addr) (s : Shared) (Fin : Array Value → Shared → Prop) : Prop :=
  ∀ (h1 : Heap) (t1 : Nat) (R : Result → Shared → Prop), (∀ b o, s.heap.get? b = some o → h1.get? b = some o) → (∃ c, h1.get? s.heap.objs.size = some { cls := .type "list", data := .seq #[] c }) →
    (∀ s' acc c, Fin acc s' → s'.heap.get? s.heap.objs.size = some { cls := .type "list", data := .seq acc c } → R (.ok (.ret (.ref s.heap.objs.size))) s') →
    codeAny (model prog w) A (.builtin "list.extend.loop" ⟨[.ref s.heap.objs.size, .ref I, .ref s.heap.objs.size], []⟩) R { s with heap := h1 }
theorem collect_g {Q : List Value → Shared → Prop} {gn : Nat} (hg : s.heap.IsGen I gn) (hl : LoopOk prog w A I s Fin) (hQ : ∀ s' acc, Fin acc s' → Q acc.toList s') : wpAny (model prog w) A (collect (.ref I)) Q E s := by
  obtain ⟨oa, _, _, hoa, _⟩ := id hg
  have hSI : s.heap.objs.size ≠ I := Nat.ne_of_gt (Heap.lt_size hoa)
  have gty : ∀ {h : Heap}, (∀ b o, s.heap.get? b = some o → h.get? b = some o) → h.IsGen I gn := fun {h} q => hg.keeps q
  unfold collect
  refine wpAny_bind (wpAny_runValue (codeAny_builtin F.entry_proto_collect ?_))
  rw [Around.under_plainId F.plain_proto_collect _]
  show wpAny _ A.in1 (newList [] >>= fun l => again (.builtin "list.__iadd__" ⟨[l, .ref I], []⟩)) _ _ s
  refine wpAny_bind (wpAny_newObj_type ?_ (by show 0 ≤ sizeLine; decide))
  refine wpAny_pure ⟨plainId_quiet F.plain_list_iadd _, codeAny_builtin F.entry_list_iadd ?_⟩
  rw [Around.under_plainId F.plain_list_iadd _]
  show wpAny _ A.in1 (Builtin.List.listExtendWith (.ref s.heap.objs.size) (.ref I) (.ref s.heap.objs.size)) _ _ _
  have k1 : ∀ b o, s.heap.get? b = some o → (s.heap.push { cls := .type "list", data := .seq ([] : List Value).toArray }).get? b = some o := fun b o e => Heap.get?_push_of_some _ e
  unfold Builtin.List.listExtendWith
  refine wpAny_bind (wpAny_typeOf (Heap.IsGen.typeIs (s := { s with heap := _ }) (gty k1)) ?_)
  have h1 : Builtin.List.listSameRef (.ref s.heap.objs.size) (.ref I) = false := by simp [Builtin.List.listSameRef, hSI]
  have h2 : (Value.type "generator" == Value.type "list") = false := by decide
  have h3 : (Value.type "generator" == Value.type "tuple") = false := by decide
  simp only [h1, h2, h3, Bool.or_false, Bool.false_eq_true, if_false]
  refine wpAny_bind (wpAny_pyIter_gen (s := { s with heap := _ }) (gty k1) ?_)
  refine wpAny_bind (wpAny_holding ?_)
  unfold Builtin.List.listLengthHint
  refine wpAny_bind (wpAny_specialOf (Heap.IsGen.typeIs (s := { s with heap := _ }) (gty k1)) F.gen_no_len ?_)
  show wpAny _ A.in1 (specialOf (Value.ref I) (Str.ofString "__length_hint__") >>= _) _ _ _
  refine wpAny_bind (wpAny_specialOf (Heap.IsGen.typeIs (s := { s with heap := _ }) (gty k1)) F.gen_no_hint ?_)
  refine wpAny_pure ?_
  show wpAny _ A.in1 (rule "list.extend.makes-room" >>= fun _ => Builtin.List.listTouch (.ref s.heap.objs.size) >>= fun _ =>
    again (.builtin "list.extend.loop" ⟨[.ref s.heap.objs.size, .ref I, .ref s.heap.objs.size], []⟩)) _ _ _
  refine wpAny_bind (wpAny_rule ?_)
  have hS₁ : (s.heap.push { cls := .type "list", data := .seq ([] : List Value).toArray }).get? s.heap.objs.size = some { cls := .type "list", data := .seq ([] : List Value).toArray } := Heap.get?_push_size _ rfl
  refine wpAny_bind ?_
  show wpAny _ A.in1 (updateSeq s.heap.objs.size (·.push .none) >>= fun _ => updateSeq s.heap.objs.size (·.pop)) _ _ _
  refine wpAny_bind (wpAny_updateSeq hS₁ rfl ?_)
  have hS₂ := Heap.get?_update_self (Obj.mapSeq (·.push Value.none)) hS₁ rfl
  refine wpAny_updateSeq (hz := by seq_fits) hS₂ rfl ?_
  have hS₃ := Heap.get?_update_self (Obj.mapSeq (·.pop)) hS₂ rfl
  have oth : ∀ b o, s.heap.get? b = some o →
      (((s.heap.push { cls := .type "list", data := .seq ([] : List Value).toArray }).update s.heap.objs.size (Obj.mapSeq (·.push Value.none))).update s.heap.objs.size (Obj.mapSeq (·.pop))).get? b = some o :=
    fun b o e => have hb := Nat.ne_of_lt (Heap.lt_size e); (Heap.get?_update_other _ _ (Ne.symm hb)).trans ((Heap.get?_update_other _ _ (Ne.symm hb)).trans (k1 b o e))
  refine wpAny_pure ⟨plainId_quiet F.plain_extend_loop _, hl _ s.toks _ oth ⟨_, hS₃⟩ fun s' acc c hm hS' => ?_⟩
  show wpAny _ A (load s.heap.objs.size >>= _) _ _ s'
  refine wpAny_bind (wpAny_load hS' ?_)
  exact wpAny_pure (hQ s' acc hm)
theorem code_tuple_g {Q₁ : Value → Shared → Prop} {gn : Nat} (hg : s.heap.IsGen I gn) (hl : LoopOk prog w A.in1 I s Fin) (hsz : ∀ s' acc, Fin acc s' → acc.size ≤ sizeLine)
    (h : ∀ s' acc, Fin acc s' → Q₁ (.ref s'.heap.objs.size) { s' with heap := s'.heap.push { cls := .type "tuple", data := .seq acc } }) :
    codeAny (model prog w) A (.call (.builtin "tuple.__new__") ⟨[.type "tuple", .ref I], []⟩) (wants Q₁ E) s := by
  refine codeAny_of_tree ?_
  show wpAny _ A.in1 (do checkBuiltinCall "tuple.__new__" ⟨[.type "tuple", .ref I], []⟩; again (.builtin "tuple.__new__" ⟨[.type "tuple", .ref I], []⟩)) _ _ s
  refine wpAny_bind (wpAny_of_eq (F.newCall_tuple_1 _) (wpAny_pure ⟨plainId_quiet F.plain_tuple_new _, codeAny_builtin F.entry_tuple_new ?_⟩))
  rw [Around.under_plainId F.plain_tuple_new _]
  have hsub := sub_tuple_self
  have hinit := init_tuple_lookup
  have hmh := madeHere_tuple
  have hTI := hg.typeIs (s := s)
  wp_walk using wpAny_typeOf hTI, collect_g (Fin := Fin) hg hl
  intro s' acc hacc
  show wpAny _ _ (Builtin.Tuple.tupleExact acc.toList.toArray >>= fun v => ret v) _ _ _
  unfold Builtin.Tuple.tupleExact
  refine wpAny_bind (wpAny_newObj_type ?_ (by show acc.toList.toArray.size ≤ sizeLine; simp only [Array.toArray_toList]; exact hsz _ _ hacc))
  refine wpAny_pure ?_
  have e : acc.toList.toArray = acc := by simp
  rw [e]
  exact h s' acc hacc
theorem call_tuple_g {Q : Value → Shared → Prop} {gn : Nat} (hg : s.heap.IsGen I gn) (hl : LoopOk prog w A.in1.in1 I s Fin) (hsz : ∀ s' acc, Fin acc s' → acc.size ≤ sizeLine)
    (hQ : ∀ s' acc, Fin acc s' → Q (.ref s'.heap.objs.size) { s' with heap := s'.heap.push { cls := .type "tuple", data := .seq acc } }) :
    wpAny (model prog w) A (call (.type "tuple") [.ref I]) Q E s := by
  refine callType_codes (Q₁ := fun obj s₁ => s₁.TypeIs obj "tuple" ∧ Q obj s₁) F.called_tuple (F.typeCall_tuple_1 _) F.entry_object_init
    (code_tuple_g hg hl hsz fun s' acc hacc => ⟨⟨_, Heap.get?_push_size _ rfl, rfl⟩, hQ s' acc hacc⟩) fun obj s₁ h₁ => ?_
  exact ⟨h₁.1, F.args_object_init_2 obj _, object_init_meets F.called_tuple.init.lookup F.called_tuple.made (by decide) prog w A.in1 _ s₁ ⟨h₁.1, rfl, h₁.2⟩⟩
end
section
variable {X : Cx} {k : Nat} {c P : Addr} {elt tg iter : Expr} {scope : Scope} {own : List (Str × Nat)} {pos gpos p : Pos} {wi : TI} {g : TG} {te : TE}
/-- tuple(e for target in iter): W by the turn, a measure and the values so far -/
def tTupG (P : Addr) (wi : TI) (g : TG) (te : TE) (vs : List Nat) : TE := fun σ H Q => wi σ H fun J H1 => TabG H1 P ∧ ∀ H2, Tabbed P H1 H2 → ∃ W : Nat → Nat → List V → Hp → Prop, (∃ m, W 0 m [] H2) ∧
  Wx J g te vs (wipe σ vs) W fun acc H' => ∀ q, H' q = none → Q (.ref q) (upd H' q (.tup acc))
theorem pe_tupG (hr : Room (k + 1) X.A) (TB : TabB X.base X.mg c P) (hcode : X.env.code = .ref c) (hN : X.N.Nodup) (hi : PI X tg iter wi) (ok : BlkOk X.N X.env.scope scope own) (hcell : ∀ y ∈ scope.names, y.2 ≠ .cell)
    (h0 : scope.names.lookup (".0" : Str) = some NameKind.local) (hco : scope.isCoroutine = false)
    (hg : ∀ (A' : Around) (s : Shared) (H : Hp) (C : Addr) (code : Value) (cl : List (Str × Addr)) (fp : List Addr), PG (gx X A' s H (genEnv scope cl C code builtinsNs X.env) fp) tg g)
    (he : ∀ (A' : Around) (s : Shared) (H : Hp) (C : Addr) (code : Value) (cl : List (Str × Addr)) (fp : List Addr), Room k A' → PE (gx X A' s H (genEnv scope cl C code builtinsNs X.env) fp) elt te)
    (hgl : Gl X "tuple") (hml : X.mg "tuple" = none)
    (hs : ∀ x, genFold iter X.env x = pure x := by intro _; rfl)
    (hst : starEach [.GeneratorExp elt [⟨tg, iter, [], 0⟩] scope gpos] X.env = (false, eval (.GeneratorExp elt [⟨tg, iter, [], 0⟩] scope gpos) X.env) :: starEach [] X.env := by rfl) :
    PE X (.Call (.Name "tuple" p) [.GeneratorExp elt [⟨tg, iter, [], 0⟩] scope gpos] [] pos) (tTupG P wi g te (own.map (·.2))) := by
  refine ⟨fun pins s σ H Q I h => ?_⟩
  refine wpAny_Call_Name_kw (ld_blt I hgl hml (by decide +kernel : bootBuiltins "tuple" = some (.type "tuple")) ?_)
  refine PyProof.Rows.callWith_type1 ?_ hst rfl
  rw [hst]
  show wpAny _ _ (spliced ((false, eval (.GeneratorExp elt [⟨tg, iter, [], 0⟩] scope gpos) X.env) :: backTo pos (starEach [] X.env))) _ _ s
  have hfree : ∀ y ∈ scope.names, y.2 = .free → ∃ c, X.env.cells.lookup y.1 = some c := fun y hy e => by
    rcases ok.free y hy e with k | k
    · exact I.ok.has _ (.inl k)
    · exact I.ok.has _ (.inr k)
  -- the generator is made
  have mk : wpAny (model X.prog X.w) X.A (eval (.GeneratorExp elt [⟨tg, iter, [], 0⟩] scope gpos) X.env) (fun v s6 => ∃ (it : Addr) (fp : List Addr) (tn : Nat → Heap → Prop) (J : It) (H2 : Hp) (s4 : Shared) (code : Value) (a gn : Nat), v = .ref a ∧
      Inv X pins σ H2 s4 ∧ Turn X.prog X.w X.K tg J fp it tn ∧ tn 0 s6.heap ∧ (∀ b ∈ fp, FpOk X pins H2 b ∧ b < s4.heap.objs.size) ∧ (∃ W : Nat → Nat → List V → Hp → Prop, (∃ m, W 0 m [] H2) ∧ Wx J g te (own.map (·.2)) (wipe σ (own.map (·.2))) W fun acc H' => ∀ q, H' q = none → Q (.ref q) (upd H' q (.tup acc))) ∧
      (∀ b o, s4.heap.get? b = some o → s6.heap.get? b = some o) ∧ s6.os = s4.os ∧ AllBare s6.gens ∧ (∃ m, s6.heap.Ns s4.heap.objs.size m) ∧ s6.heap.IsGen a gn ∧ s4.heap.objs.size < a ∧
      s6.gens[gn]? = some (.fresh (cS elt tg iter scope gpos it (genEnv scope (cloFrom X.env.cells scope.names []) s4.heap.objs.size code builtinsNs X.env)))) X.xe s := by
    refine wpAny_GeneratorExp_make hco (closure_ok hfree) hcell h0 ok.kind (by have := hr.dp; omega) ?_ hs
    refine thn (hi.run pins s σ H _ I h) fun xv s1 hx => thn hx fun itv s2 h2 => ?_
    obtain ⟨it, fp, tn, J, H1, rfl, I1, T, st, f1, ⟨ps, hP, ht⟩, q⟩ := h2
    have hPs : s2.heap.get? P = some { cls := .none, data := .fields ps } := I1.hok P _ hP
    have cd : PySem.W.CodeHd s2.heap c P := TB.code.keeps fun b u e => I1.bk b u e
    have nPfp : P ∉ fp := fun z => by
      have := (f1 P z).1
      rw [hP] at this; cases this
    have cont : ∀ (code : Value) (h3 : Heap) (tk : Nat) (more : Array Value), Heap.ExtBut P s2.heap h3 → s2.heap.objs.size ≤ h3.objs.size → h3.get? P = some { cls := .none, data := .fields (ps ++ more) } → TriplesOk (ps ++ more).toList →
        wpAny (model X.prog X.w) X.A (builtinsFor X.env.globals X.env.builtins) (fun bi s₄ =>
          ∀ h', h'.Ns s₄.heap.objs.size (fun y => if y = ".0" then some (Value.ref it) else none) → Heap.SameBut s₄.heap.objs.size (s₄.heap.push { cls := .type "frame", data := .dict #[] }) h' →
            ∃ (it1 : Addr) (fp : List Addr) (tn : Nat → Heap → Prop) (J : It) (H2 : Hp) (s4 : Shared) (code' : Value) (a gn : Nat), Value.ref h'.objs.size = .ref a ∧
      Inv X pins σ H2 s4 ∧ Turn X.prog X.w X.K tg J fp it1 tn ∧ tn 0 (h'.push { cls := .type "generator", data := .fields #[.int s₄.gens.size 0, .str "<genexpr>" (s₄.toks + 1), .str (X.env.qual ++ "<genexpr>") (s₄.toks + 1 + 1)] }) ∧ (∀ b ∈ fp, FpOk X pins H2 b ∧ b < s4.heap.objs.size) ∧ (∃ W : Nat → Nat → List V → Hp → Prop, (∃ m, W 0 m [] H2) ∧ Wx J g te (own.map (·.2)) (wipe σ (own.map (·.2))) W fun acc H' => ∀ q, H' q = none → Q (.ref q) (upd H' q (.tup acc))) ∧
      (∀ b o, s4.heap.get? b = some o → (h'.push { cls := .type "generator", data := .fields #[.int s₄.gens.size 0, .str "<genexpr>" (s₄.toks + 1), .str (X.env.qual ++ "<genexpr>") (s₄.toks + 1 + 1)] }).get? b = some o) ∧ s₄.os = s4.os ∧ AllBare (s₄.gens.push (.fresh (cS elt tg iter scope gpos it (genEnv scope (cloFrom X.env.cells scope.names []) s₄.heap.objs.size code bi X.env)))) ∧
      (∃ m, (h'.push { cls := .type "generator", data := .fields #[.int s₄.gens.size 0, .str "<genexpr>" (s₄.toks + 1), .str (X.env.qual ++ "<genexpr>") (s₄.toks + 1 + 1)] }).Ns s4.heap.objs.size m) ∧ (h'.push { cls := .type "generator", data := .fields #[.int s₄.gens.size 0, .str "<genexpr>" (s₄.toks + 1), .str (X.env.qual ++ "<genexpr>") (s₄.toks + 1 + 1)] }).IsGen a gn ∧ s4.heap.objs.size < a ∧
      (s₄.gens.push (.fresh (cS elt tg iter scope gpos it (genEnv scope (cloFrom X.env.cells scope.names []) s₄.heap.objs.size code bi X.env))))[gn]? = some (.fresh (cS elt tg iter scope gpos it1 (genEnv scope (cloFrom X.env.cells scope.names []) s4.heap.objs.size code' builtinsNs X.env)))) X.xe { s2 with heap := h3, toks := tk } := by
      intro code h3 tk more hx hsz hP3 ht3
      obtain ⟨bm, ob, e1, e2, e3, e4, e5, e6, e7, e8⟩ := TB.bm
      have keep3 : ∀ b u, b ≠ P → s2.heap.get? b = some u → h3.get? b = some u := fun b u hb e => hx b u hb e
      refine wpAny_builtinsFor (m := X.mg) (by rw [I1.ok.glob]; exact (I1.mod.glob.keeps I1.bk).extBut hx TB.gP) e1 e2 (keep3 _ _ e4 (I1.bk _ _ e5)) e6 e7 e8 ?_
      intro h' hn' hs'
      have I2 := inv_tab (more := more) (h' := h3) (g' := s2.gens) (d' := s2.drawn) (t' := tk) I1 hP (fun b o hb e => keep3 b o hb e) hP3 I1.bare
      have keep4 : ∀ b o, h3.get? b = some o → h'.get? b = some o := fun b o e => hs'.extBut b o (Nat.ne_of_lt (Heap.lt_size e)) (Heap.get?_push_of_some _ e)
      have hsz' : h'.objs.size = h3.objs.size + 1 := by rw [hs'.1, Heap.size_push]
      have q2 := q (upd H1 P (.tbl (ps ++ more))) ⟨⟨ps ++ more, upd_same, ht3⟩, fun b hb => upd_ne hb⟩
      refine ⟨it, fp, tn, J, _, _, code, h'.objs.size, s2.gens.size, rfl, I2, T, ?_, fun b hb => ?_, q2, fun b o e => Heap.get?_push_of_some _ (keep4 b o e), rfl, AllBare.push I1.bare rfl, ⟨_, hn'.push _⟩, ⟨_, _, _, Heap.get?_push_size _ rfl, rfl, rfl, rfl⟩, ?_, Array.getElem?_push_size ..⟩
      · refine T.keep _ _ _ st fun b hb o e => Heap.get?_push_of_some _ (keep4 b o (keep3 b o (fun z => nPfp (by rw [← z]; exact hb)) e))
      · obtain ⟨f0, fr⟩ := f1 b hb
        obtain ⟨o, e, _⟩ := T.obj _ _ st b hb
        refine ⟨⟨?_, fr⟩, Heap.lt_size (keep3 b o (fun z => nPfp (by rw [← z]; exact hb)) e)⟩
        rw [upd_ne (fun z => nPfp (by rw [← z]; exact hb))]
        exact f0
      · show h3.objs.size < h'.objs.size
        omega
    refine ⟨I1.nolimit, ?_⟩
    cases hf : codeAmong gpos ps.toList with
    | none =>
      refine wpAny_genexprCodeX hcode (cd.code hPs ht) (cd.tab hPs) hf fun c' h' tk hx hge hlt hco' _ htab' _ => ?_
      obtain ⟨o1, vs, f1, tf, fl, tg, inF, tx, tt, op, _, _, _, _, _, _, _, _, _, htr, _⟩ := hco'
      exact cont _ h' tk _ hx (Nat.le_trans hge (Nat.le_of_lt hlt)) htab'.2 htr
    | some cv =>
      refine wpAny_genexprCode_hit hcode (cd.code hPs ht) hf ?_
      have := cont cv s2.heap s2.toks #[] (Heap.ExtBut.refl _ _) (Nat.le_refl _) (by rw [Array.append_empty]; exact hPs) (by rw [Array.append_empty]; exact ht)
      exact this
  refine Calls.spliced_cons (thn mk fun v s6 hv => ?_)
  obtain ⟨it, fp, tn, J, H2, s4, code, a, gn, rfl, I4, T, st6, f4, ⟨W, ⟨m0, w0⟩, wx⟩, k6, os6, b6, ns6, gen6, ha6, gs6⟩ := hv
  refine Calls.spliced_nil ?_
  generalize hce : genEnv scope (cloFrom X.env.cells scope.names []) s4.heap.objs.size code builtinsNs X.env = ce at gs6
  have hceL : ce.locals = s4.heap.objs.size := by rw [← hce]; rfl
  have hAf : (X.A.in1.in1.in1.in1.deeper ce).frames = some (ce :: X.stack) := Around.frames_deeper (env := ce) I4.ok.frames
  have IG : Inv (gx X (X.A.in1.in1.in1.in1.deeper ce) s4 H2 ce fp) [] (wipe σ (own.map (·.2))) H2 s6 := by
    rw [← hce]
    exact gen_start I4 ok hcell hN f4 hr.hd (by rw [hce]; exact hAf) k6 os6 b6 ns6
  have hroom : Room k (X.A.in1.in1.in1.in1.deeper ce) := ⟨hr.hd, by have := hr.dp; show X.A.depth + 1 + 3 * k + 5 < _; omega, by have := hr.un; show X.A.units + 1 + 1 + 1 + 1 + 3 + 16 * k + 200 < _; omega⟩
  have pg := hg (X.A.in1.in1.in1.in1.deeper ce) s4 H2 s4.heap.objs.size code (cloFrom X.env.cells scope.names []) fp
  have pe := he (X.A.in1.in1.in1.in1.deeper ce) s4 H2 s4.heap.objs.size code (cloFrom X.env.cells scope.names []) fp hroom
  rw [hce] at pg pe
  have cell4 : ∀ x c, ce.cells.lookup x = some c → c < s4.heap.objs.size := fun x c e => by
    rw [← hce] at e
    rcases cloFrom_mem (PySem.mem_of_lookup (show (cloFrom X.env.cells scope.names []).lookup x = some c from e)) with hm | ⟨h1, rfl⟩
    · cases hm
    · obtain ⟨c, hc⟩ := hfree _ h1 rfl
      rw [hc]
      obtain ⟨w, z⟩ := I4.cell _ _ hc
      exact z.lt
  have fs4 : ∀ b, s4.heap.objs.size ≤ b → b ∉ frs X.stack := fun b hb z => by
    obtain ⟨_, o, ho, _⟩ := I4.stack.mem z
    exact absurd (Nat.lt_of_lt_of_le (Heap.lt_size ho) hb) (Nat.lt_irrefl _)
  have apart : ∀ b, s4.heap.objs.size < b → Apart (gx X (X.A.in1.in1.in1.in1.deeper ce) s4 H2 ce fp) fp b := fun b hb =>
    ⟨by show b ≠ ce.locals; rw [hceL]; exact Nat.ne_of_gt hb, fs4 b (Nat.le_of_lt hb), Nat.le_of_lt hb, fun x c e => Nat.ne_of_lt (Nat.lt_trans (cell4 x c e) hb), fun z => absurd (Nat.lt_trans hb (f4 b z).2) (Nat.lt_irrefl _)⟩
  obtain ⟨oa, nm, qn, hoa, ra⟩ := id gen6
  have aS : a < s6.heap.objs.size := Heap.lt_size hoa
  have ha2 : H2 a = none := I4.hok.fresh (Nat.le_of_lt ha6)
  have hS2 : H2 s6.heap.objs.size = none := I4.hok.fresh (Nat.le_of_lt (Nat.lt_trans ha6 aS))
  refine call_tuple_g (Fin := fun acc s' => ∃ vs H', Vals vs acc.toList ∧ vs.length ≤ sizeLine ∧ Inv X pins σ H' s' ∧ ∀ q, H' q = none → Q (.ref q) (upd H' q (.tup vs))) gen6 ?_ ?_ ?_
  · intro h1 t1 R kh ⟨cS, hS⟩ hR
    refine drain (iter := iter) (scope := scope) (pos := gpos) (GX := gx X (X.A.in1.in1.in1.in1.deeper ce) s4 H2 ce fp) (A0 := X.A.in1.in1) (W := W) (Fin := fun acc H' => ∀ q, H' q = none → Q (.ref q) (upd H' q (.tup acc))) (vs := own.map (·.2)) over_cL (by show ce.scope.isCoroutine = false; rw [← hce]; exact hco) rfl rfl rfl hr.hd (by have := hr.dp; show X.A.depth < _; omega) pg pe T (apart a ha6) (apart _ (Nat.lt_trans ha6 aS)) (Nat.ne_of_lt aS) wx ?_ m0 0 H2 [] [] _
      ⟨IG.kept (t' := s6.toks) kh, T.keep _ _ _ st6 fun b _ o e => kh b o e, fun b hb => ?_, ⟨ha2, hS2⟩, gen6.keeps kh, ⟨_, gs6, fun Φ s' st' loop => ?_⟩, cS, hS⟩ .nil w0
    · intro s' H' acc us cc I' rv hz fin e
      have I7 : Inv X pins σ H' s' := I4.call' (ch := fp) I'.os I'.base I'.hok I'.bare fun b hb => ⟨(f4 b hb).1.2.2.2.1, (f4 b hb).1.2.1, (f4 b hb).1.2.2.2.2.1, (f4 b hb).1.2.2.2.2.2⟩
      exact hR s' us.toArray cc ⟨acc, H', by simpa using rv, hz, I7, fin⟩ e
    · obtain ⟨⟨f0, f1, f2, f3, f4', f5⟩, hlt⟩ := f4 b hb
      refine ⟨f0, ?_, ?_, .inl hb, fun x c e => ?_, fun p hp => absurd (show p ∈ ([] : List (Addr × Obj)) ++ [] from hp) (by simp)⟩
      · exact (IG.ok.exf b hb).1
      · exact IG.ok.exfs b hb
      · exact (IG.ok.exf b hb).2 x c e
    · exact sg_start T st' loop
  · rintro s' acc ⟨vs, H', rv, hz, _⟩
    have := rv.length
    have e2 : acc.toList.length = acc.size := Array.length_toList
    omega
  · rintro s' acc ⟨vs, H', rv, hz, I7, fin⟩
    refine ⟨.ref s'.heap.objs.size, upd H' s'.heap.objs.size (.tup vs), ?_, rfl, fin _ (I7.hok.fresh (Nat.le_refl _))⟩
    refine I7.laid (t' := s'.toks) (fun b o e => Heap.get?_push_of_some _ e) (Nat.le_refl _) ⟨hz, acc.toList, rv, ?_⟩
    exact ⟨_, Heap.get?_push_size _ rfl, rfl, 0, by simp⟩
end
end Tg

namespace Tg
open PySem PySem.Spec PyProof.Rows L2 Z GxR LamX
/-- all but the tables of code objects is kept -/
structure SameX (H H' : Hp) : Prop where
  keep : ∀ b x, (∀ ps, x ≠ .tbl ps) → H b = some x → H' b = some x
  tab : ∀ P, TabG H P → TabG H' P
section
variable {K : PySem.W.Frag} {H H' H'' : Hp}
theorem SameX.of (s : Same H H') : SameX H H' := ⟨fun b x _ h => s b x h, fun P ⟨ps, h, t⟩ => ⟨ps, s _ _ h, t⟩⟩
theorem SameX.refl : SameX H H := ⟨fun _ _ _ h => h, fun _ h => h⟩
theorem SameX.trans (a : SameX H H') (b : SameX H' H'') : SameX H H'' := ⟨fun c x n h => b.keep c x n (a.keep c x n h), fun P h => b.tab P (a.tab P h)⟩
theorem SameX.th (a : SameX H H') (b : Same H' H'') : SameX H H'' := a.trans (.of b)
theorem SameX.ofTab {P : Addr} (t : Tabbed P H H') (h : TabG H P) : SameX H H' := by
  obtain ⟨t1, t2⟩ := t
  refine ⟨fun b x n e => ?_, fun R q => ?_⟩
  · by_cases hb : b = P
    · obtain ⟨ps, hP, _⟩ := h
      rw [hb, hP] at e
      cases e
      exact absurd rfl (n ps)
    · rw [t2 b hb]; exact e
  · by_cases hb : R = P
    · rw [hb]; exact t1
    · obtain ⟨ps, hR, z⟩ := q
      exact ⟨ps, by rw [t2 R hb]; exact hR, z⟩
theorem SameX.lst {a : Addr} {xs : List V} (s : SameX H H') (h : H a = some (.lst xs)) : H' a = some (.lst xs) := s.keep _ _ (fun _ z => by cases z) h
theorem SameX.tup {a : Addr} {xs : List V} (s : SameX H H') (h : H a = some (.tup xs)) : H' a = some (.tup xs) := s.keep _ _ (fun _ z => by cases z) h
theorem SameX.seqT {a : Addr} {xs : List V} (s : SameX H H') (h : SqT K H a xs) : SqT K H' a xs := by
  rcases h with (h | ⟨o, h⟩) | h
  · exact .inl (.inl (s.tup h))
  · exact .inl (.inr ⟨o, s.keep _ _ (fun _ z => by cases z) h⟩)
  · exact .inr h
theorem SameX.seqL {a : Addr} {xs : List V} (s : SameX H H') (h : SqL K H a xs) : SqL K H' a xs := by
  rcases h with (h | ⟨o, h⟩) | h
  · exact .inl (.inl (s.lst h))
  · exact .inl (.inr ⟨o, s.keep _ _ (fun _ z => by cases z) h⟩)
  · exact .inr h
mutual
theorem SameX.dp (s : SameX H H') : ∀ {d : PyData} {v : V}, Dp K H v d → Dp K H' v d
  | _, _, .non => .non
  | _, _, .bl b => .bl b
  | _, _, .int i => .int i
  | _, _, .str x => .str x
  | _, _, .lst h a => .lst (s.seqL h) (SameX.dpA s a)
  | _, _, .tup h a => .tup (s.seqT h) (SameX.dpA s a)
theorem SameX.dpA (s : SameX H H') : ∀ {ds : List PyData} {vs : List V}, DpAll K H vs ds → DpAll K H' vs ds
  | _, _, .nil => .nil
  | _, _, .cons h a => .cons (SameX.dp s h) (SameX.dpA s a)
end
theorem dpA_app : ∀ {vs ws : List V} {ds es : List PyData}, DpAll K H vs ds → DpAll K H ws es → DpAll K H (vs ++ ws) (ds ++ es)
  | _, _, _, _, .nil, k => k
  | _, _, _, _, .cons h a, k => .cons h (dpA_app a k)
end
section
variable {K : PySem.W.Frag} {H : Hp} {Q : VK} {σ : L2.St} {wi : TI} {J : It} {m : Nat} {G : Hp → Prop} {Y : Nat → Hp → V → Hp → Prop} {g : TG} {te : TE} {P : Addr} {vs : List Nat}
theorem z_tupG (w : Walk J m G Y) (hm : m ≤ 1000) (hi : ∀ R : It → Hp → Prop, R J H → wi σ H R) (hP : TabG H P) (Pv : Nat → List V → Hp → Prop) (h0 : ∀ H', SameX H H' → Pv 0 [] H') (hG : ∀ i acc H', Pv i acc H' → G H')
    (hs : ∀ i x acc H' H2, i < m → acc.length = i → Pv i acc H' → Y i H' x H2 → g x (wipe σ vs) H2 fun σ2 H3 => wipe σ2 vs = wipe σ vs ∧ te σ2 H3 fun y H4 => Pv (i + 1) (acc ++ [y]) H4)
    (hd : ∀ acc H' p H'', acc.length = m → Pv m acc H' → H' p = none → Same H' H'' → H'' p = some (.tup acc) → Q (.ref p) H'') : tTupG P wi g te vs σ H Q := by
  refine hi _ ⟨hP, fun H2 t => ⟨fun i n acc H' => n = m - i ∧ i ≤ m ∧ acc.length = i ∧ Pv i acc H', ⟨m, by simp, Nat.zero_le _, rfl, h0 _ (.ofTab t hP)⟩, ?_⟩⟩
  rintro i n acc H' ⟨rfl, hi', hl, p⟩
  have q := hG i acc H' p
  have h1000 : (1000 : Nat) < sizeLine := by decide
  by_cases hlt : i < m
  · refine .inr ⟨w.goes i H' hlt q, by omega, fun y H4 => Pv (i + 1) (acc ++ [y]) H4, fun y H4 p4 => ⟨m - (i + 1), by omega, rfl, hlt, by rw [List.length_append, hl]; rfl, p4⟩, fun x H2 y => hs i x acc H' H2 hlt hl p (w.yields i H' x H2 hlt q y)⟩
  · have e : i = m := by omega
    subst e
    exact .inl ⟨w.stops H' q, by omega, fun p' hp => hd acc H' p' _ hl p hp (same_upd hp) upd_same⟩
/-- .. whose elements are data -/
theorem z_tupD (ds : List PyData) (w : Walk J m G Y) (hl : ds.length = m) (hm : m ≤ 1000) (hi : ∀ R : It → Hp → Prop, R J H → wi σ H R) (hP : TabG H P) (hG : ∀ H', SameX H H' → G H')
    (hs : ∀ i x d H' H2 (R : VK), ds[i]? = some d → i < m → SameX H H' → Y i H' x H2 → (∀ v H3, SameX H' H3 → Dp K H3 v d → R v H3) → g x (wipe σ vs) H2 fun σ2 H3 => wipe σ2 vs = wipe σ vs ∧ te σ2 H3 R)
    (hd : ∀ acc p H', SameX H H' → acc.length = m → H' p = some (.tup acc) → DpAll K H' acc ds → Q (.ref p) H') : tTupG P wi g te vs σ H Q := by
  refine z_tupG w hm hi hP (fun i acc H' => SameX H H' ∧ DpAll K H' acc (ds.take i)) (fun H' s => ⟨s, .nil⟩) (fun i acc H' h => hG _ h.1) (fun i x acc H' H2 hi' hl' ⟨s, a⟩ y => ?_) fun acc H' p H'' hl' ⟨s, a⟩ hp s2 e => ?_
  · have hw : ds[i]? = some ds[i] := List.getElem?_eq_getElem (by omega)
    refine hs i x ds[i] H' H2 _ hw hi' s y fun v H3 s3 dv => ⟨s.trans s3, ?_⟩
    rw [List.take_add_one, hw]
    exact dpA_app (s3.dpA a) (.cons dv .nil)
  · rw [← hl, List.take_length] at a
    exact hd acc p H'' (s.th s2) hl' e (SameX.dpA (.of s2) a)
end
/-! ### defs with a generator expression; the end of a law with tables -/
section
variable {P : Program} {w : World} {K : PySem.W.Frag} {mg : Str → Option Value} {base : Heap}
theorem _root_.L2.Fun.okC {x qual : Str} {st : Stmt} {f c : Addr} {fd : FuncData} {N ps : List Str} {k : Nat} {sp : Sp} (F : Fun K x qual st f fd) (hc : fd.code = .ref c) (S : FnScope N ps (defScope st)) (len : ∀ vs H Q E, sp vs H Q E → vs.length = ps.length)
    (hbody : ∀ (A : Around) (outer : List Env) (s : Shared) (H : Hp) (vs : List V) (Q : VK) (E : XK), Room k (A.deeper (envOfC qual (defScope st) s.heap.objs.size f (.ref c))) → sp vs H Q E →
      ∃ t, PSs (cxOf (L2.CX P w) P w K mg base N qual (defScope st) f (.ref c) A outer s H E) (defBody st) t ∧ t { nx := fun _ H' => Q .non H', rt := Q } (start N vs) H) : FnOk P w K mg base (L2.CX P w) (k + 1) f fd ps sp := by
  obtain ⟨oc, od, kV, doc, pm, an, cdv, ct, osl, rfl, lk, hcd⟩ := F.ex
  obtain rfl : cdv = .ref c := hc
  exact fn_of lk hcd S len fun A outer s H vs Q E hr hsp => hbody A outer s H vs Q E hr hsp
end
/-- the tables of the module's defs stand empty -/
def TabAll (q : Program) (K : PySem.W.Frag) (mg : Str → Option Value) (h : Heap) : Prop := ∀ (x : Str) (fa c P : Addr) (o : Obj) (fd : FuncData) (e : Value) (dd : Option Addr) (vs : Array Value) (sl : Array (Option Value)), ((recsOf q).any fun e => e.name == x) = true → mg x = some (.ref fa) →
  K.lookup fa = some o → o.data = .func fd → fd.code = .ref c → K.lookup c = some ⟨e, dd, .fields vs, sl⟩ → vs[11]? = some (.ref P) → h.get? P = some { cls := .none, data := .fields #[] } ∧ PySem.W.CodeHd h c P
theorem walk_tabs {l : PySem.W.OpenLaw} {n k : Nat} {q : Program} {loose : List Str} {XP : (Str → Option Value) → Heap → Prop} {YP : World → Heap → Prop} {d : DefRec} {K : Params → PySem.W.Frag} {CX : World → CXT} {x : Str}
    (hn : l.most = some n) (hn2 : n ≤ sizeLine) (hdf : d.params.defaults = []) (hr : Room k callerA) (hY : ∀ (w : World) (h : Heap), YP w h → (K w.params).In h)
    (F : ∀ (w : World) (mg : Str → Option Value) (fa : Addr) (h : Heap), (K w.params).In h → h.Ns mainGlobals mg → mg d.name = some (.ref fa) → TabAll q (K w.params) mg h → LawAtS l w (K w.params) (CX w) k n x mg fa h)
    (hCX : ∀ (w : World) (H : Hp) (s : Shared) (e : Value) (s' : Shared), CX w [] H s (fun _ _ _ => False) e s' → False) :
    PySem.W.WalkO q loose XP YP l.row.toRowW d [] (fun f vs => PySem.call f vs) := by
  refine Att.attach_callB hn hdf fun w s₀ s₁ mg mb fa o pm cd doc a vs ns G Y ho hd hcd hmg hobj hints hlen hbits hg => ?_
  have KX := hY w _ Y
  have own : TabAll q (K w.params) mg s₁.heap := fun y fb c P o1 fd1 e dd vs1 sl k0 kg k1 k2 k3 k4 k5 => by
    obtain ⟨dL, hm, hn1⟩ := List.any_eq_true.mp k0
    have hn2 : dL.name = y := beq_iff_eq.mp hn1
    obtain ⟨a', o', fd', c', P', h1, h2, h3, h4, h5, h6⟩ := G.T.tab dL hm
    rw [hn2, kg] at h1
    cases h1
    have g1 := KX _ _ k1
    rw [g1] at h2
    cases h2
    rw [k2] at h3
    cases h3
    rw [k3] at h4
    cases h4
    have hcd := PySem.W.CodeHd.of h5 h6
    obtain ⟨⟨oc, vc, e1, _, e3, e4⟩, hP⟩ := h6
    have g2 := KX _ _ k4
    rw [g2] at e1
    cases e1
    cases e3
    rw [k5] at e4
    cases e4
    exact ⟨hP, hcd⟩
  obtain ⟨fd, cs, sp, hT, nT, C, hb, hsp, hF⟩ := F w mg fa _ KX G.T.g hmg own
  exact law_callTs KX G.T.g G.T.b G.T.builtins G.T.nolimit hg hT nT C G.T.bmain hobj hints (Nat.le_trans hlen hn2) hr hF hb (fun H hH hS => hsp H a ns hlen hbits hH hS) fun H e s' => hCX w H s₁ e s'
end Tg

/-! t[:h:-1] of a tuple -/
namespace Tg
open PySem PySem.Spec PyProof.Rows L2 Z GxR HT
def cntR (n : Nat) : Option Int → Nat
  | none => n
  | some h => n - (h.toNat + 1)
theorem adjust_rev (hi : Option Int) (n : Nat) (h0 : ∀ h, hi = some h → 0 ≤ h) : Builtin.Slice.slicePlaces (Builtin.Slice.sliceAdjust none hi (-1) (n : Int)).1 (Builtin.Slice.sliceAdjust none hi (-1) (n : Int)).2 (-1) = cntR n hi ∧ (Builtin.Slice.sliceAdjust none hi (-1) (n : Int)).1 = (n : Int) - 1 := by
  refine ⟨?_, rfl⟩
  unfold Builtin.Slice.slicePlaces Builtin.Slice.sliceAdjust cntR
  have h1 : ¬ ((-1 : Int) > 0) := by omega
  have h2 : ((-1 : Int) < 0) := by omega
  have h3 : (- -1 : Int) = 1 := by decide
  simp only [h1, h2, if_true, if_false, h3, Int.ediv_one]
  cases hi with
  | none => dsimp only; split <;> omega
  | some h =>
    have := h0 h rfl
    have h4 : ¬ h < 0 := by omega
    simp only [h4, if_false]
    split <;> omega
theorem fm_congr {α β : Type} {f g : α → Option β} : ∀ {l : List α}, (∀ a ∈ l, f a = g a) → l.filterMap f = l.filterMap g
  | [], _ => rfl
  | a :: l, h => by
    rw [List.filterMap_cons, List.filterMap_cons, h a List.mem_cons_self, fm_congr fun b hb => h b (List.mem_cons_of_mem _ hb)]
theorem pick_rev (xs : Array Value) (k : Nat) (hk : k ≤ xs.size) : ((List.range k).filterMap fun (m : Nat) => xs[(((xs.size : Int) - 1) + (m : Int) * (-1)).toNat]?).toArray = (xs.toList.reverse.take k).toArray := by
  have e : (List.range k).filterMap (fun (m : Nat) => xs[(((xs.size : Int) - 1) + (m : Int) * (-1)).toNat]?) = (List.range k).filterMap fun m => xs.reverse[m]? := by
    refine fm_congr fun m hm => ?_
    have hm := List.mem_range.mp hm
    have : (((xs.size : Int) - 1) + (m : Int) * (-1)).toNat = xs.size - 1 - m := by omega
    rw [this, Array.getElem?_eq_getElem (by omega), Array.getElem?_eq_getElem (by rw [Array.size_reverse]; omega), Array.getElem_reverse]
  rw [e]
  have := pick_run xs.reverse 0 k
  have e2 : (List.range k).map (0 + ·) = List.range k := by
    rw [show ((0 + ·) : Nat → Nat) = id from funext fun k => Nat.zero_add k, List.map_id]
  rw [e2, List.drop_zero, Array.toList_reverse] at this
  rw [this]
section
variable {prog : Program} {w : World} {A : Around} {E : Value → Shared → Prop} {s : Shared}
theorem sliceApplied_rev {sl : Addr} {vu vs : Value} {hi : Option Int} {n : Nat} {Q : Int × Int × Nat → Shared → Prop} (hs : s.heap.IsSliceOf sl .none vu vs) (pu : IsPart vu hi) (ps : IsPart vs (some (-1))) (h0 : ∀ h, hi = some h → 0 ≤ h)
    (h : Q ((n : Int) - 1, -1, cntR n hi) s) : wpAny (model prog w) A (Builtin.Slice.sliceApplied (.ref sl) (pure (n : Int))) Q E s := by
  obtain ⟨os, hos, hcs, hds⟩ := id hs
  unfold Builtin.Slice.sliceApplied Builtin.Slice.sliceFields
  refine wpAny_bind (wpAny_bind (wpAny_field hos hds (x := .none) rfl (wpAny_bind (wpAny_field hos hds (x := vu) rfl (wpAny_bind (wpAny_field hos hds (x := vs) rfl (wpAny_pure ?_)))))))
  refine wpAny_bind (slicePart_ ps ?_)
  show wpAny _ _ (if ((-1 : Int) == 0) = true then _ else _) _ _ s
  rw [if_neg (by decide)]
  refine wpAny_bind (slicePart_none (wpAny_bind (slicePart_ pu (wpAny_bind (wpAny_pure ?_)))))
  obtain ⟨e1, e2⟩ := adjust_rev hi n h0
  show wpAny _ _ (pure ((Builtin.Slice.sliceAdjust none hi (-1) (n : Int)).1, (-1 : Int), Builtin.Slice.slicePlaces (Builtin.Slice.sliceAdjust none hi (-1) (n : Int)).1 (Builtin.Slice.sliceAdjust none hi (-1) (n : Int)).2 (-1))) _ _ s
  rw [e1, e2]
  exact wpAny_pure h
theorem cntR_le (n : Nat) (hi : Option Int) : cntR n hi ≤ n := by
  cases hi with
  | none => exact Nat.le_refl _
  | some h => exact Nat.sub_le _ _
theorem getItem_tuple_rev {t sl : Addr} {items : Array Value} {vu vs : Value} {hi : Option Int} {Q : Value → Shared → Prop} (ht : IsTup s.heap t items) (hs : s.heap.IsSliceOf sl .none vu vs) (pu : IsPart vu hi) (ps : IsPart vs (some (-1))) (h0 : ∀ h, hi = some h → 0 ≤ h)
    (h : Q (.ref s.heap.objs.size) { s with heap := s.heap.push { cls := .type "tuple", data := .seq (items.toList.reverse.take (cntR items.size hi)).toArray } })
    (hsz : items.size ≤ sizeLine) : wpAny (model prog w) A (getItem (.ref t) (.ref sl)) Q E s := by
  have htake : sizeOk (.seq (items.toList.reverse.take (cntR items.size hi)).toArray) := by
    show (items.toList.reverse.take (cntR items.size hi)).toArray.size ≤ sizeLine
    rw [List.size_toArray, List.length_take, List.length_reverse, Array.length_toList]
    omega
  obtain ⟨os, hos, hcs, hds⟩ := id hs
  have hTs : s.TypeIs (.ref sl) "slice" := ⟨os, hos, hcs⟩
  unfold getItem
  try with_reducible refine wpAny_holding ?_
  first | refine wpAny_bind (wpAny_pure ?_) | skip
  refine wpAny_bind (wpAny_sequenceKey ht.typeIs (by decide) ?_)
  refine wpAny_bind (wpAny_callSpecial?_slot (name := Str.ofString "__getitem__") ht.typeIs PyProof.Rows.slot_tuple_getitem
    (wpAny_call_entry PyProof.Rows.slot_tuple_getitem ht.typeIs entry_tuple_getitem ?_ (args_tuple_getitem _ _)))
  show wpAny _ _ (Builtin.Tuple.tupleItemsOf (.ref t) >>= _) _ _ s
  refine wpAny_bind (tupleItemsOf_ ht ?_)
  refine wpAny_bind (wpAny_typeOf hTs ?_)
  rw [if_pos (by decide)]
  refine wpAny_bind (sliceApplied_rev hs pu ps h0 ?_)
  have hno : ¬ ((((items.size : Int) - 1) == 0 && (-1 : Int) == 1 && cntR items.size hi == items.size) = true) := by
    intro q
    rw [Bool.and_eq_true, Bool.and_eq_true] at q
    exact absurd q.1.2 (by decide)
  show wpAny _ _ (if (((items.size : Int) - 1) == 0 && (-1 : Int) == 1 && cntR items.size hi == items.size) = true then _ else _) _ _ s
  rw [if_neg hno, pick_rev _ _ (cntR_le _ _)]
  first
    | exact wpAny_bind (m := Builtin.Tuple.tupleExact _) (wpAny_newObj_type (wpAny_pure ⟨_, rfl, wpAny_pure h⟩) htake)
    | exact wpAny_bind (m := Builtin.Tuple.tupleExact _) (wpAny_newObj_type (wpAny_bind (wpAny_pure (wpAny_pure ⟨_, rfl, wpAny_pure h⟩))) htake)
    | exact wpAny_bind (wpAny_bind (m := Builtin.Tuple.tupleExact _) (wpAny_newObj_type (wpAny_pure (wpAny_pure ⟨_, rfl, wpAny_pure h⟩)) htake))
    | exact wpAny_bind (wpAny_bind (m := Builtin.Tuple.tupleExact _) (wpAny_newObj_type (wpAny_pure ⟨_, rfl, wpAny_pure h⟩) htake))
end
/-- t[:h:-1] -/
def tRevT (K : PySem.W.Frag) (te : TE) (tu : TO) : TE := fun σ H Q => te σ H fun x H1 => tu σ H1 fun hi H2 => ∃ a xs, x = .ref a ∧ SqT K H2 a xs ∧ (∀ h, hi = some h → 0 ≤ h) ∧ ∀ p, H2 p = none → Q (.ref p) (upd H2 p (.tup (xs.reverse.take (cntR xs.length hi))))
theorem pe_revT {X : Cx} {e : Expr} {te : TE} {hi : Option Expr} {tu : TO} {k : Nat} {p1 p2 p3 pos : Pos} (he : PE X e te) (hu : PO X hi tu) : PE X (.Subscript e (.Slice none hi (some (.UnaryOp .USub (.Constant (.int 1) k p1) p2)) p3) pos) (tRevT X.K te tu) := by
  refine ⟨fun pins s σ H Q I h => ?_⟩
  refine Subscript_ (thn (he.run pins s σ H _ I h) fun v s1 ⟨x, H1, I1, r1, q1⟩ => ?_)
  have hst : PO X (some (.UnaryOp .USub (.Constant (.int 1) k p1) p2)) (tPart (tUn (rU fun i => .int (-i)) (tC (.int 1)))) := po_some (pe_un un_neg pe_int)
  refine wpAny_Slice (thn (po_none.run pins s1 σ H1 (fun o H2 => o = none ∧ H2 = H1) I1 ⟨rfl, rfl⟩) fun vl s2 ⟨l, H2, I2, pl, el, e2⟩ => ?_)
  subst el e2
  refine thn (hu.run pins s2 σ H2 _ I2 q1) fun vu s3 ⟨u, H3, I3, pu, q3⟩ => ?_
  obtain ⟨a, xs, ex, hx, h0, q⟩ := q3
  subst ex
  cases r1
  refine thn (hst.run pins s3 σ H3 (fun o H4 => o = some (-1) ∧ H4 = H3) I3 ⟨1, rfl, -1, rfl, rfl, rfl⟩) fun vs s4 ⟨o, H4, I4, ps, eo, e4⟩ => ?_
  subst eo e4
  cases pl
  have I5 : Inv X pins σ H4 { s4 with heap := s4.heap.push { cls := .type "slice", data := .fields #[.none, vu, vs] } } := I4.kept (t' := s4.toks) fun b ob q => Heap.get?_push_of_some _ q
  obtain ⟨its, r, ht, hz⟩ := I5.tuple hx
  have hlen := r.length
  show wpAny (model X.prog X.w) X.A (subscriptTail e (.Slice none hi (some (.UnaryOp .USub (.Constant (.int 1) k p1) p2)) p3) (.ref a) (.ref s4.heap.objs.size)) (EP X pins σ Q) X.xe { s4 with heap := s4.heap.push { cls := .type "slice", data := .fields #[.none, vu, vs] } }
  refine tail_any (ops := [.ref a, .ref s4.heap.objs.size]) ht.typeIs (PyProof.Rows.slot_tuple_getitem.lookup) ?_ (by with_unfolding_all rfl)
  refine getItem_tuple_rev ht (Heap.IsSliceOf.new _ .none vu vs) pu ps h0 ?_ (by rw [List.size_toArray]; omega)
  have e9 : its.toArray.size = xs.length := by rw [List.size_toArray]; exact hlen.symm
  rw [e9]
  refine ⟨.ref _, _, I5.laid (t' := s4.toks) (o := .tup (xs.reverse.take (cntR xs.length u))) (fun b ob q => Heap.get?_push_of_some _ q) (Nat.le_refl _) ?_, rfl, q _ (I5.hok.fresh (Nat.le_refl _))⟩
  exact ⟨by rw [List.length_take, List.length_reverse]; omega, _, r.reverse.take _, _, Heap.get?_push_size _ rfl, rfl, 0, rfl⟩
section
variable {K : PySem.W.Frag} {H : Hp} {Q : VK} {σ : L2.St} {te : TE} {tu : TO} {a : Addr} {xs : List V}
theorem z_revT {hi : Option Int} (ht : ∀ R : VK, R (.ref a) H → te σ H R) (hx : SqT K H a xs) (hu : ∀ R : Option Int → Hp → Prop, R hi H → tu σ H R) (h0 : ∀ h, hi = some h → 0 ≤ h) (q : ∀ p H', H p = none → Same H H' → H' p = some (.tup (xs.reverse.take (cntR xs.length hi))) → Q (.ref p) H') : tRevT K te tu σ H Q :=
  ht _ (hu _ ⟨a, xs, rfl, hx, h0, fun p hp => q p _ hp (same_upd hp) upd_same⟩)
/-- t[lo:hi], whole or not -/
theorem z_slA {lo hi : Option Int} (h : SqT K H a xs) (q : ∀ p H', Same H H' → SqT K H' p (cutV xs lo hi) → Q (.ref p) H') : rSlA K (.ref a) lo hi H Q := by
  refine ⟨a, xs, rfl, h, fun hw => q a H (fun _ _ z => z) ?_, fun _ p hp => q p _ (same_upd hp) (.inl (.inl upd_same))⟩
  have e : cutV xs lo hi = xs := by
    unfold cutV
    rw [hw.1, hw.2, List.drop_zero]
    exact List.take_of_length_le (by omega)
  rw [e]
  exact h
end
end Tg

/-! raise X(f'.. {N} ..') -/
namespace Tg
open PySem PySem.Spec PyProof.Rows L2 Z
def okF (m1 : Str) (k : Int) (m2 : Str) : Bool := decide (k.natAbs.log2 < 1920) && decide ((Str.empty ++ m1).length ≤ sizeLine) && decide ((Str.empty ++ m1 ++ (toString k : Str)).length ≤ sizeLine) && decide ((Str.empty ++ m1 ++ (toString k : Str) ++ m2).length ≤ sizeLine)
theorem pmkF {X : Cx} {C : Addr} {x m1 m2 : Str} {k : Int} {e : Expr} {j1 j2 : Nat} {p p1 p2 p3 p4 pos : Pos} (E : ExcX X.K X.mg x C) (hg : Gl X x) (hc : PE X e (tC (.int k))) (ok : okF m1 k m2 = true)
    (hs : starEach [Expr.JoinedStr [.Constant (.str m1) j1 p1, .FormattedValue e (-1) none p2, .Constant (.str m2) j2 p3] p4] X.env = (false, eval (Expr.JoinedStr [.Constant (.str m1) j1 p1, .FormattedValue e (-1) none p2, .Constant (.str m2) j2 p3] p4) X.env) :: starEach [] X.env := by rfl) (hdb : (x == ("__debug__" : Str)) = false := by decide) :
    PMk X (.Call (.Name x p) [.JoinedStr [.Constant (.str m1) j1 p1, .FormattedValue e (-1) none p2, .Constant (.str m2) j2 p3] p4] [] pos) (fun _ H Q => Q (.ref C) none H) := by
  intro pins s σ H Q I h
  unfold okF at ok
  rw [Bool.and_eq_true, Bool.and_eq_true, Bool.and_eq_true, decide_eq_true_eq, decide_eq_true_eq, decide_eq_true_eq, decide_eq_true_eq] at ok
  refine SkE.pmk_own1 PySem.F.excBase_ValueError E.q E.g E.k (raises_own E.c.hs E.t) hg (pe_joined (.cons pe_str (.cons (pe_fmt hc) (.cons pe_str .nil)))) hs hdb pins s σ H Q I ?_
  exact ⟨m1, rfl, ok.1.1.2, .inr ⟨k, rfl, ok.1.1.1, _, rfl, ok.1.2, m2, rfl, ok.2, h⟩⟩
end Tg
namespace Tg
open PySem PySem.Spec PyProof.Rows L2 Z
def tCallNS (n m : Nat) (sp : Sp) (gV : List V → List V → List V) (E : L2.St → XK) (t tk : TA) : TE := fun σ H Q => t σ H fun vs H1 => tk σ H1 fun zs H2 => vs.length = n ∧ zs.length = m ∧ sp (gV vs zs) H2 Q (E σ)
section
variable {X : Cx} {CX : CXT} {k n : Nat} {f : Addr} {fd : FuncData} {ps ks : List Str} {sp : Sp} {E : L2.St → XK} {x : Str} {p pos : Pos} {e : Expr} {es : List Expr} {kws : List Keyword} {t tk : TA} {g : List Value → List Value → List Value} {gV : List V → List V → List V}
/-- f(e, .., k = v, ..) within a try -/
theorem pe_callNS (F : FnOk X.prog X.w X.K X.mg X.base CX k f fd ps sp) (hr : Room k X.A) (hg : Gl X x) (hm : X.mg x = some (.ref f)) (hk : PySem.W.keepIn X.K (.ref f) = true) (hb : KBn X.K fd ps n ks g gV) (hx : ∀ σ, PassesAt CX X σ (E σ))
    (ha : PA X (e :: es) t) (hkw : PK X kws tk) (hall : (backToKw pos (keywordEach kws X.env)).all (·.1.isSome) = true := by rfl) (hks : (backToKw pos (keywordEach kws X.env)).filterMap (·.1) = ks := by rfl)
    (hdb : (x == ("__debug__" : Str)) = false := by decide) (he : starEach (e :: es) X.env = (false, eval e X.env) :: starEach es X.env := by rfl)
    (hpl : ((backTo pos (starEach (e :: es) X.env)).any (·.1) || (backToKw pos (keywordEach kws X.env)).any (·.1.isNone)) = false := by rfl) :
    PE X (.Call (.Name x p) (e :: es) kws pos) (tCallNS n ks.length sp gV E t tk) := by
  refine ⟨fun pins s σ H Q I h => ?_⟩
  refine wpAny_Call_Name_kw (ld_glob I hg hm ?_ hdb)
  refine PySem.W.callWith_KW (h₀ := X.base) I.ok.mod.kin hk hall (thn (ha.run pos pins s σ H _ I h) fun us s1 ⟨vs, H1, I1, r, q⟩ => ?_) hpl he
  refine thn (hkw.run pos pins s1 σ H1 _ I1 q) fun ws s2 ⟨zs, H2, I2, rz, l1, l2, q2⟩ => ⟨I2.kIn, ?_⟩
  rw [hks]
  exact Cw.run_fnNS F hr hb (hx σ) I2 r rz l1 l2 q2
end
section
variable {H : Hp} {Q : VK} {σ : L2.St} {n m : Nat} {sp : Sp} {gV : List V → List V → List V} {t tk : TA}
theorem z_callN {E : XK} (h : t σ H fun vs H1 => tk σ H1 fun zs H2 => vs.length = n ∧ zs.length = m ∧ sp (gV vs zs) H2 Q E) : tCallN n m sp gV E t tk σ H Q := h
theorem z_callNS {E : L2.St → XK} (h : t σ H fun vs H1 => tk σ H1 fun zs H2 => vs.length = n ∧ zs.length = m ∧ sp (gV vs zs) H2 Q (E σ)) : tCallNS n m sp gV E t tk σ H Q := h
end
end Tg

/-! tuple * int, also 0 and 1 -/
namespace Tg
open PySem PySem.Spec PyProof.Rows L2 Z
theorem tuple_mul1 (l : Addr) (items : Array Value) (n : Nat) (dd : Option Addr) (sl : Array (Option Value)) (u : Tok) :
    Meets (Builtin.«tuple.__mul__» ⟨[.ref l, .int 1 u], []⟩) (fun _ R s => s.heap.get? l = some { cls := .type "tuple", dict := dd, data := .seq items n, slots := sl } ∧ R (.ok (.ret (Value.ref l))) s) :=
  .of_wp fun prog w A R s h => by
    obtain ⟨hp, g, d, tk, os⟩ := s
    obtain ⟨hl, h⟩ := h
    have f1 := AutoSeq1.idx_int
    wp_walk using wpAny_loadPart' hl
    repeat (first
      | (refine wpAny_ite_false (by decide) ?_; wp_walk using wpAny_loadPart' hl)
      | (refine wpAny_ite_true (by simp) ?_; wp_walk using wpAny_loadPart' hl))
    exact ⟨_, rfl, h⟩
theorem tuple_mul0 (l : Addr) (items : Array Value) (n : Nat) (dd : Option Addr) (sl : Array (Option Value)) (u : Tok) (c1 : items.isEmpty = false) :
    Meets (Builtin.«tuple.__mul__» ⟨[.ref l, .int 0 u], []⟩) (fun _ R s => s.heap.get? l = some { cls := .type "tuple", dict := dd, data := .seq items n, slots := sl } ∧
      R (.ok (.ret (Value.ref s.heap.objs.size))) { s with heap := s.heap.push { cls := Value.type "tuple", data := Data.seq #[] }, toks := s.toks }) :=
  .of_wp fun prog w A R s h => by
    obtain ⟨hp, g, d, tk, os⟩ := s
    obtain ⟨hl, h⟩ := h
    have f1 := AutoSeq1.idx_int
    wp_walk using wpAny_loadPart' hl
    repeat (first
      | (refine wpAny_ite_false (decide_eq_false (by rw [c1]; exact Bool.false_ne_true)) ?_; wp_walk using wpAny_loadPart' hl)
      | (refine wpAny_ite_false (by rw [c1]; decide) ?_; wp_walk using wpAny_loadPart' hl)
      | (refine wpAny_ite_true (by simp) ?_; wp_walk using wpAny_loadPart' hl))
    exact ⟨_, rfl, h⟩
/-- t * k, k at least 0 -/
def rRepA (K : PySem.W.Frag) : R2 := fun x y H Q => ∃ l k xs, x = .ref l ∧ y = .int k ∧ SqT K H l xs ∧ xs ≠ [] ∧ 0 ≤ k ∧ k ≤ 1000 ∧ xs.length ≤ 1000 ∧ ∀ p H', Same H H' → SqT K H' p (List.replicate k.toNat xs).flatten → Q (.ref p) H'
theorem op_repA {X : Cx} : OpR X (binaryOp .Mult) (rRepA X.K) := by
  intro pins s σ H x y v u Q I rx ry h
  obtain ⟨l, k, xs, rfl, rfl, hT, hne, h1, h2, hz, q⟩ := h
  by_cases hk : 2 ≤ k
  · exact op_repT pins s σ H _ _ v u Q I rx ry ⟨l, k, xs, rfl, rfl, hT, hne, hk, h2, hz, fun p hp => q p _ (same_upd hp) (.inl (.inl upd_same))⟩
  cases rx
  obtain ⟨t, rfl⟩ := ry
  obtain ⟨its, r, ⟨⟨cls, dd, data, sl⟩, ho, hc, n, hd⟩, hs⟩ := I.tuple hT
  simp only at hc hd
  subst hc hd
  have hn : its ≠ [] := fun e => hne (by
    have := r.length
    rw [e] at this
    exact List.eq_nil_of_length_eq_zero this)
  have hi : its.toArray.isEmpty = false := by
    cases its with
    | nil => exact absurd rfl hn
    | cons a b => rfl
  by_cases k1 : k = 1
  · subst k1
    refine wpAny_binaryOp_repeat_ref (T := "tuple") (U := "int") (by decide) ⟨_, ho, rfl⟩ (fun s' => typeIs_int s' 1 t) noFill_tuple_mul F.fills_int_mul F.slot_int_rmul repeat_tuple F.slot_int_index.lookup
      (call_meets F.slot_int_rmul (typeIs_int s 1 t) F.entry_int_rmul (F.args_int_rmul_2 _ _) (int_rmul_tuple 1 t l its.toArray n dd sl)
        ⟨ho, rfl, ⟨_, ho, rfl⟩, call_meets F.slot_tuple_mul ⟨_, ho, rfl⟩ F.entry_tuple_mul (F.args_tuple_mul_2 _ _) (tuple_mul1 l its.toArray n dd sl t) ⟨ho, ?_⟩⟩)
    refine ⟨.ref l, H, I, rfl, q l H (fun _ _ z => z) ?_⟩
    have e : (List.replicate (Int.toNat 1) xs).flatten = xs := by
      show [xs].flatten = xs
      simp
    rw [e]
    exact hT
  · obtain rfl : k = 0 := by omega
    refine wpAny_binaryOp_repeat_ref (T := "tuple") (U := "int") (by decide) ⟨_, ho, rfl⟩ (fun s' => typeIs_int s' 0 t) noFill_tuple_mul F.fills_int_mul F.slot_int_rmul repeat_tuple F.slot_int_index.lookup
      (call_meets F.slot_int_rmul (typeIs_int s 0 t) F.entry_int_rmul (F.args_int_rmul_2 _ _) (int_rmul_tuple 0 t l its.toArray n dd sl)
        ⟨ho, rfl, ⟨_, ho, rfl⟩, call_meets F.slot_tuple_mul ⟨_, ho, rfl⟩ F.entry_tuple_mul (F.args_tuple_mul_2 _ _) (tuple_mul0 l its.toArray n dd sl t hi) ⟨ho, ?_⟩⟩)
    have f := I.hok.fresh (Nat.le_refl s.heap.objs.size)
    refine ⟨.ref s.heap.objs.size, _, I.laid (t' := s.toks) (o := .tup []) (fun b ob q => Heap.get?_push_of_some _ q) (Nat.le_refl _) ?_, rfl, q _ _ (same_upd f) (.inl (.inl upd_same))⟩
    exact ⟨Nat.zero_le _, [], .nil, IsTup.new _ _⟩
theorem z_repA {K : PySem.W.Frag} {H : Hp} {Q : VK} {l : Addr} {k : Int} {xs : List V} (h : SqT K H l xs) (hne : xs ≠ []) (h1 : 0 ≤ k) (h2 : k ≤ 1000) (hz : xs.length ≤ 1000) (q : ∀ p H', Same H H' → SqT K H' p (List.replicate k.toNat xs).flatten → Q (.ref p) H') : rRepA K (.ref l) (.int k) H Q :=
  ⟨l, k, xs, rfl, rfl, h, hne, h1, h2, hz, q⟩
end Tg

/-! several except clauses, with names -/
namespace Tg
open PySem PySem.Spec PyProof.Rows L2 Z
abbrev Cl := Value × Option Nat × (Addr → Value → Option Addr → TS)
/-- how a clause's suite is run: a name's slot is set, and goes behind it -/
def enterB (D : Ends) (o : Option Nat) (ts : TS) (a : Addr) (σ : L2.St) (H : Hp) : Prop := match o with
  | none => ts D σ H
  | some i => ts { nx := fun σ' H' => D.nx (σ'.set i none) H', rt := D.rt, bk := fun σ' H' => D.bk (σ'.set i none) H', ct := fun σ' H' => D.ct (σ'.set i none) H' } (σ.set i (some (.ref a))) H
def wManyB (K : PySem.W.Frag) (Wout : WX) (D : Ends) : List Cl → WX
  | [] => Wout
  | (c, o, ts) :: r => fun cls d σ H => ∃ b, PySem.W.exmOne K cls c = some b ∧ (b = true → ∀ a, H a = none → enterB D o (ts a cls d) a σ H) ∧ (b = false → wManyB K Wout D r cls d σ H)
inductive HdsB (X : Cx) : List ExceptHandler → List Cl → Prop
  | nil : HdsB X [] []
  | cons {x : Str} {c : Value} {ts : Addr → Value → Option Addr → TS} {b₀ : Stmt} {suite : List Stmt} {np pos' : Pos} {hds : List ExceptHandler} {l : List Cl} (hc : Names X x c)
      (hsu : ∀ (a : Addr) (oe : Obj) (cls : Value) (d : Option Addr) (pn : List (Addr × Obj)), Zc cls d oe → (∃ vs, oe.data = .fields vs) → PSs (X.suite a ((a, oe) :: pn)) (b₀ :: suite) (ts a cls d)) (r : HdsB X hds l) :
      HdsB X (.ExceptHandler (some (.Name x np)) none (b₀ :: suite) pos' :: hds) ((c, none, ts) :: l)
  | name {x n : Str} {i : Nat} {c : Value} {ts : Addr → Value → Option Addr → TS} {b₀ : Stmt} {suite : List Stmt} {np pos' : Pos} {hds : List ExceptHandler} {l : List Cl} (hN : X.N.Nodup) (hi : X.N[i]? = some n) (hln : X.env.kindOf n = some .local) (hc : Names X x c)
      (hsu : ∀ (a : Addr) (oe : Obj) (cls : Value) (d : Option Addr) (pn : List (Addr × Obj)), Zc cls d oe → (∃ vs, oe.data = .fields vs) → PSs (X.suite a ((a, oe) :: pn)) (b₀ :: suite) (ts a cls d)) (r : HdsB X hds l) :
      HdsB X (.ExceptHandler (some (.Name x np)) (some n) (b₀ :: suite) pos' :: hds) ((c, some i, ts) :: l)
section
variable {X : Cx} {body : List Stmt} {h₀ : ExceptHandler} {hds : List ExceptHandler} {l : List Cl} {pos : Pos} {tb : WX → TS} {Wout : WX}
theorem ps_try_manyB (hs : X.stack = X.env :: X.outer) (hf : X.env.frame = some X.env.locals) (tk : Takes X Wout)
    (hb : ∀ (W : WX) (pn : List (Addr × Obj)) (xe : Value → Shared → Prop), Takes (X.tr pn xe) W → PassesOwn (model X.prog X.w) X.A X.env xe → PSs (X.tr pn xe) body (tb W))
    (hh : HdsB X (h₀ :: hds) l) : PS X (.Try body (h₀ :: hds) [] [] pos) (fun D σ H => tb (wManyB X.K Wout D l) D σ H) := by
  refine ⟨fun pins s σ H D I h => ?_⟩
  have ok := I.ok
  have hfr : X.A.frames = some (X.env :: X.outer) := by rw [ok.frames, hs]
  refine wpAny_Try_except ?_
  refine wpAny_mono ((hb (wManyB X.K Wout D l) (X.pn ++ pins) (fun e s₁ => wpAny (model X.prog X.w) X.A (noteFrame e X.env) (fun _ s₂ => wpAny (model X.prog X.w) X.A (setFlight e none) (fun _ s₃ =>
    wpAny (model X.prog X.w) X.A (handleBy e X.env (h₀ :: hds)) (SP X pins D) X.xe s₃) X.xe s₂) X.xe s₁) (fun u s' xx => ?_) PassesOwn.looking).run [] s σ H D (I.toTry _) h) (fun f s1 hsp => ?_) (fun e s1 he => he)
  · -- the catch
    obtain ⟨a, B, sI, pins', σ', H', cls, d, rfl, J', nb, up, sky, na, os, ag, w⟩ := xx
    have J : Inv X pins σ' H' sI := J'.ofTry ok
    have sky' : Sky B (X.env :: X.outer) a (Zc cls d) X.env.locals s'.heap := by rw [← hs]; exact sky
    show wpAny (model X.prog X.w) X.A (noteFrame (.ref a) X.env) _ _ _
    refine Sky.land Zc.steady hfr hf sky' fun h3 fl3 up3 => ?_
    have J3 : Inv X pins σ' H' { s' with heap := h3 } := J.landed nb fl3.1 (up.trans up3) os ag
    obtain ⟨oe3, vs3, he3, hz3, hd3⟩ := fl3.there
    have notFr : ∀ {h : Heap} {o : Obj} {vs : Array Value}, h.FunFrames B (X.env :: X.outer) → h.get? a = some o → o.data = .fields vs → a ∉ frs (X.env :: X.outer) := fun {h o vs} ff e dd hm => by
      obtain ⟨_, o', e', hnf⟩ := ff.mem hm
      rw [e] at e'; cases e'
      exact hnf _ dd
    have nfr := notFr fl3.2.2.1 he3 hd3
    have nL : a ≠ X.env.locals := fun z => nfr (List.mem_filterMap.mpr ⟨X.env, List.mem_cons_self, by rw [hf, z]⟩)
    have nF : a ∉ X.fs := fun hm => by
      obtain ⟨e, he, q⟩ := List.mem_filterMap.mp hm
      exact nfr (List.mem_filterMap.mpr ⟨e, List.mem_cons_of_mem _ he, q⟩)
    have S3 := J3.suite he3 hd3 na nL nF
    have test : ∀ {x : Str} {c : Value} {np : Pos} (hc : Names X x c) {Q : Value → Shared → Prop} {E : Value → Shared → Prop}, Q c { s' with heap := h3 } → wpAny (model X.prog X.w) (X.A.mark (some (.ref a))) (eval (.Name x np) X.env) Q E { s' with heap := h3 } := fun {x c np} hc {Q E} q => by
      obtain ⟨hg, hdbg, hm | ⟨hm, hv, hnn⟩⟩ := hc
      · exact ld_glob (X := X.suite a ((a, oe3) :: (X.pn ++ pins))) S3 hg hm q hdbg
      · exact ld_blt (X := X.suite a ((a, oe3) :: (X.pn ++ pins))) S3 hg hm hv q hnn hdbg
    have LT : PySem.W.Looks (model X.prog X.w) h3 (typeOf (.ref a)) cls := fun A Q E s k q => wpAny_typeOf_ref (k _ _ he3) (by rw [hz3.1]; exact q)
    have go : ∀ {hds' : List ExceptHandler} {l' : List Cl}, HdsB X hds' l' → wManyB X.K Wout D l' cls d σ' H' →
        wpAny (model X.prog X.w) X.A (handleBy (.ref a) X.env hds') (SP X pins D) X.xe { s' with heap := h3 } := by
      intro hds' l' hk
      induction hk with
      | nil =>
        intro w
        refine wpAny_handleBy_nil ?_
        obtain ⟨k1, k2, k3, oe, vs, T, oT, ts', he, hz, hd, h1, hr⟩ := id fl3
        unfold PySem.passOn
        refine wpAny_bind (wpAny_field he hd h1 ?_)
        rw [if_neg (show ¬ ((Value.ref T == Value.none) = true) from by simp)]
        have fin : wpAny (model X.prog X.w) X.A (setFlight (.ref a) X.env.frame) (fun _ s4 => wpAny (model X.prog X.w) X.A (throw (.ref a) : Sem Flow) (SP X pins D) X.xe s4) X.xe { s' with heap := h3 } := by
          rw [hf]
          refine HandSPX.setFlight_upZ fl3 fun h4 hh4 up4 => wpAny_throw (tk _ _ ?_)
          exact ⟨a, B, sI, pins, σ', H', cls, d, rfl, J, nb, (up.trans up3).trans up4, .inr (.inr (by rw [hs]; exact hh4)), na, os, ag, w⟩
        first
          | exact wpAny_bind (wpAny_pure (wpAny_bind fin))
          | exact wpAny_bind fin
      | @cons x c ts b₀ suite np pos' hds2 l2 hc hsu r ih =>
        intro w
        obtain ⟨b, hb1, hyes, hno⟩ := w
        refine wpAny_handleBy_cons (codeAny_handlers_test ?_) (by intro q; cases q)
        have LM := PySem.W.exm_one (M := model X.prog X.w) (J3.kIn) LT hb1
        refine test hc (LM.here ?_)
        cases b with
        | true =>
          refine codeAny_handlers_suite ?_
          refine HandSPX.lands_againZ fl3 fun h4 fl4 up4 => ?_
          have J4 : Inv X pins σ' H' { s' with heap := h4 } := J.landed nb fl4.1 ((up.trans up3).trans up4) os ag
          obtain ⟨oe4, vs4, he4, hz4, hd4⟩ := fl4.there
          have S4 := J4.suite he4 hd4 na nL nF
          refine wpAny_mono ((hsu a oe4 cls d (X.pn ++ pins) hz4 ⟨_, hd4⟩).run [] _ _ H' _ S4 (hyes rfl a na)) (fun f s6 hsp => ?_) (fun _ _ z => False.elim z)
          cases f with
          | next =>
            obtain ⟨σ6, H6, S6, q6⟩ := hsp
            exact ⟨_, _, S6.unsuite ok, q6⟩
          | brk =>
            obtain ⟨σ6, H6, S6, q6⟩ := hsp
            exact ⟨_, _, S6.unsuite ok, q6⟩
          | cont =>
            obtain ⟨σ6, H6, S6, q6⟩ := hsp
            exact ⟨_, _, S6.unsuite ok, q6⟩
          | ret u =>
            obtain ⟨v6, σ6, H6, S6, r6, q6⟩ := hsp
            exact ⟨_, _, _, S6.unsuite ok, r6, q6⟩
        | false =>
          show wpAny _ X.A (handleBy (.ref a) X.env hds2) _ _ _
          exact ih (hno rfl)
      | @name x n i c ts b₀ suite np pos' hds2 l2 hN hi hln hc hsu r ih =>
        intro w
        obtain ⟨b, hb1, hyes, hno⟩ := w
        refine wpAny_handleBy_cons (codeAny_handlers_test ?_) (by intro q; cases q)
        have LM := PySem.W.exm_one (M := model X.prog X.w) (J3.kIn) LT hb1
        refine test hc (LM.here ?_)
        cases b with
        | true =>
          refine codeAny_handlers_suite_as ?_
          refine HandSPX.lands_againZ fl3 fun h4 fl4 up4 => ?_
          have J4 : Inv X pins σ' H' { s' with heap := h4 } := J.landed nb fl4.1 ((up.trans up3).trans up4) os ag
          obtain ⟨oe4, vs4, he4, hz4, hd4⟩ := fl4.there
          have S4 := J4.suite he4 hd4 na nL nF
          refine store_ok (X := X.suite a ((a, oe4) :: (X.pn ++ pins))) (v := .ref a) S4 hN hi (.inl hln) rfl (fun s5 S5 => ?_) (.inr hln)
          refine wpAny_mono ((hsu a oe4 cls d (X.pn ++ pins) hz4 ⟨_, hd4⟩).run [] s5 _ H' _ S5 (hyes rfl a na)) (fun f s6 hsp => ?_) (fun _ _ z => False.elim z)
          have end_ : ∀ {σ6 : L2.St} {H6 : Hp} {Q : Shared → Prop}, Inv (X.suite a ((a, oe4) :: (X.pn ++ pins))) [] σ6 H6 s6 → (∀ s7, Inv X pins (σ6.set i none) H6 s7 → Q s7) →
              wpAny (model X.prog X.w) X.A (do bindName X.env n .none; unbindBehindTheSuite X.env n pos') (fun _ s7 => Q s7) X.xe s6 := fun {σ6 H6 Q} S6 hq => gone_ok (S6.unsuite ok) hN hi hln hq
          cases f with
          | next =>
            obtain ⟨σ6, H6, S6, q6⟩ := hsp
            exact end_ S6 fun s7 J7 => ⟨_, _, J7, q6⟩
          | brk =>
            obtain ⟨σ6, H6, S6, q6⟩ := hsp
            exact end_ S6 fun s7 J7 => ⟨_, _, J7, q6⟩
          | cont =>
            obtain ⟨σ6, H6, S6, q6⟩ := hsp
            exact end_ S6 fun s7 J7 => ⟨_, _, J7, q6⟩
          | ret u =>
            obtain ⟨v6, σ6, H6, S6, r6, q6⟩ := hsp
            exact end_ S6 fun s7 J7 => ⟨_, _, _, J7, r6, q6⟩
        | false =>
          show wpAny _ X.A (handleBy (.ref a) X.env hds2) _ _ _
          exact ih (hno rfl)
    exact go hh w
  · cases f with
    | next =>
      obtain ⟨σ', H', J', q⟩ := hsp
      exact wpAny_execs_nil ⟨σ', H', J'.ofTry ok, q⟩
    | brk =>
      obtain ⟨σ', H', J', q⟩ := hsp
      exact ⟨σ', H', J'.ofTry ok, q⟩
    | cont =>
      obtain ⟨σ', H', J', q⟩ := hsp
      exact ⟨σ', H', J'.ofTry ok, q⟩
    | ret u =>
      obtain ⟨v, σ', H', J', r, q⟩ := hsp
      exact ⟨v, σ', H', J'.ofTry ok, r, q⟩
end
section
variable {K : PySem.W.Frag} {Wout : WX} {D : Ends} {c cls : Value} {ts : Addr → Value → Option Addr → TS} {l : List Cl} {σ : L2.St} {H : Hp} {d : Option Addr} {o : Option Nat}
theorem z_manyB1 (e : PySem.W.exmOne K cls c = some true) (h : ∀ a, H a = none → enterB D o (ts a cls d) a σ H) : WE (wManyB K Wout D ((c, o, ts) :: l)) σ cls d H := ⟨true, e, fun _ a ha => h a ha, fun z => Bool.noConfusion z⟩
theorem z_manyB0 (e : PySem.W.exmOne K cls c = some false) (h : WE (wManyB K Wout D l) σ cls d H) : WE (wManyB K Wout D ((c, o, ts) :: l)) σ cls d H := ⟨false, e, fun z => Bool.noConfusion z, fun _ => h⟩
theorem z_enter {n : L2.St → Hp → Prop} {r : VK} {b c : L2.St → Hp → Prop} {t : TS} {a : Addr} {i : Nat} (h : t ⟨fun σ' H' => n (σ'.set i none) H', r, fun σ' H' => b (σ'.set i none) H', fun σ' H' => c (σ'.set i none) H'⟩ (σ.set i (some (.ref a))) H) : enterB ⟨n, r, b, c⟩ (some i) t a σ H := h
end
end Tg
namespace Tg
open PySem PySem.Spec PyProof.Rows L2 Z
/-- x[i] of a tuple or of a text -/
def rIxA (K : PySem.W.Frag) : R2 := fun x y H Q => rIxT K x y H Q ∨ rIxS x y H Q
theorem ix_any {X : Cx} : IxR X (rIxA X.K) := by
  intro value slice pins s σ H x y v u Q I rx ry h hs
  rcases h with h | h
  · exact ix_tup value slice pins s σ H x y v u Q I rx ry h hs
  · exact ix_str value slice pins s σ H x y v u Q I rx ry h hs
end Tg

/-! a def with defaults that has a table: the table's emptiness is asked of the start -/
namespace Tg
open PySem PySem.Spec PyProof.Rows L2 Z GxR LamX
abbrev bareTab : Obj := { cls := .none, data := .fields #[] }
def hookT (Ps : List Addr) (K : Params → PySem.W.Frag) (as : List Addr) (e : ∀ P, as = (K P).map (·.1)) : PySem.W.Hook :=
  ⟨List (Option Obj) × List (Option Obj), fun s => (as.map s.heap.get?, Ps.map s.heap.get?), fun w => ((K w.params).map fun p => some p.2, Ps.map fun _ => some bareTab),
    fun w h => PySem.W.InK K w h ∧ ∀ P ∈ Ps, h.get? P = some bareTab,
    fun w s x => ⟨PySem.W.InK.of e w s (congrArg Prod.fst x), fun P hP => List.map_inj_left.mp (congrArg Prod.snd x) P hP⟩,
    fun w h h' x k => ⟨PySem.W.InK.keeps w h h' x.1 k, fun P hP => k _ _ (x.2 P hP)⟩⟩
def TabAllZ (q : Program) (Ps : List Addr) (K : PySem.W.Frag) (mg : Str → Option Value) (h : Heap) : Prop := TabAll q K mg h ∧ ∀ P ∈ Ps, h.get? P = some bareTab
theorem TabAllZ.at {q : Program} {Ps : List Addr} {K : PySem.W.Frag} {mg : Str → Option Value} {h : Heap} {c P : Addr} (Z : TabAllZ q Ps K mg h) (X : K.In h) (hP : P ∈ Ps) (hc : PySem.W.codeHdIn K c P = true) : h.get? P = some { cls := .none, data := .fields #[] } ∧ PySem.W.CodeHd h c P :=
  ⟨Z.2 P hP, PySem.W.codeHd_of_K X hc⟩
theorem walk_tabsZ {l : PySem.W.OpenLaw} {n k : Nat} {q : Program} {loose : List Str} {XP : (Str → Option Value) → Heap → Prop} {YP : World → Heap → Prop} {d : DefRec} {K : Params → PySem.W.Frag} {CX : World → CXT} {x : Str} (Ps : List Addr)
    (hn : l.most = some n) (hn2 : n ≤ sizeLine) (hdf : d.params.defaults = []) (hr : Room k callerA) (hY : ∀ (w : World) (h : Heap), YP w h → (K w.params).In h ∧ ∀ P ∈ Ps, h.get? P = some bareTab)
    (F : ∀ (w : World) (mg : Str → Option Value) (fa : Addr) (h : Heap), (K w.params).In h → h.Ns mainGlobals mg → mg d.name = some (.ref fa) → TabAllZ q Ps (K w.params) mg h → LawAtS l w (K w.params) (CX w) k n x mg fa h)
    (hCX : ∀ (w : World) (H : Hp) (s : Shared) (e : Value) (s' : Shared), CX w [] H s (fun _ _ _ => False) e s' → False) :
    PySem.W.WalkO q loose XP YP l.row.toRowW d [] (fun f vs => PySem.call f vs) := by
  refine Att.attach_callB hn hdf fun w s₀ s₁ mg mb fa o pm cd doc a vs ns G Y ho hd hcd hmg hobj hints hlen hbits hg => ?_
  obtain ⟨KX, KP⟩ := hY w _ Y
  have own : TabAll q (K w.params) mg s₁.heap := fun y fb c P o1 fd1 e dd vs1 sl k0 kg k1 k2 k3 k4 k5 => by
    obtain ⟨dL, hm, hn1⟩ := List.any_eq_true.mp k0
    have hn2 : dL.name = y := beq_iff_eq.mp hn1
    obtain ⟨a', o', fd', c', P', h1, h2, h3, h4, h5, h6⟩ := G.T.tab dL hm
    rw [hn2, kg] at h1
    cases h1
    have g1 := KX _ _ k1
    rw [g1] at h2
    cases h2
    rw [k2] at h3
    cases h3
    rw [k3] at h4
    cases h4
    have hcd := PySem.W.CodeHd.of h5 h6
    obtain ⟨⟨oc, vc, e1, _, e3, e4⟩, hP⟩ := h6
    have g2 := KX _ _ k4
    rw [g2] at e1
    cases e1
    cases e3
    rw [k5] at e4
    cases e4
    exact ⟨hP, hcd⟩
  obtain ⟨fd, cs, sp, hT, nT, C, hb, hsp, hF⟩ := F w mg fa _ KX G.T.g hmg ⟨own, KP⟩
  exact law_callTs KX G.T.g G.T.b G.T.builtins G.T.nolimit hg hT nT C G.T.bmain hobj hints (Nat.le_trans hlen hn2) hr hF hb (fun H hH hS => hsp H a ns hlen hbits hH hS) fun H e s' => hCX w H s₁ e s'
end Tg

namespace G
open PySem PySem.Spec PyProof.Rows L2 Z
def topS (i : Nat) : Stmt := PySem.Challenge.pw_fontwinding_k16_joined_points.main.body.getD i (.Pass ⟨0, 0, 0, 0⟩)
abbrev s_ratio : Stmt := topS 10
abbrev s_add : Stmt := topS 11
abbrev s_subtract : Stmt := topS 12
abbrev s_multiply : Stmt := topS 13
abbrev s_divide : Stmt := topS 14
abbrev s_compare : Stmt := topS 15
abbrev s_check_knots : Stmt := topS 18
abbrev s_join_points : Stmt := topS 23
abbrev s_is_smooth : Stmt := topS 24
abbrev s_joined_segment : Stmt := topS 25
abbrev s_smooth_segment : Stmt := topS 26
abbrev s_smooth_neighbor : Stmt := topS 27
abbrev s_way_from : Stmt := topS 28
abbrev s_half_way : Stmt := topS 29
abbrev s_ahead_of : Stmt := topS 30
abbrev s_behind : Stmt := topS 31
abbrev s__law_cell : Stmt := topS 33
abbrev s__law_stream : Stmt := topS 34
abbrev s__law_next : Stmt := topS 35
abbrev s__law_ratio : Stmt := topS 37
abbrev s__law_sum : Stmt := topS 39
abbrev s__law_difference : Stmt := topS 40
abbrev s__law_product : Stmt := topS 41
abbrev s__law_small : Stmt := topS 43
abbrev s__law_point : Stmt := topS 44
abbrev s__law_minus : Stmt := topS 46
abbrev s__law_moved : Stmt := topS 47
abbrev s__law_direction : Stmt := topS 48
abbrev s__law_segment : Stmt := topS 49
abbrev s__law_joins : Stmt := topS 50
abbrev s__law_refused : Stmt := topS 51
abbrev s_law : Stmt := topS 52
theorem sc_ratio : FnScope ["n", "d", "common", "top", "bottom"] ["n", "d"] (defScope s_ratio) := ⟨rfl, rfl, rfl, by decide +kernel, rfl, by decide +kernel, by decide +kernel⟩
theorem sc_add : FnScope ["a", "b"] ["a", "b"] (defScope s_add) := ⟨rfl, rfl, rfl, by decide +kernel, rfl, by decide +kernel, by decide +kernel⟩
theorem sc_subtract : FnScope ["a", "b"] ["a", "b"] (defScope s_subtract) := ⟨rfl, rfl, rfl, by decide +kernel, rfl, by decide +kernel, by decide +kernel⟩
theorem sc_multiply : FnScope ["a", "b"] ["a", "b"] (defScope s_multiply) := ⟨rfl, rfl, rfl, by decide +kernel, rfl, by decide +kernel, by decide +kernel⟩
theorem sc_divide : FnScope ["a", "b"] ["a", "b"] (defScope s_divide) := ⟨rfl, rfl, rfl, by decide +kernel, rfl, by decide +kernel, by decide +kernel⟩
theorem sc_compare : FnScope ["a", "b", "left", "right"] ["a", "b"] (defScope s_compare) := ⟨rfl, rfl, rfl, by decide +kernel, rfl, by decide +kernel, by decide +kernel⟩
theorem sc_check_knots : FnScope ["count"] ["count"] (defScope s_check_knots) := ⟨rfl, rfl, rfl, by decide +kernel, rfl, by decide +kernel, by decide +kernel⟩
theorem sc_join_points : FnScope ["points", "joins", "cycle", "join", "segments", "at"] ["points", "joins", "cycle"] (defScope s_join_points) := ⟨rfl, rfl, rfl, by decide +kernel, rfl, by decide +kernel, by decide +kernel⟩
theorem sc_is_smooth : FnScope ["join"] ["join"] (defScope s_is_smooth) := ⟨rfl, rfl, rfl, by decide +kernel, rfl, by decide +kernel, by decide +kernel⟩
theorem sc_joined_segment : FnScope ["points", "joins", "at", "cycle", "join"] ["points", "joins", "at", "cycle"] (defScope s_joined_segment) := ⟨rfl, rfl, rfl, by decide +kernel, rfl, by decide +kernel, by decide +kernel⟩
theorem sc_smooth_segment : FnScope ["points", "joins", "at", "cycle", "a", "b", "factor", "first", "second"] ["points", "joins", "at", "cycle"] (defScope s_smooth_segment) := ⟨rfl, rfl, rfl, by decide +kernel, rfl, by decide +kernel, by decide +kernel⟩
theorem sc_smooth_neighbor : FnScope ["joins", "at", "cycle"] ["joins", "at", "cycle"] (defScope s_smooth_neighbor) := ⟨rfl, rfl, rfl, by decide +kernel, rfl, by decide +kernel, by decide +kernel⟩
theorem sc_way_from : FnScope ["p", "q"] ["p", "q"] (defScope s_way_from) := ⟨rfl, rfl, rfl, by decide +kernel, rfl, by decide +kernel, by decide +kernel⟩
theorem sc_half_way : FnScope ["p", "q", "x", "y"] ["p", "q"] (defScope s_half_way) := ⟨rfl, rfl, rfl, by decide +kernel, rfl, by decide +kernel, by decide +kernel⟩
theorem sc_ahead_of : FnScope ["point", "factor", "way"] ["point", "factor", "way"] (defScope s_ahead_of) := ⟨rfl, rfl, rfl, by decide +kernel, rfl, by decide +kernel, by decide +kernel⟩
theorem sc_behind : FnScope ["point", "factor", "way"] ["point", "factor", "way"] (defScope s_behind) := ⟨rfl, rfl, rfl, by decide +kernel, rfl, by decide +kernel, by decide +kernel⟩
theorem sc__law_cell : FnScope ["script", "k"] ["script", "k"] (defScope s__law_cell) := ⟨rfl, rfl, rfl, by decide +kernel, rfl, by decide +kernel, by decide +kernel⟩
theorem sc__law_stream : FnScope ["cell"] ["cell"] (defScope s__law_stream) := ⟨rfl, rfl, rfl, by decide +kernel, rfl, by decide +kernel, by decide +kernel⟩
theorem sc__law_next : FnScope ["stream", "size", "drawn", "mixed"] ["stream", "size"] (defScope s__law_next) := ⟨rfl, rfl, rfl, by decide +kernel, rfl, by decide +kernel, by decide +kernel⟩
theorem sc__law_ratio : FnScope ["n", "d", "a", "b", "k"] ["n", "d"] (defScope s__law_ratio) := ⟨rfl, rfl, rfl, by decide +kernel, rfl, by decide +kernel, by decide +kernel⟩
theorem sc__law_sum : FnScope ["a", "b"] ["a", "b"] (defScope s__law_sum) := ⟨rfl, rfl, rfl, by decide +kernel, rfl, by decide +kernel, by decide +kernel⟩
theorem sc__law_difference : FnScope ["a", "b"] ["a", "b"] (defScope s__law_difference) := ⟨rfl, rfl, rfl, by decide +kernel, rfl, by decide +kernel, by decide +kernel⟩
theorem sc__law_product : FnScope ["a", "b"] ["a", "b"] (defScope s__law_product) := ⟨rfl, rfl, rfl, by decide +kernel, rfl, by decide +kernel, by decide +kernel⟩
theorem sc__law_small : FnScope ["stream"] ["stream"] (defScope s__law_small) := ⟨rfl, rfl, rfl, by decide +kernel, rfl, by decide +kernel, by decide +kernel⟩
theorem sc__law_point : FnScope ["stream", "x"] ["stream"] (defScope s__law_point) := ⟨rfl, rfl, rfl, by decide +kernel, rfl, by decide +kernel, by decide +kernel⟩
theorem sc__law_minus : FnScope ["p", "q"] ["p", "q"] (defScope s__law_minus) := ⟨rfl, rfl, rfl, by decide +kernel, rfl, by decide +kernel, by decide +kernel⟩
theorem sc__law_moved : FnScope ["p", "q", "number"] ["p", "q", "number"] (defScope s__law_moved) := ⟨rfl, rfl, rfl, by decide +kernel, rfl, by decide +kernel, by decide +kernel⟩
theorem sc__law_direction : FnScope ["points", "joins", "at", "is_cycle", "count", "before", "double"] ["points", "joins", "at", "is_cycle"] (defScope s__law_direction) := ⟨rfl, rfl, rfl, by decide +kernel, rfl, by decide +kernel, by decide +kernel⟩
theorem sc__law_segment : FnScope ["points", "joins", "k", "is_cycle", "a", "b", "leaving", "end", "coming", "tension", "factor"] ["points", "joins", "k", "is_cycle"] (defScope s__law_segment) := ⟨rfl, rfl, rfl, by decide +kernel, rfl, by decide +kernel, by decide +kernel⟩
theorem sc__law_joins : FnScope ["stream", "many", "joins", "k", "kind", "first"] ["stream", "many"] (defScope s__law_joins) := ⟨rfl, rfl, rfl, by decide +kernel, rfl, by decide +kernel, by decide +kernel⟩
theorem sc__law_refused : FnScope ["points", "joins", "is_cycle", "e"] ["points", "joins", "is_cycle"] (defScope s__law_refused) := ⟨rfl, rfl, rfl, by decide +kernel, rfl, by decide +kernel, by decide +kernel⟩
theorem sc_law : FnScope ["script", "stream", "count", "is_cycle", "points", "k", "joins", "bad", "segments", "handed", "actual"] ["script"] (defScope s_law) := ⟨rfl, rfl, rfl, by decide +kernel, rfl, by decide +kernel, by decide +kernel⟩
structure Txt (K : PySem.W.Frag) (mg : Str → Option Value) (A : Nat → Addr) (D : Nat → FuncData) (base : Heap) : Prop where
  F_ratio : Fun K "ratio" "ratio" s_ratio (A 5) (D 5)
  m_ratio : mg "ratio" = some (.ref (A 5))
  b_ratio : Binds K (D 5) ["n", "d"] []
  F_add : Fun K "add" "add" s_add (A 6) (D 6)
  m_add : mg "add" = some (.ref (A 6))
  b_add : Binds K (D 6) ["a", "b"] []
  F_subtract : Fun K "subtract" "subtract" s_subtract (A 7) (D 7)
  m_subtract : mg "subtract" = some (.ref (A 7))
  b_subtract : Binds K (D 7) ["a", "b"] []
  F_multiply : Fun K "multiply" "multiply" s_multiply (A 8) (D 8)
  m_multiply : mg "multiply" = some (.ref (A 8))
  b_multiply : Binds K (D 8) ["a", "b"] []
  F_divide : Fun K "divide" "divide" s_divide (A 9) (D 9)
  m_divide : mg "divide" = some (.ref (A 9))
  b_divide : Binds K (D 9) ["a", "b"] []
  F_compare : Fun K "compare" "compare" s_compare (A 10) (D 10)
  m_compare : mg "compare" = some (.ref (A 10))
  b_compare : Binds K (D 10) ["a", "b"] []
  F_check_knots : Fun K "check_knots" "check_knots" s_check_knots (A 11) (D 11)
  m_check_knots : mg "check_knots" = some (.ref (A 11))
  b_check_knots : Binds K (D 11) ["count"] []
  F_join_points : Fun K "join_points" "join_points" s_join_points (A 12) (D 12)
  m_join_points : mg "join_points" = some (.ref (A 12))
  b_join_points : ∃ ds, Vals [.bl false] ds ∧ Binds K (D 12) ["points", "joins", "cycle"] ds
  k_join_points_cycle : KBn K (D 12) ["points", "joins", "cycle"] 2 ["cycle"] (fun us ws => us ++ ws) (fun vs zs => vs ++ zs)
  k_join_points : (D 12).code = .ref (A 37)
  t_join_points : GxR.TabB base mg (A 37) (A 38)
  F_is_smooth : Fun K "is_smooth" "is_smooth" s_is_smooth (A 13) (D 13)
  m_is_smooth : mg "is_smooth" = some (.ref (A 13))
  b_is_smooth : Binds K (D 13) ["join"] []
  F_joined_segment : Fun K "joined_segment" "joined_segment" s_joined_segment (A 14) (D 14)
  m_joined_segment : mg "joined_segment" = some (.ref (A 14))
  b_joined_segment : Binds K (D 14) ["points", "joins", "at", "cycle"] []
  F_smooth_segment : Fun K "smooth_segment" "smooth_segment" s_smooth_segment (A 15) (D 15)
  m_smooth_segment : mg "smooth_segment" = some (.ref (A 15))
  b_smooth_segment : Binds K (D 15) ["points", "joins", "at", "cycle"] []
  F_smooth_neighbor : Fun K "smooth_neighbor" "smooth_neighbor" s_smooth_neighbor (A 16) (D 16)
  m_smooth_neighbor : mg "smooth_neighbor" = some (.ref (A 16))
  b_smooth_neighbor : Binds K (D 16) ["joins", "at", "cycle"] []
  F_way_from : Fun K "way_from" "way_from" s_way_from (A 17) (D 17)
  m_way_from : mg "way_from" = some (.ref (A 17))
  b_way_from : Binds K (D 17) ["p", "q"] []
  F_half_way : Fun K "half_way" "half_way" s_half_way (A 18) (D 18)
  m_half_way : mg "half_way" = some (.ref (A 18))
  b_half_way : Binds K (D 18) ["p", "q"] []
  F_ahead_of : Fun K "ahead_of" "ahead_of" s_ahead_of (A 19) (D 19)
  m_ahead_of : mg "ahead_of" = some (.ref (A 19))
  b_ahead_of : Binds K (D 19) ["point", "factor", "way"] []
  F_behind : Fun K "behind" "behind" s_behind (A 20) (D 20)
  m_behind : mg "behind" = some (.ref (A 20))
  b_behind : Binds K (D 20) ["point", "factor", "way"] []
  F__law_cell : Fun K "_law_cell" "_law_cell" s__law_cell (A 21) (D 21)
  m__law_cell : mg "_law_cell" = some (.ref (A 21))
  b__law_cell : Binds K (D 21) ["script", "k"] []
  F__law_stream : Fun K "_law_stream" "_law_stream" s__law_stream (A 22) (D 22)
  m__law_stream : mg "_law_stream" = some (.ref (A 22))
  b__law_stream : Binds K (D 22) ["cell"] []
  F__law_next : Fun K "_law_next" "_law_next" s__law_next (A 23) (D 23)
  m__law_next : mg "_law_next" = some (.ref (A 23))
  b__law_next : Binds K (D 23) ["stream", "size"] []
  F__law_ratio : Fun K "_law_ratio" "_law_ratio" s__law_ratio (A 24) (D 24)
  m__law_ratio : mg "_law_ratio" = some (.ref (A 24))
  b__law_ratio : Binds K (D 24) ["n", "d"] []
  F__law_sum : Fun K "_law_sum" "_law_sum" s__law_sum (A 25) (D 25)
  m__law_sum : mg "_law_sum" = some (.ref (A 25))
  b__law_sum : Binds K (D 25) ["a", "b"] []
  F__law_difference : Fun K "_law_difference" "_law_difference" s__law_difference (A 26) (D 26)
  m__law_difference : mg "_law_difference" = some (.ref (A 26))
  b__law_difference : Binds K (D 26) ["a", "b"] []
  F__law_product : Fun K "_law_product" "_law_product" s__law_product (A 27) (D 27)
  m__law_product : mg "_law_product" = some (.ref (A 27))
  b__law_product : Binds K (D 27) ["a", "b"] []
  F__law_small : Fun K "_law_small" "_law_small" s__law_small (A 28) (D 28)
  m__law_small : mg "_law_small" = some (.ref (A 28))
  b__law_small : Binds K (D 28) ["stream"] []
  F__law_point : Fun K "_law_point" "_law_point" s__law_point (A 29) (D 29)
  m__law_point : mg "_law_point" = some (.ref (A 29))
  b__law_point : Binds K (D 29) ["stream"] []
  F__law_minus : Fun K "_law_minus" "_law_minus" s__law_minus (A 30) (D 30)
  m__law_minus : mg "_law_minus" = some (.ref (A 30))
  b__law_minus : Binds K (D 30) ["p", "q"] []
  F__law_moved : Fun K "_law_moved" "_law_moved" s__law_moved (A 31) (D 31)
  m__law_moved : mg "_law_moved" = some (.ref (A 31))
  b__law_moved : Binds K (D 31) ["p", "q", "number"] []
  F__law_direction : Fun K "_law_direction" "_law_direction" s__law_direction (A 32) (D 32)
  m__law_direction : mg "_law_direction" = some (.ref (A 32))
  b__law_direction : Binds K (D 32) ["points", "joins", "at", "is_cycle"] []
  F__law_segment : Fun K "_law_segment" "_law_segment" s__law_segment (A 33) (D 33)
  m__law_segment : mg "_law_segment" = some (.ref (A 33))
  b__law_segment : Binds K (D 33) ["points", "joins", "k", "is_cycle"] []
  F__law_joins : Fun K "_law_joins" "_law_joins" s__law_joins (A 34) (D 34)
  m__law_joins : mg "_law_joins" = some (.ref (A 34))
  b__law_joins : Binds K (D 34) ["stream", "many"] []
  F__law_refused : Fun K "_law_refused" "_law_refused" s__law_refused (A 35) (D 35)
  m__law_refused : mg "_law_refused" = some (.ref (A 35))
  b__law_refused : Binds K (D 35) ["points", "joins", "is_cycle"] []
  F_law : Fun K "law" "law" s_law (A 36) (D 36)
  m_law : mg "law" = some (.ref (A 36))
  b_law : Binds K (D 36) ["script"] []
  x_FontError : Z.ExcX K mg "FontError" (A 0)
  x_TooGreat : Z.ExcX K mg "TooGreat" (A 1)
  x_DivisionByZero : Z.ExcX K mg "DivisionByZero" (A 2)
  x_OutOfRange : Z.ExcX K mg "OutOfRange" (A 3)
  x_TooMany : Z.ExcX K mg "TooMany" (A 4)
  e_FontError_FontError : PySem.W.subIn K (.ref (A 0)) (.ref (A 0)) = some true
  e_FontError_TooGreat : PySem.W.subIn K (.ref (A 0)) (.ref (A 1)) = some false
  e_FontError_DivisionByZero : PySem.W.subIn K (.ref (A 0)) (.ref (A 2)) = some false
  e_FontError_OutOfRange : PySem.W.subIn K (.ref (A 0)) (.ref (A 3)) = some false
  e_FontError_TooMany : PySem.W.subIn K (.ref (A 0)) (.ref (A 4)) = some false
  e_TooGreat_FontError : PySem.W.subIn K (.ref (A 1)) (.ref (A 0)) = some true
  e_TooGreat_TooGreat : PySem.W.subIn K (.ref (A 1)) (.ref (A 1)) = some true
  e_TooGreat_DivisionByZero : PySem.W.subIn K (.ref (A 1)) (.ref (A 2)) = some false
  e_TooGreat_OutOfRange : PySem.W.subIn K (.ref (A 1)) (.ref (A 3)) = some false
  e_TooGreat_TooMany : PySem.W.subIn K (.ref (A 1)) (.ref (A 4)) = some false
  e_DivisionByZero_FontError : PySem.W.subIn K (.ref (A 2)) (.ref (A 0)) = some true
  e_DivisionByZero_TooGreat : PySem.W.subIn K (.ref (A 2)) (.ref (A 1)) = some false
  e_DivisionByZero_DivisionByZero : PySem.W.subIn K (.ref (A 2)) (.ref (A 2)) = some true
  e_DivisionByZero_OutOfRange : PySem.W.subIn K (.ref (A 2)) (.ref (A 3)) = some false
  e_DivisionByZero_TooMany : PySem.W.subIn K (.ref (A 2)) (.ref (A 4)) = some false
  e_OutOfRange_FontError : PySem.W.subIn K (.ref (A 3)) (.ref (A 0)) = some true
  e_OutOfRange_TooGreat : PySem.W.subIn K (.ref (A 3)) (.ref (A 1)) = some false
  e_OutOfRange_DivisionByZero : PySem.W.subIn K (.ref (A 3)) (.ref (A 2)) = some false
  e_OutOfRange_OutOfRange : PySem.W.subIn K (.ref (A 3)) (.ref (A 3)) = some true
  e_OutOfRange_TooMany : PySem.W.subIn K (.ref (A 3)) (.ref (A 4)) = some false
  e_TooMany_FontError : PySem.W.subIn K (.ref (A 4)) (.ref (A 0)) = some true
  e_TooMany_TooGreat : PySem.W.subIn K (.ref (A 4)) (.ref (A 1)) = some false
  e_TooMany_DivisionByZero : PySem.W.subIn K (.ref (A 4)) (.ref (A 2)) = some false
  e_TooMany_OutOfRange : PySem.W.subIn K (.ref (A 4)) (.ref (A 3)) = some false
  e_TooMany_TooMany : PySem.W.subIn K (.ref (A 4)) (.ref (A 4)) = some true
  z_abs : mg "abs" = none
  z_bool : mg "bool" = none
  z_int : mg "int" = none
  z_isinstance : mg "isinstance" = none
  z_len : mg "len" = none
  z_list : mg "list" = none
  z_range : mg "range" = none
  z_tuple : mg "tuple" = none
  l_gcd : mg "gcd" = some (.builtin "math.gcd")
  c_ONE : mg "ONE" = some (.ref (A 39))
  d_ONE : ∀ H : Hp, Dp K H (.ref (A 39)) (.tuple [(.int (1)), (.int (1))])
  c_LEAST_TENSION : mg "LEAST_TENSION" = some (.ref (A 40))
  d_LEAST_TENSION : ∀ H : Hp, Dp K H (.ref (A 40)) (.tuple [(.int (3)), (.int (4))])
  c_HALF : mg "HALF" = some (.ref (A 41))
  d_HALF : ∀ H : Hp, Dp K H (.ref (A 41)) (.tuple [(.int (1)), (.int (2))])
  c_THREE : mg "THREE" = some (.ref (A 42))
  d_THREE : ∀ H : Hp, Dp K H (.ref (A 42)) (.tuple [(.int (3)), (.int (1))])
  c_LIMIT : ∃ u, mg "LIMIT" = some u ∧ RelV (.int (1000000000000000000)) u
  c_MOST_KNOTS : ∃ u, mg "MOST_KNOTS" = some u ∧ RelV (.int (24)) u
local macro_rules | `(tactic| walk_at "z1") => `(tactic| first
  | with_reducible refine z_seq ?_
  | with_reducible refine z_asg ?_
  | with_reducible refine z_asgS ?_
  | with_reducible refine z_ifs ?_
  | ((with_reducible refine' z_var ?h ?_); case h => with_unfolding_all exact rfl)
  | with_reducible refine z_c ?_
  | with_reducible refine z_op ?_
  | with_reducible refine z_un ?_
  | with_reducible refine z_I0 ?_
  | ((with_reducible refine z_I ?h ?_); case h => first | (exact Or.inr ⟨by decide, by decide⟩) | (exact Or.inl ⟨by decide, by decide⟩) | (show (0 : Int) < _; first | assumption | omega))
  | with_reducible refine z_U ?_
  | with_reducible refine z_eqI ?_
  | with_reducible refine z_neI ?_
  | with_reducible refine z_test ?_
  | with_reducible refine z_tB ?_
  | with_reducible refine z_bl ?_
  | with_reducible refine z_notT ?_
  | with_reducible refine z_andT ?_
  | with_reducible refine z_orT ?_
  | with_reducible refine z_andV ?_
  | with_reducible refine z_orV ?_
  | with_reducible refine z_notV ?_
  | with_reducible refine z_ifE ?_
  | with_reducible refine z_ifT ?_
  | with_reducible refine z_ifF ?_
  | with_reducible refine z_ifNT ?_
  | with_reducible refine z_ifNF ?_
  | with_reducible refine z_chain ?_
  | with_reducible refine z_nil ?_
  | with_reducible refine z_cons ?_
  | with_reducible refine z_tup ?_
  | with_reducible refine z_lst ?_
  | with_reducible refine z_cb ?_
  | with_reducible refine z_call ?_
  | with_reducible refine z_callS ?_
  | with_reducible refine z_int1 ?_
  | with_reducible refine z_int1b ?_
  | with_reducible refine z_abs ?_
  | with_reducible refine z_gcd ?_
  | with_reducible refine z_ret ?_
  | with_reducible refine z_retN ?_
  | with_reducible refine z_drop ?_
  | with_reducible refine z_next ?_
  | with_reducible refine z_brk ?_
  | with_reducible refine z_cont ?_
  | with_reducible refine z_par ?_
  | with_reducible refine z_two ?_
  | with_reducible refine z_asgT ?_
  | with_reducible refine z_sl ?_
  | with_reducible refine z_noPart ?_
  | with_reducible refine z_part ?_
  | with_reducible refine z_partI ?_
  | with_reducible refine z_gName ?_
  | with_reducible refine z_gcons ?_
  | with_reducible refine z_gnil ?_
  | ((with_reducible refine' z_up ?h ?hm ?_); (case h => walk_at "sq"); (case hm => exact rfl))
  | ((with_reducible refine' z_gT ?h ?hm ?_); (case h => walk_at "sq"); (case hm => exact rfl))
  | with_reducible refine z_isII ?_
  | with_reducible refine z_isNN ?_
  | with_reducible refine z_isNR ?_
  | with_reducible refine z_notNN ?_
  | with_reducible refine z_notNR ?_
  | with_reducible refine z_isIB ?_
  | with_reducible refine z_isBB ?_
  | ((with_reducible refine' z_isT ?h ?_); (case h => walk_at "sq"))
  | ((with_reducible refine' z_isLL ?h ?_); case h => assumption)
  | ((with_reducible refine z_newT ?h ?_); case h => exact Nat.le_of_ble_eq_true rfl)
  | ((with_reducible refine z_newL ?h ?_); case h => exact Nat.le_of_ble_eq_true rfl)
  | ((with_reducible refine' z_ixL ?h ?h2 ?_); (case h => walk_at "sq"); (case h2 => exact rfl))
  | ((with_reducible refine' z_ixT ?h ?h2 ?_); (case h => walk_at "sq"); (case h2 => exact rfl))
  | ((with_reducible refine' z_lenL ?h ?_); case h => walk_at "sq")
  | ((with_reducible refine' z_lenT ?h ?_); case h => walk_at "sq")
  | ((with_reducible refine z_ifYes ?h ?_); (case h => exact rfl))
  | ((with_reducible refine z_ifNo ?h ?_); (case h => exact rfl)))
local macro_rules | `(tactic| walk_at "sq") => `(tactic| first | assumption | exact Or.inl (Or.inl (by assumption)) | exact Or.inl (Or.inl upd_same))
local macro_rules | `(tactic| walk_at "z") => `(tactic| repeat (walk_at "z1"))
/-! ### promises -/
def sp__law_cell (K : PySem.W.Frag) : Sp := fun vs H Q _ => ∃ (l : Addr) (ns : List Int) (j : Nat), vs = [.ref l, .int (j : Int)] ∧ SqL K H l (ns.map V.int) ∧ ∀ v, Q (.int v) H
/-- a stream: three ints, whatever they are -/
def IsStm (H : Hp) (p : Addr) : Prop := ∃ a b m : Int, H p = some (.lst [.int a, .int b, .int m])
def sp__law_stream : Sp := fun vs H Q _ => ∃ c : Int, vs = [.int c] ∧ ∀ p H' a b m, H p = none → Same H H' → H' p = some (.lst [.int a, .int b, .int m]) → Q (.ref p) H'
def sp__law_next : Sp := fun vs H Q _ => ∃ (p : Addr) (z : Int), vs = [.ref p, .int z] ∧ IsStm H p ∧ 0 < z ∧ z.natAbs < 2 ^ 1000 ∧ ∀ v a b m, 0 ≤ v → v < z → Q (.int v) (upd H p (.lst [.int a, .int b, .int m]))
section
theorem ok__law_cell {P : Program} {w : World} {K : PySem.W.Frag} {mg : Str → Option Value} {base : Heap} {A : Nat → Addr} {D : Nat → FuncData} (T : Txt K mg A D base) : FnOk P w K mg base (L2.CX P w) 1 (A 21) (D 21) ["script", "k"] (sp__law_cell K) := by
  refine T.F__law_cell.okX sc__law_cell (fun vs H Q E h => ?_) (fun cdv A' outer s H vs Q E hr h => ?_)
  · obtain ⟨l, ns, j, rfl, _⟩ := h
    rfl
  obtain ⟨l, ns, j, rfl, hS, q⟩ := h
  refine ⟨_, (pss_cons (ps_if (pt_cmpR op_lt (pv 1) (pe_callB Z.c_len (by rfl) T.z_len (by decide +kernel) (pa_cons (pv 0) pa_nil)) (nomark _))
  (pss_one (ps_ret (pe_ix ix_list (pv 0) (pv 1) (fun _ _ => rfl))))
  pss_nil)
  (pss_one (ps_ret pe_int))), ?_⟩
  walk_at "z"
  refine z_if (fun hj => ?_) (fun _ => ?_)
  · walk_at "z"
    rw [List.length_map] at hj
    have hj' : j < ns.length := by omega
    refine z_ixL hS (v := .int ns[j]) (atI_nat (by rw [List.getElem?_map, List.getElem?_eq_getElem hj']; rfl)) (q _)
  · walk_at "z"
    exact q 0
theorem ok__law_stream {P : Program} {w : World} {K : PySem.W.Frag} {mg : Str → Option Value} {base : Heap} {A : Nat → Addr} {D : Nat → FuncData} (T : Txt K mg A D base) : FnOk P w K mg base (L2.CX P w) 1 (A 22) (D 22) ["cell"] sp__law_stream := by
  refine T.F__law_stream.okX sc__law_stream (fun vs H Q E h => ?_) (fun cdv A' outer s H vs Q E hr h => ?_)
  · obtain ⟨c, rfl, _⟩ := h
    rfl
  obtain ⟨c, rfl, q⟩ := h
  refine ⟨_, (pss_cons (ps_if (pt_cmpR op_ge (pv 0) (Z.pe_powc (v := 1000000000000000000) ⟨by decide, by decide, by decide⟩ (by decide)) (nomark _))
  (pss_one (ps_ret (pe_lst (pa_cons (pv 0) (pa_cons pe_int (pa_cons (pe_op op_mod (pe_callTy Z.c_int (by rfl) T.z_int (by decide +kernel) (pa_cons (pv 0) pa_nil)) pe_int) pa_nil))))))
  pss_nil)
  (pss_one (ps_ret (pe_lst (pa_cons pe_int (pa_cons pe_int (pa_cons (pe_op op_mod (pe_callTy Z.c_int (by rfl) T.z_int (by decide +kernel) (pa_cons (pv 0) pa_nil)) pe_int) pa_nil))))))), ?_⟩
  walk_at "z"
  refine z_if (fun hj => ?_) (fun _ => ?_)
  · walk_at "z"
    exact fun p H' hp s h => q p H' _ _ _ hp s h
  · walk_at "z"
    exact fun p H' hp s h => q p H' _ _ _ hp s h
theorem ok__law_next {P : Program} {w : World} {K : PySem.W.Frag} {mg : Str → Option Value} {base : Heap} {A : Nat → Addr} {D : Nat → FuncData} (T : Txt K mg A D base) : FnOk P w K mg base (L2.CX P w) 1 (A 23) (D 23) ["stream", "size"] sp__law_next := by
  refine T.F__law_next.okX sc__law_next (fun vs H Q E h => ?_) (fun cdv A' outer s H vs Q E hr h => ?_)
  · obtain ⟨p, z, rfl, _⟩ := h
    rfl
  obtain ⟨p, z, rfl, ⟨a, b, m, hp⟩, hz, hz2, q⟩ := h
  refine ⟨_, (pss_cons (ps_if (pt_cmpR op_gt (pe_ix ix_list (pv 0) pe_int (fun _ _ => rfl)) pe_int (nomark _))
  (pss_cons (ps_set (i := 2) sc__law_next.nd rfl (.inl rfl) (pe_op op_mod (pe_callTy Z.c_int (by rfl) T.z_int (by decide +kernel) (pa_cons (pe_ix ix_list (pv 0) pe_int (fun _ _ => rfl)) pa_nil)) (pv 1)))
  (pss_cons (ps_asg (pe_op op_fdivW (pe_ix ix_list (pv 0) pe_int (fun _ _ => rfl)) (pv 1)) (pg_sub (pv 0) pe_int set_list))
  (pss_one (ps_ret (pv 2)))))
  pss_nil)
  (pss_cons (ps_asg (pe_op op_add (pe_ix ix_list (pv 0) pe_int (fun _ _ => rfl)) pe_int) (pg_sub (pv 0) pe_int set_list))
  (pss_cons (ps_set (i := 3) sc__law_next.nd rfl (.inl rfl) (pe_op op_mod (pe_callTy Z.c_int (by rfl) T.z_int (by decide +kernel) (pa_cons (pe_op op_add (pe_op op_mul (pe_ix ix_list (pv 0) pe_int (fun _ _ => rfl)) pe_int) (pe_op op_mul (pe_ix ix_list (pv 0) pe_int (fun _ _ => rfl)) pe_int)) pa_nil)) pe_int))
  (pss_cons (ps_set (i := 3) sc__law_next.nd rfl (.inl rfl) (pe_op op_mod (pe_callTy Z.c_int (by rfl) T.z_int (by decide +kernel) (pa_cons (pe_op op_add (pe_op op_mulW (pv 3) (pv 3)) (pe_op op_mul (pe_ix ix_list (pv 0) pe_int (fun _ _ => rfl)) pe_int)) pa_nil)) pe_int))
  (pss_cons (ps_set (i := 3) sc__law_next.nd rfl (.inl rfl) (pe_op op_mod (pe_callTy Z.c_int (by rfl) T.z_int (by decide +kernel) (pa_cons (pe_op op_add (pe_op op_mul (pv 3) pe_int) (pe_ix ix_list (pv 0) pe_int (fun _ _ => rfl))) pa_nil)) pe_int))
  (pss_one (ps_ret (pe_op op_mod (pe_callTy Z.c_int (by rfl) T.z_int (by decide +kernel) (pa_cons (pv 3) pa_nil)) (pv 1))))))))), ?_⟩
  walk_at "z"
  refine z_if (fun hj => ?_) (fun _ => ?_)
  · walk_at "z"
    refine z_I (wide_div hz hz2 (by decide) (by decide)) ?_
    walk_at "z"
    refine z_setL hp rfl ?_
    walk_at "z"
    exact q _ _ _ _ (Int.emod_nonneg _ (by omega)) (Int.emod_lt_of_pos _ hz)
  · walk_at "z"
    refine z_setL hp rfl ?_
    have hp1 : (upd H p (HO.lst ([V.int a, V.int b, V.int m].set (Int.toNat 1) (V.int (b + 1))))) p = some (.lst [V.int a, V.int (b + 1), V.int m]) := upd_same
    walk_at "z"
    refine z_I ?_ ?_
    · exact wide_mul (a := 32) (b := 32) (by omega) (by omega) (by decide) (by decide) (by decide)
    walk_at "z"
    exact q _ _ _ _ (Int.emod_nonneg _ (by omega)) (Int.emod_lt_of_pos _ hz)
end

/-! ### numbers in lowest terms -/
theorem gd_pos {n d : Int} (h : d ≠ 0) : 0 < gd n d := by
  unfold gd
  have : 0 < Nat.gcd n.natAbs d.natAbs := Nat.gcd_pos_of_pos_right _ (by omega)
  omega
theorem gd_dvd_l (n d : Int) : gd n d ∣ n := by
  unfold gd
  exact Int.dvd_trans (Int.natCast_dvd_natCast.mpr (Nat.gcd_dvd_left _ _)) (Int.natAbs_dvd_self)
theorem gd_dvd_r (n d : Int) : gd n d ∣ d := by
  unfold gd
  exact Int.dvd_trans (Int.natCast_dvd_natCast.mpr (Nat.gcd_dvd_right _ _)) (Int.natAbs_dvd_self)
theorem rd_pos {n d : Int} (h : d ≠ 0) : 0 < rd n d := by
  have g := gd_pos (n := n) h
  obtain ⟨k, hk⟩ := gd_dvd_r n d
  unfold rd
  split
  · rename_i hd
    have e : -d = gd n d * (-k) := by rw [Int.mul_neg, ← hk]
    rw [e, Int.mul_ediv_cancel_left _ (by omega)]
    have : ¬ 0 ≤ k := fun z => by have := Int.mul_nonneg (Int.le_of_lt g) z; omega
    omega
  · rename_i hd
    have e : d / gd n d = k := Int.ediv_eq_of_eq_mul_right (by omega) hk
    rw [e]
    have : ¬ k ≤ 0 := fun z => by have := Int.mul_nonpos_of_nonneg_of_nonpos (Int.le_of_lt g) z; omega
    omega
/-- what the program divides: by the negative of the common divisor where d is negative -/
theorem fdiv_neg {n g : Int} (hg : 0 < g) (h : g ∣ n) : Int.fdiv n (-g) = -n / g := by
  obtain ⟨k, rfl⟩ := h
  rw [show g * k = (-g) * (-k) by rw [Int.neg_mul_neg], Int.mul_fdiv_cancel_left _ (by omega), Int.neg_mul_neg, show -(g * k) = g * (-k) by rw [Int.mul_neg], Int.mul_ediv_cancel_left _ (by omega)]
theorem fdiv_pos {n g : Int} (hg : 0 < g) : Int.fdiv n g = n / g := Int.fdiv_eq_ediv_of_nonneg _ (by omega)
theorem gd_log {n d : Int} {k : Nat} (h : d ≠ 0) (hd : d.natAbs < 2 ^ k) : (gd n d).natAbs < 2 ^ k := by
  have : Nat.gcd n.natAbs d.natAbs ≤ d.natAbs := Nat.gcd_le_right _ (by omega)
  unfold gd
  omega
theorem cfd {j : Int} (h : j ≠ 0) (hj : j.natAbs < 2 ^ 1000) : CFd 0 j := ⟨h, Nat.lt_of_lt_of_le (PySem.Flt.log2_lt_of (by decide) hj) (by decide)⟩
theorem lt4 {a : Nat} (h : a < 2 ^ 400) : a < 2 ^ 1000 := Nat.lt_of_lt_of_le h (Nat.pow_le_pow_right (by decide) (by decide))
theorem lt1000 {a : Nat} (h : a < 2 ^ 100) : a < 2 ^ 1000 := Nat.lt_of_lt_of_le h (Nat.pow_le_pow_right (by decide) (by decide))
/-! ### ratio -/
/-- a value that stands for d is handed back -/
def RetD (K : PySem.W.Frag) (H : Hp) (d : PyData) (Q : VK) : Prop := ∀ v H', Same H H' → Dp K H' v d → Q v H'
def OutQ (K : PySem.W.Frag) (A : Nat → Addr) (r : Rat) (H : Hp) (Q : VK) (E : XK) : Prop := (¬ fitsQ r → E (.ref (A 1)) none H) ∧ (fitsQ r → RetD K H (qD r) Q)
def sp_ratio (K : PySem.W.Frag) (A : Nat → Addr) : Sp := fun vs H Q E => ∃ n d : Int, vs = [.int n, .int d] ∧ n.natAbs < 2 ^ 1000 ∧ d.natAbs < 2 ^ 1000 ∧ (d = 0 → E (.ref (A 2)) none H) ∧ (d ≠ 0 → OutQ K A (Rat.divInt n d) H Q E)
theorem fits_q {n d : Int} (h : d ≠ 0) : fitsQ (Rat.divInt n d) ↔ (-lim ≤ rn n d ∧ rn n d ≤ lim ∧ rd n d ≤ lim) := by
  rw [rn_q h, rd_q h]
  rfl
section
theorem ok_ratio {P : Program} {w : World} {K : PySem.W.Frag} {mg : Str → Option Value} {base : Heap} {A : Nat → Addr} {D : Nat → FuncData} (T : Txt K mg A D base) : FnOk P w K mg base (L2.CX P w) 1 (A 5) (D 5) ["n", "d"] (sp_ratio K A) := by
  refine T.F_ratio.okX sc_ratio (fun vs H Q E h => ?_) (fun cdv A' outer s H vs Q E hr h => ?_)
  · obtain ⟨n, d, rfl, _⟩ := h
    rfl
  obtain ⟨n, d, rfl, hn, hd, k0, kO⟩ := h
  refine ⟨_, (pss_cons (ps_if (pt_cmpR op_eq (pv 1) pe_int (nomark _))
  (pss_one (ps_raise rfl (takes_of rfl rfl rfl rfl) (Z.pmk T.x_DivisionByZero (by rfl))))
  pss_nil)
  (pss_cons (ps_set (i := 2) sc_ratio.nd rfl (.inl rfl) (pe_callBfun cr_gcd (by rfl) T.l_gcd (pa_cons (pv 0) (pa_cons (pv 1) pa_nil))))
  (pss_cons (ps_if (pt_cmpR op_lt (pv 1) pe_int (nomark _))
  (pss_one (ps_set (i := 2) sc_ratio.nd rfl (.inl rfl) (pe_un un_neg (pv 2))))
  pss_nil)
  (pss_cons (ps_set (i := 3) sc_ratio.nd rfl (.inl rfl) (pe_op Z.op_fdivZ (pv 0) (pv 2)))
  (pss_cons (ps_set (i := 4) sc_ratio.nd rfl (.inl rfl) (pe_op Z.op_fdivZ (pv 1) (pv 2)))
  (pss_cons (ps_if (PW.pt (pw_or (pt_not (pt_chain op_le op_le (pe_un un_neg (Z.pe_globE T.c_LIMIT)) (pv 3) (Z.pe_globE T.c_LIMIT))) (pw_or1 (pt_cmpR op_gt (pv 4) (Z.pe_globE T.c_LIMIT) (nomark _)))))
  (pss_one (ps_raise rfl (takes_of rfl rfl rfl rfl) (Z.pmk T.x_TooGreat (by rfl))))
  pss_nil)
  (pss_one (ps_ret (pe_tup (pa_cons (pv 3) (pa_cons (pv 4) pa_nil))))))))))), ?_⟩
  walk_at "z"
  refine z_if (fun h0 => k0 h0) (fun h0 => ?_)
  walk_at "z"
  have hg := gd_pos (n := n) h0
  have hgl := gd_log (n := n) h0 hd
  have end1 : ¬ (-lim ≤ rn n d ∧ rn n d ≤ lim ∧ rd n d ≤ lim) → E (.ref (A 1)) none H := fun f => (kO h0).1 fun z => f ((fits_q h0).mp z)
  have end2 : (-lim ≤ rn n d ∧ rn n d ≤ lim ∧ rd n d ≤ lim) → ∀ p H', Same H H' → H' p = some (.tup [.int (rn n d), .int (rd n d)]) → Q (.ref p) H' := fun f p H' s h => (kO h0).2 ((fits_q h0).mpr f) (.ref p) H' s (dp_mkq (by rw [← rn_q h0, ← rd_q h0]; exact h))
  refine z_if (fun hd0 => ?_) (fun hd0 => ?_)
  · have e1 : Int.fdiv n (-((Nat.gcd n.natAbs d.natAbs : Nat) : Int)) = rn n d := by
      show Int.fdiv n (-gd n d) = rn n d
      rw [fdiv_neg hg (gd_dvd_l n d)]
      unfold rn
      rw [if_pos hd0]
    have e2 : Int.fdiv d (-((Nat.gcd n.natAbs d.natAbs : Nat) : Int)) = rd n d := by
      show Int.fdiv d (-gd n d) = rd n d
      rw [fdiv_neg hg (gd_dvd_r n d)]
      unfold rd
      rw [if_pos hd0]
    walk_at "z"
    refine z_I (show CFd _ (-gd n d) from cfd (by omega) (by omega)) ?_
    rw [e1]
    walk_at "z"
    refine z_I (show CFd _ (-gd n d) from cfd (by omega) (by omega)) ?_
    rw [e2]
    walk_at "z"
    refine z_if (fun c1 => ?_) (fun c1 => ?_)
    · walk_at "z"
      refine z_ifN (fun c2 => ?_) (fun c2 => ?_)
      · walk_at "z"
        exact end1 fun f => c2 f.2.1
      · walk_at "z"
        refine z_if (fun c3 => ?_) (fun c3 => ?_)
        · exact end1 fun f => by have := f.2.2; unfold lim at this; omega
        · walk_at "z"
          exact fun p H' _ s h => end2 ⟨c1, c2, by unfold lim; omega⟩ p H' s h
    · walk_at "z"
      exact end1 fun f => c1 f.1
  · have e1 : Int.fdiv n (((Nat.gcd n.natAbs d.natAbs : Nat) : Int)) = rn n d := by
      show Int.fdiv n (gd n d) = rn n d
      rw [fdiv_pos hg]
      unfold rn
      rw [if_neg hd0]
    have e2 : Int.fdiv d (((Nat.gcd n.natAbs d.natAbs : Nat) : Int)) = rd n d := by
      show Int.fdiv d (gd n d) = rd n d
      rw [fdiv_pos hg]
      unfold rd
      rw [if_neg hd0]
    walk_at "z"
    refine z_I (show CFd _ (gd n d) from cfd (by omega) (by omega)) ?_
    rw [e1]
    walk_at "z"
    refine z_I (show CFd _ (gd n d) from cfd (by omega) (by omega)) ?_
    rw [e2]
    walk_at "z"
    refine z_if (fun c1 => ?_) (fun c1 => ?_)
    · walk_at "z"
      refine z_ifN (fun c2 => ?_) (fun c2 => ?_)
      · walk_at "z"
        exact end1 fun f => c2 f.2.1
      · walk_at "z"
        refine z_if (fun c3 => ?_) (fun c3 => ?_)
        · exact end1 fun f => by have := f.2.2; unfold lim at this; omega
        · walk_at "z"
          exact fun p H' _ s h => end2 ⟨c1, c2, by unfold lim; omega⟩ p H' s h
    · walk_at "z"
      exact end1 fun f => c1 f.1
end

/-! ### the law's own Euclid -/
structure Eu (M : Nat) (G i a b : Nat) : Prop where
  g : Nat.gcd a b = G
  o : (i = 0 ∧ a * b = M) ∨ (b < a ∧ a * b * 2 ^ i ≤ 2 * M)
theorem Eu.start {a b : Nat} : Eu (a * b) (Nat.gcd a b) 0 a b := ⟨rfl, .inl ⟨rfl, rfl⟩⟩
theorem Eu.next {M G i a b : Nat} (h : Eu M G i a b) (hb : b ≠ 0) : Eu M G (i + 1) b (a % b) := by
  have hlt : a % b < b := Nat.mod_lt _ (by omega)
  refine ⟨?_, .inr ⟨hlt, ?_⟩⟩
  · rw [← h.g, Nat.gcd_comm a b, Nat.gcd_comm b (a % b)]
    exact (Nat.gcd_rec b a).symm
  · have hm : a * b * 2 ^ i ≤ 2 * M := by
      rcases h.o with ⟨z, w⟩ | ⟨_, w⟩
      · subst z
        rw [w]
        omega
      · exact w
    by_cases hab : a < b
    · have e : a % b = a := Nat.mod_eq_of_lt hab
      have hi : i = 0 ∧ a * b = M := by
        rcases h.o with z | z
        · exact z
        · omega
      obtain ⟨rfl, w⟩ := hi
      rw [e, Nat.mul_comm b a, w]
      omega
    · have h2 : 2 * (a % b) ≤ a := by
        have h3 : a % b ≤ a - b := by
          rw [Nat.mod_eq_sub_mod (by omega)]
          exact Nat.mod_le _ _
        omega
      have h4 : b * (a % b) * 2 ≤ a * b := by
        rw [Nat.mul_assoc, Nat.mul_comm (a % b) 2, Nat.mul_comm a b]
        exact Nat.mul_le_mul_left b h2
      calc b * (a % b) * 2 ^ (i + 1) = (b * (a % b) * 2) * 2 ^ i := by rw [Nat.pow_succ, Nat.mul_comm (2 ^ i) 2, ← Nat.mul_assoc]
        _ ≤ (a * b) * 2 ^ i := Nat.mul_le_mul_right _ h4
        _ ≤ 2 * M := hm
set_option exponentiation.threshold 2000 in
theorem Eu.zero {G a b x y : Nat} (h : Eu (x * y) G 1000 a b) (hx : x < 2 ^ 400) (hy : y < 2 ^ 400) : b = 0 := by
  have h1 : x * y < 2 ^ 400 * 2 ^ 400 := Nat.mul_lt_mul'' hx hy
  rcases h.o with ⟨z, _⟩ | ⟨w, h2⟩
  · omega
  have h3 : a * b = 0 := by
    rcases Nat.eq_zero_or_pos (a * b) with z | z
    · exact z
    · have : 2 ^ 1000 ≤ a * b * 2 ^ 1000 := Nat.le_mul_of_pos_left _ z
      have e : 2 * (2 ^ 400 * 2 ^ 400) < 2 ^ 1000 := by decide
      omega
  rcases Nat.mul_eq_zero.mp h3 with z | z
  · omega
  · exact z
def sp__law_ratio (K : PySem.W.Frag) : Sp := fun vs H Q _ => ∃ n d : Int, vs = [.int n, .int d] ∧ d ≠ 0 ∧ n.natAbs < 2 ^ 400 ∧ d.natAbs < 2 ^ 400 ∧ RetD K H (qD (Rat.divInt n d)) Q
theorem abs_eq (n : Int) : (if n < 0 then -n else n) = (n.natAbs : Int) := by
  split <;> omega
section
theorem ok__law_ratio {P : Program} {w : World} {K : PySem.W.Frag} {mg : Str → Option Value} {base : Heap} {A : Nat → Addr} {D : Nat → FuncData} (T : Txt K mg A D base) : FnOk P w K mg base (L2.CX P w) 1 (A 24) (D 24) ["n", "d"] (sp__law_ratio K) := by
  refine T.F__law_ratio.okX sc__law_ratio (fun vs H Q E h => ?_) (fun cdv A' outer s H vs Q E hr h => ?_)
  · obtain ⟨n, d, rfl, _⟩ := h
    rfl
  obtain ⟨n, d, rfl, h0, hn, hd, q⟩ := h
  refine ⟨_, (pss_cons (ps_set (i := 2) sc__law_ratio.nd rfl (.inl rfl) (pe_callB Z.c_abs (by rfl) T.z_abs (by decide +kernel) (pa_cons (pv 0) pa_nil)))
  (pss_cons (ps_set (i := 3) sc__law_ratio.nd rfl (.inl rfl) (pe_callB Z.c_abs (by rfl) T.z_abs (by decide +kernel) (pa_cons (pv 1) pa_nil)))
  (pss_cons (ps_for (passes_of rfl) rfl (pi_range1 (by rfl) T.z_range (pa_cons pe_int pa_nil)) (pg_name (i := 4) sc__law_ratio.nd rfl (.inl rfl))
  (pss_cons (ps_if (pt_cmpR op_eq (pv 3) pe_int (nomark _))
  (pss_one ps_break)
  pss_nil)
  (pss_one (ps_par (i := 2) (j := 3) (by rfl) sc__law_ratio.nd rfl rfl (by decide) rfl rfl (pa_cons (pv 3) (pa_cons (pe_op op_mod (pe_callTy Z.c_int (by rfl) T.z_int (by decide +kernel) (pa_cons (pv 2) pa_nil)) (pv 3)) pa_nil)) (by rfl)))))
  (pss_cons (ps_if (pt_cmpR op_lt (pv 1) pe_int (nomark _))
  (pss_one (ps_set (i := 0) sc__law_ratio.nd rfl (.inl rfl) (pe_op op_sub pe_int (pv 0))))
  pss_nil)
  (pss_one (ps_ret (pe_tup (pa_cons (pe_op op_fdivW (pv 0) (pv 2)) (pa_cons (pe_op op_fdivW (pe_callB Z.c_abs (by rfl) T.z_abs (by decide +kernel) (pa_cons (pv 1) pa_nil)) (pv 2)) pa_nil))))))))), ?_⟩
  walk_at "z"
  rw [abs_eq, abs_eq]
  have fin : ∀ (σ' : L2.St) (kv : Option V), σ' = [some (.int n), some (.int d), some (.int (gd n d)), some (.int 0), kv] →
      (tSeq (tIfS (tTest (tOp (rI0 fun i j => V.bl (decide (i < j))) (tVar 1) (tC (V.int 0)))) (tAsg (tOp (rI0 fun i j => V.int (i - j)) (tC (V.int 0)) (tVar 0)) (gName 0)) tNext)
          (tRet (tTup (tCons (tOp (rI CDivW fun i j => V.int (i / j)) (tVar 0) (tVar 2)) (tCons (tOp (rI CDivW fun i j => V.int (i / j)) (tCB rAbs (tCons (tVar 1) tNil)) (tVar 2)) tNil))))
          { nx := fun x H' => Q V.non H', rt := Q }) σ' H := by
    rintro σ' kv rfl
    have hg := gd_pos (n := n) h0
    have hgl := gd_log (n := n) h0 hd
    walk_at "z"
    refine z_if (fun c => ?_) (fun c => ?_)
    · walk_at "z"
      refine z_I (wide_div hg hgl (by decide) (by decide)) ?_
      walk_at "z"
      refine z_I (wide_div hg hgl (by decide) (by decide)) ?_
      walk_at "z"
      have e1 : (0 - n) / gd n d = rn n d := by
        unfold rn
        rw [if_pos c, Int.zero_sub]
      have e2 : (if d < 0 then -d else d) / gd n d = rd n d := rfl
      rw [e1, e2]
      exact fun p H' _ s h => q (.ref p) H' s (dp_mkq (by rw [← rn_q h0, ← rd_q h0]; exact h))
    · walk_at "z"
      refine z_I (wide_div hg hgl (by decide) (by decide)) ?_
      walk_at "z"
      refine z_I (wide_div hg hgl (by decide) (by decide)) ?_
      walk_at "z"
      have e1 : n / gd n d = rn n d := by
        unfold rn
        rw [if_neg c]
      have e2 : (if d < 0 then -d else d) / gd n d = rd n d := rfl
      rw [e1, e2]
      exact fun p H' _ s h => q (.ref p) H' s (dp_mkq (by rw [← rn_q h0, ← rd_q h0]; exact h))
  refine z_forR1 1000 (by decide) (fun R q => by walk_at "z"; exact q) (fun i σ' H' => H' = H ∧ ∃ (a b : Nat) (kv : Option V), σ' = [some (.int n), some (.int d), some (.int (a : Int)), some (.int (b : Int)), kv] ∧ Eu (n.natAbs * d.natAbs) (Nat.gcd n.natAbs d.natAbs) i a b)
    ⟨rfl, _, _, _, rfl, Eu.start⟩ ?_ ?_
  · rintro i σ' H' hi ⟨rfl, a, b, kv, rfl, eu⟩
    walk_at "z"
    refine z_if (fun c => ?_) (fun c => ?_)
    · walk_at "z1"
      have hb : b = 0 := by omega
      subst hb
      have ha : a = Nat.gcd n.natAbs d.natAbs := by rw [← eu.g, Nat.gcd_zero_right]
      subst ha
      exact fin _ _ rfl
    · walk_at "z"
      refine ⟨rfl, b, a % b, some (.int (i : Int)), ?_, eu.next (by omega)⟩
      rw [Int.natCast_emod]
      rfl
  · rintro σ' H' ⟨rfl, a, b, kv, rfl, eu⟩
    have hb := eu.zero hn hd
    subst hb
    have ha : a = Nat.gcd n.natAbs d.natAbs := by rw [← eu.g, Nat.gcd_zero_right]
    subst ha
    exact fin _ _ rfl
end


/-! ### the draws of a law: the heap H0 stands, a stream stands at p -/
structure Sd (H0 H : Hp) (p : Addr) : Prop where
  same : Same H0 H
  fresh : H0 p = none
  stm : IsStm H p
theorem Sd.mk0 {H H' : Hp} {p : Addr} {a b m : Int} (h : H p = none) (s : Same H H') (e : H' p = some (.lst [.int a, .int b, .int m])) : Sd H H' p := ⟨s, h, a, b, m, e⟩
theorem Sd.mono {H0 H H' : Hp} {p : Addr} (S : Sd H0 H p) (s : Same H H') : Sd H0 H' p := by
  obtain ⟨a, b, m, e⟩ := S.stm
  exact ⟨S.same.trans s, S.fresh, a, b, m, s _ _ e⟩
theorem nx {H0 H : Hp} {p : Addr} {z : Int} {Q : VK} {E : XK} (S : Sd H0 H p) (hz : 0 < z) (hz2 : z.natAbs < 2 ^ 1000) (q : ∀ v H', 0 ≤ v → v < z → Sd H0 H' p → (∀ b, b ≠ p → H' b = H b) → Q (.int v) H') : sp__law_next [.ref p, .int z] H Q E := by
  refine ⟨p, z, rfl, S.stm, hz, hz2, fun v a b m h0 h1 => q v _ h0 h1 ⟨fun c o e => ?_, S.fresh, a, b, m, upd_same⟩ fun b hb => upd_ne hb⟩
  rw [upd_ne (ne_of_none e S.fresh)]
  exact S.same c o e
theorem Sd.ext {H0 H : Hp} {p q : Addr} {o : HO} (S : Sd H0 H p) (h : H q = none) : Sd H0 (upd H q o) p := by
  obtain ⟨a, b, m, hp⟩ := S.stm
  exact ⟨S.same.trans (same_upd h), S.fresh, a, b, m, by rw [upd_ne (ne_of_none hp h)]; exact hp⟩
theorem kp_refl {p : Addr} {H : Hp} : Kp p H H := fun _ _ _ e => e
theorem _root_.Z.Kp.trans' {p : Addr} {H H1 H2 : Hp} (a : Kp p H H1) (b : Kp p H1 H2) : Kp p H H2 := fun c o h e => b c o h (a c o h e)
theorem kp_eq {p : Addr} {H H' : Hp} (k : ∀ b, b ≠ p → H' b = H b) : Kp p H H' := fun b o h e => by
  rw [k b h]
  exact e
theorem kp_of {p : Addr} {H H' : Hp} (s : Same H H') : Kp p H H' := fun b x _ e => s b x e
theorem Sd.ne {H0 H : Hp} {p q : Addr} {xs : List V} (S : Sd H0 H p) (h : H q = some (.tup xs)) : q ≠ p := by
  obtain ⟨_, _, _, e⟩ := S.stm
  exact ne_of h e (by intro z; cases z)
theorem Sd.ne0 {H0 H : Hp} {p q : Addr} (S : Sd H0 H p) (h : H q = none) : q ≠ p := by
  obtain ⟨_, _, _, e⟩ := S.stm
  exact Ne.symm (ne_of_none e h)
theorem lt400 {a : Nat} (h : a < 2 ^ 100) : a < 2 ^ 400 := Nat.lt_of_lt_of_le h (Nat.pow_le_pow_right (by decide) (by decide))
theorem kp_sd {H0 H H' : Hp} {p : Addr} {K : PySem.W.Frag} {v : V} {d : PyData} (S : Sd H0 H p) (k : Kp p H H') (t : tupOnly d = true) (h : Dp K H v d) : Dp K H' v d := by
  obtain ⟨a, b, m, e⟩ := S.stm
  exact dp_kp k e t h
/-! ### the four operations, and comparing -/
def Bg (r : Rat) : Prop := r.num.natAbs < 2 ^ 200 ∧ r.den < 2 ^ 200
theorem _root_.Z.Bd.bg {r : Rat} {p q : Nat} (h : Bd r p q) (h1 : p < 2 ^ 200) (h2 : q < 2 ^ 200) : Bg r := ⟨Nat.lt_of_le_of_lt h.1 h1, Nat.lt_of_le_of_lt h.2 h2⟩
theorem fits_bg {r : Rat} (h : fitsQ r) : Bg r := by
  unfold fitsQ lim at h
  unfold Bg
  omega
theorem mul600 {a b : Int} (ha : a.natAbs < 2 ^ 200) (hb : b.natAbs < 2 ^ 200) : (a * b).natAbs < 2 ^ 400 := wide_lt ha hb
theorem add600 {a b : Int} (ha : a.natAbs < 2 ^ 400) (hb : b.natAbs < 2 ^ 400) : (a + b).natAbs < 2 ^ 1000 := by
  have h1 : (a + b).natAbs ≤ a.natAbs + b.natAbs := Int.natAbs_add_le a b
  have h2 : (2 : Nat) ^ 400 + 2 ^ 400 ≤ 2 ^ 1000 := by
    rw [show (2 : Nat) ^ 400 + 2 ^ 400 = 2 ^ 401 by rw [← Nat.two_mul, ← Nat.pow_succ']]
    exact Nat.pow_le_pow_right (by decide) (by decide)
  omega
theorem sub600 {a b : Int} (ha : a.natAbs < 2 ^ 400) (hb : b.natAbs < 2 ^ 400) : (a - b).natAbs < 2 ^ 1000 := by
  rw [Int.sub_eq_add_neg]
  exact add600 ha (by rw [Int.natAbs_neg]; exact hb)
theorem nat200 {n : Nat} (h : n < 2 ^ 200) : ((n : Int)).natAbs < 2 ^ 200 := by omega
def sp_op (K : PySem.W.Frag) (A : Nat → Addr) (f : Rat → Rat → Rat) : Sp := fun vs H Q E => ∃ (v w : V) (a b : Rat), vs = [v, w] ∧ Dp K H v (qD a) ∧ Dp K H w (qD b) ∧ Bg a ∧ Bg b ∧ OutQ K A (f a b) H Q E
def sp_divide (K : PySem.W.Frag) (A : Nat → Addr) : Sp := fun vs H Q E => ∃ (v w : V) (a b : Rat), vs = [v, w] ∧ Dp K H v (qD a) ∧ Dp K H w (qD b) ∧ Bg a ∧ Bg b ∧ (b = 0 → E (.ref (A 2)) none H) ∧ (b ≠ 0 → OutQ K A (a / b) H Q E)
theorem rat_use {K : PySem.W.Frag} {A : Nat → Addr} {n d : Int} {H : Hp} {Q : VK} {E : XK} (hn : n.natAbs < 2 ^ 1000) (hd : d.natAbs < 2 ^ 1000) (h0 : d ≠ 0) (k : OutQ K A (Rat.divInt n d) H Q E) : sp_ratio K A [.int n, .int d] H Q E := ⟨n, d, rfl, hn, hd, fun z => absurd z h0, fun _ => k⟩
def cmpQ (a b : Rat) : Int := if a < b then -1 else if b < a then 1 else 0
def sp_compare (K : PySem.W.Frag) : Sp := fun vs H Q _ => ∃ (v w : V) (a b : Rat), vs = [v, w] ∧ Dp K H v (qD a) ∧ Dp K H w (qD b) ∧ Bg a ∧ Bg b ∧ Q (.int (cmpQ a b)) H

section
theorem ok_add {P : Program} {w : World} {K : PySem.W.Frag} {mg : Str → Option Value} {base : Heap} {A : Nat → Addr} {D : Nat → FuncData} (T : Txt K mg A D base) : FnOk P w K mg base (L2.CX P w) 2 (A 6) (D 6) ["a", "b"] (sp_op K A (· + ·)) := by
  refine T.F_add.okX sc_add (fun vs H Q E h => ?_) (fun cdv A' outer s H vs Q E hr h => ?_)
  · obtain ⟨v, w', a, b, rfl, _⟩ := h
    rfl
  obtain ⟨_, _, a, b, rfl, ha, hb, ga, gb, q⟩ := h
  obtain ⟨p, rfl, hp⟩ := dp_q ha
  obtain ⟨p2, rfl, hp2⟩ := dp_q hb
  refine ⟨_, (pss_one (ps_ret (pe_call (ok_ratio T) (hr.mono (by decide)) (by rfl) T.m_ratio T.F_ratio.kp T.b_ratio .nil (passes_call (takes_of rfl rfl rfl rfl) (fun _ _ _ _ h => h)) (pa_cons (pe_op op_add (pe_op op_mulW (pe_ix ix_tup (pv 0) pe_int (fun _ _ => rfl)) (pe_ix ix_tup (pv 1) pe_int (fun _ _ => rfl))) (pe_op op_mulW (pe_ix ix_tup (pv 1) pe_int (fun _ _ => rfl)) (pe_ix ix_tup (pv 0) pe_int (fun _ _ => rfl)))) (pa_cons (pe_op op_mulW (pe_ix ix_tup (pv 0) pe_int (fun _ _ => rfl)) (pe_ix ix_tup (pv 1) pe_int (fun _ _ => rfl))) pa_nil))))), ?_⟩
  walk_at "z"
  refine z_I (wide_mul ga.1 (nat200 gb.2) (by decide) (by decide) (by decide)) ?_
  walk_at "z"
  refine z_I (wide_mul gb.1 (nat200 ga.2) (by decide) (by decide) (by decide)) ?_
  walk_at "z"
  refine z_I (wide_mul (nat200 ga.2) (nat200 gb.2) (by decide) (by decide) (by decide)) ?_
  walk_at "z"
  have q : OutQ K A (a + b) H Q E := q
  rw [show a + b = _ from q_add a b] at q
  exact rat_use (add600 (mul600 ga.1 (nat200 gb.2)) (mul600 gb.1 (nat200 ga.2))) (lt4 (mul600 (nat200 ga.2) (nat200 gb.2))) (q_dd a b) q
end

section
theorem ok_subtract {P : Program} {w : World} {K : PySem.W.Frag} {mg : Str → Option Value} {base : Heap} {A : Nat → Addr} {D : Nat → FuncData} (T : Txt K mg A D base) : FnOk P w K mg base (L2.CX P w) 2 (A 7) (D 7) ["a", "b"] (sp_op K A (· - ·)) := by
  refine T.F_subtract.okX sc_subtract (fun vs H Q E h => ?_) (fun cdv A' outer s H vs Q E hr h => ?_)
  · obtain ⟨v, w', a, b, rfl, _⟩ := h
    rfl
  obtain ⟨_, _, a, b, rfl, ha, hb, ga, gb, q⟩ := h
  obtain ⟨p, rfl, hp⟩ := dp_q ha
  obtain ⟨p2, rfl, hp2⟩ := dp_q hb
  refine ⟨_, (pss_one (ps_ret (pe_call (ok_ratio T) (hr.mono (by decide)) (by rfl) T.m_ratio T.F_ratio.kp T.b_ratio .nil (passes_call (takes_of rfl rfl rfl rfl) (fun _ _ _ _ h => h)) (pa_cons (pe_op op_sub (pe_op op_mulW (pe_ix ix_tup (pv 0) pe_int (fun _ _ => rfl)) (pe_ix ix_tup (pv 1) pe_int (fun _ _ => rfl))) (pe_op op_mulW (pe_ix ix_tup (pv 1) pe_int (fun _ _ => rfl)) (pe_ix ix_tup (pv 0) pe_int (fun _ _ => rfl)))) (pa_cons (pe_op op_mulW (pe_ix ix_tup (pv 0) pe_int (fun _ _ => rfl)) (pe_ix ix_tup (pv 1) pe_int (fun _ _ => rfl))) pa_nil))))), ?_⟩
  walk_at "z"
  refine z_I (wide_mul ga.1 (nat200 gb.2) (by decide) (by decide) (by decide)) ?_
  walk_at "z"
  refine z_I (wide_mul gb.1 (nat200 ga.2) (by decide) (by decide) (by decide)) ?_
  walk_at "z"
  refine z_I (wide_mul (nat200 ga.2) (nat200 gb.2) (by decide) (by decide) (by decide)) ?_
  walk_at "z"
  have q : OutQ K A (a - b) H Q E := q
  rw [show a - b = _ from q_sub a b] at q
  exact rat_use (sub600 (mul600 ga.1 (nat200 gb.2)) (mul600 gb.1 (nat200 ga.2))) (lt4 (mul600 (nat200 ga.2) (nat200 gb.2))) (q_dd a b) q
end

section
theorem ok_multiply {P : Program} {w : World} {K : PySem.W.Frag} {mg : Str → Option Value} {base : Heap} {A : Nat → Addr} {D : Nat → FuncData} (T : Txt K mg A D base) : FnOk P w K mg base (L2.CX P w) 2 (A 8) (D 8) ["a", "b"] (sp_op K A (· * ·)) := by
  refine T.F_multiply.okX sc_multiply (fun vs H Q E h => ?_) (fun cdv A' outer s H vs Q E hr h => ?_)
  · obtain ⟨v, w', a, b, rfl, _⟩ := h
    rfl
  obtain ⟨_, _, a, b, rfl, ha, hb, ga, gb, q⟩ := h
  obtain ⟨p, rfl, hp⟩ := dp_q ha
  obtain ⟨p2, rfl, hp2⟩ := dp_q hb
  refine ⟨_, (pss_one (ps_ret (pe_call (ok_ratio T) (hr.mono (by decide)) (by rfl) T.m_ratio T.F_ratio.kp T.b_ratio .nil (passes_call (takes_of rfl rfl rfl rfl) (fun _ _ _ _ h => h)) (pa_cons (pe_op op_mulW (pe_ix ix_tup (pv 0) pe_int (fun _ _ => rfl)) (pe_ix ix_tup (pv 1) pe_int (fun _ _ => rfl))) (pa_cons (pe_op op_mulW (pe_ix ix_tup (pv 0) pe_int (fun _ _ => rfl)) (pe_ix ix_tup (pv 1) pe_int (fun _ _ => rfl))) pa_nil))))), ?_⟩
  walk_at "z"
  refine z_I (wide_mul ga.1 gb.1 (by decide) (by decide) (by decide)) ?_
  walk_at "z"
  refine z_I (wide_mul (nat200 ga.2) (nat200 gb.2) (by decide) (by decide) (by decide)) ?_
  walk_at "z"
  have q : OutQ K A (a * b) H Q E := q
  rw [show a * b = _ from q_mul a b] at q
  exact rat_use (lt4 (mul600 ga.1 gb.1)) (lt4 (mul600 (nat200 ga.2) (nat200 gb.2))) (q_dd a b) q
end

section
theorem ok_divide {P : Program} {w : World} {K : PySem.W.Frag} {mg : Str → Option Value} {base : Heap} {A : Nat → Addr} {D : Nat → FuncData} (T : Txt K mg A D base) : FnOk P w K mg base (L2.CX P w) 2 (A 9) (D 9) ["a", "b"] (sp_divide K A) := by
  refine T.F_divide.okX sc_divide (fun vs H Q E h => ?_) (fun cdv A' outer s H vs Q E hr h => ?_)
  · obtain ⟨v, w', a, b, rfl, _⟩ := h
    rfl
  obtain ⟨_, _, a, b, rfl, ha, hb, ga, gb, q0, q⟩ := h
  obtain ⟨p, rfl, hp⟩ := dp_q ha
  obtain ⟨p2, rfl, hp2⟩ := dp_q hb
  refine ⟨_, (pss_one (ps_ret (pe_call (ok_ratio T) (hr.mono (by decide)) (by rfl) T.m_ratio T.F_ratio.kp T.b_ratio .nil (passes_call (takes_of rfl rfl rfl rfl) (fun _ _ _ _ h => h)) (pa_cons (pe_op op_mulW (pe_ix ix_tup (pv 0) pe_int (fun _ _ => rfl)) (pe_ix ix_tup (pv 1) pe_int (fun _ _ => rfl))) (pa_cons (pe_op op_mulW (pe_ix ix_tup (pv 0) pe_int (fun _ _ => rfl)) (pe_ix ix_tup (pv 1) pe_int (fun _ _ => rfl))) pa_nil))))), ?_⟩
  walk_at "z"
  refine z_I (wide_mul ga.1 (nat200 gb.2) (by decide) (by decide) (by decide)) ?_
  walk_at "z"
  refine z_I (wide_mul (nat200 ga.2) gb.1 (by decide) (by decide) (by decide)) ?_
  walk_at "z"
  have hden := a.den_nz
  refine ⟨_, _, rfl, lt4 (mul600 ga.1 (nat200 gb.2)), lt4 (mul600 (nat200 ga.2) gb.1), fun z => q0 ?_, fun z => ?_⟩
  · rcases Int.mul_eq_zero.mp z with w | w
    · omega
    · exact Rat.num_eq_zero.mp w
  · have hb0 : b ≠ 0 := fun w => z (by rw [w]; simp)
    rw [← q_div a b hb0]
    exact q hb0
end

section
theorem ok_compare {P : Program} {w : World} {K : PySem.W.Frag} {mg : Str → Option Value} {base : Heap} {A : Nat → Addr} {D : Nat → FuncData} (T : Txt K mg A D base) : FnOk P w K mg base (L2.CX P w) 1 (A 10) (D 10) ["a", "b"] (sp_compare K) := by
  refine T.F_compare.okX sc_compare (fun vs H Q E h => ?_) (fun cdv A' outer s H vs Q E hr h => ?_)
  · obtain ⟨v, w', a, b, rfl, _⟩ := h
    rfl
  obtain ⟨_, _, a, b, rfl, ha, hb, ga, gb, q⟩ := h
  obtain ⟨p, rfl, hp⟩ := dp_q ha
  obtain ⟨p2, rfl, hp2⟩ := dp_q hb
  refine ⟨_, (pss_cons (ps_set (i := 2) sc_compare.nd rfl (.inl rfl) (pe_op op_mulW (pe_ix ix_tup (pv 0) pe_int (fun _ _ => rfl)) (pe_ix ix_tup (pv 1) pe_int (fun _ _ => rfl))))
  (pss_cons (ps_set (i := 3) sc_compare.nd rfl (.inl rfl) (pe_op op_mulW (pe_ix ix_tup (pv 1) pe_int (fun _ _ => rfl)) (pe_ix ix_tup (pv 0) pe_int (fun _ _ => rfl))))
  (pss_cons (ps_if (pt_cmpR op_lt (pv 2) (pv 3) (nomark _))
  (pss_one (ps_ret (pe_un un_neg pe_int)))
  pss_nil)
  (pss_cons (ps_if (pt_cmpR op_gt (pv 2) (pv 3) (nomark _))
  (pss_one (ps_ret pe_int))
  pss_nil)
  (pss_one (ps_ret pe_int)))))), ?_⟩
  walk_at "z"
  refine z_I (wide_mul ga.1 (nat200 gb.2) (by decide) (by decide) (by decide)) ?_
  walk_at "z"
  refine z_I (wide_mul gb.1 (nat200 ga.2) (by decide) (by decide) (by decide)) ?_
  walk_at "z"
  unfold cmpQ at q
  refine z_if (fun c => ?_) (fun c => ?_)
  · walk_at "z"
    rw [if_pos ((Rat.lt_iff a b).mpr c)] at q
    exact q
  walk_at "z"
  rw [if_neg (fun z => c ((Rat.lt_iff a b).mp z))] at q
  refine z_if (fun c2 => ?_) (fun c2 => ?_)
  · walk_at "z"
    rw [if_pos ((Rat.lt_iff b a).mpr c2)] at q
    exact q
  · walk_at "z"
    rw [if_neg (fun z => c2 ((Rat.lt_iff b a).mp z))] at q
    exact q
end

/-! ### points and transforms -/
def pD (x y : Rat) : PyData := .tuple [qD x, qD y]
def tD (tx ty xx xy yx yy : Rat) : PyData := .tuple [qD tx, qD ty, qD xx, qD xy, qD yx, qD yy]
def Bl (r : Rat) : Prop := r.num.natAbs < 2 ^ 190 ∧ r.den < 2 ^ 190
theorem _root_.Z.Bd.bl {r : Rat} {p q : Nat} (h : Bd r p q) (h1 : p < 2 ^ 190) (h2 : q < 2 ^ 190) : Bl r := ⟨Nat.lt_of_le_of_lt h.1 h1, Nat.lt_of_le_of_lt h.2 h2⟩
theorem Bl.mul {a b : Int} (ha : a.natAbs < 2 ^ 190) (hb : b.natAbs < 2 ^ 190) : (a * b).natAbs < 2 ^ 380 := wide_lt ha hb
theorem lt380 {a : Nat} (h : a < 2 ^ 380) : a < 2 ^ 400 := Nat.lt_of_lt_of_le h (Nat.pow_le_pow_right (by decide) (by decide))
theorem Bl.add {a b : Int} (ha : a.natAbs < 2 ^ 380) (hb : b.natAbs < 2 ^ 380) : (a + b).natAbs < 2 ^ 400 := by
  have h1 : (a + b).natAbs ≤ a.natAbs + b.natAbs := Int.natAbs_add_le a b
  have h2 : (2 : Nat) ^ 380 + 2 ^ 380 ≤ 2 ^ 400 := by
    rw [show (2 : Nat) ^ 380 + 2 ^ 380 = 2 ^ 381 by rw [← Nat.two_mul, ← Nat.pow_succ']]
    exact Nat.pow_le_pow_right (by decide) (by decide)
  omega
theorem Bl.sub {a b : Int} (ha : a.natAbs < 2 ^ 380) (hb : b.natAbs < 2 ^ 380) : (a - b).natAbs < 2 ^ 400 := by
  rw [Int.sub_eq_add_neg]
  exact Bl.add ha (by rw [Int.natAbs_neg]; exact hb)
theorem nat190 {n : Nat} (h : n < 2 ^ 190) : ((n : Int)).natAbs < 2 ^ 190 := by omega
/-- the law's own operations -/
def sp_lop (K : PySem.W.Frag) (f : Rat → Rat → Rat) : Sp := fun vs H Q _ => ∃ (v w : V) (a b : Rat), vs = [v, w] ∧ Dp K H v (qD a) ∧ Dp K H w (qD b) ∧ Bl a ∧ Bl b ∧ RetD K H (qD (f a b)) Q
section
theorem ok__law_sum {P : Program} {w : World} {K : PySem.W.Frag} {mg : Str → Option Value} {base : Heap} {A : Nat → Addr} {D : Nat → FuncData} (T : Txt K mg A D base) : FnOk P w K mg base (L2.CX P w) 2 (A 25) (D 25) ["a", "b"] (sp_lop K (· + ·)) := by
  refine T.F__law_sum.okX sc__law_sum (fun vs H Q E h => ?_) (fun cdv A' outer s H vs Q E hr h => ?_)
  · obtain ⟨v, w', a, b, rfl, _⟩ := h
    rfl
  obtain ⟨_, _, a, b, rfl, ha, hb, ga, gb, q⟩ := h
  obtain ⟨p, rfl, hp⟩ := dp_q ha
  obtain ⟨p2, rfl, hp2⟩ := dp_q hb
  refine ⟨_, (pss_one (ps_ret (pe_call (ok__law_ratio T) (hr.mono (by decide)) (by rfl) T.m__law_ratio T.F__law_ratio.kp T.b__law_ratio .nil (passes_call (takes_of rfl rfl rfl rfl) (fun _ _ _ _ h => h)) (pa_cons (pe_op op_add (pe_op op_mulW (pe_ix ix_tup (pv 0) pe_int (fun _ _ => rfl)) (pe_ix ix_tup (pv 1) pe_int (fun _ _ => rfl))) (pe_op op_mulW (pe_ix ix_tup (pv 1) pe_int (fun _ _ => rfl)) (pe_ix ix_tup (pv 0) pe_int (fun _ _ => rfl)))) (pa_cons (pe_op op_mulW (pe_ix ix_tup (pv 0) pe_int (fun _ _ => rfl)) (pe_ix ix_tup (pv 1) pe_int (fun _ _ => rfl))) pa_nil))))), ?_⟩
  walk_at "z"
  refine z_I (wide_mul ga.1 (nat190 gb.2) (by decide) (by decide) (by decide)) ?_
  walk_at "z"
  refine z_I (wide_mul gb.1 (nat190 ga.2) (by decide) (by decide) (by decide)) ?_
  walk_at "z"
  refine z_I (wide_mul (nat190 ga.2) (nat190 gb.2) (by decide) (by decide) (by decide)) ?_
  walk_at "z"
  have q : RetD K H (qD (a + b)) Q := q
  rw [q_add a b] at q
  exact ⟨_, _, rfl, q_dd a b, Bl.add (Bl.mul ga.1 (nat190 gb.2)) (Bl.mul gb.1 (nat190 ga.2)), lt380 (Bl.mul (nat190 ga.2) (nat190 gb.2)), q⟩

theorem ok__law_difference {P : Program} {w : World} {K : PySem.W.Frag} {mg : Str → Option Value} {base : Heap} {A : Nat → Addr} {D : Nat → FuncData} (T : Txt K mg A D base) : FnOk P w K mg base (L2.CX P w) 2 (A 26) (D 26) ["a", "b"] (sp_lop K (· - ·)) := by
  refine T.F__law_difference.okX sc__law_difference (fun vs H Q E h => ?_) (fun cdv A' outer s H vs Q E hr h => ?_)
  · obtain ⟨v, w', a, b, rfl, _⟩ := h
    rfl
  obtain ⟨_, _, a, b, rfl, ha, hb, ga, gb, q⟩ := h
  obtain ⟨p, rfl, hp⟩ := dp_q ha
  obtain ⟨p2, rfl, hp2⟩ := dp_q hb
  refine ⟨_, (pss_one (ps_ret (pe_call (ok__law_ratio T) (hr.mono (by decide)) (by rfl) T.m__law_ratio T.F__law_ratio.kp T.b__law_ratio .nil (passes_call (takes_of rfl rfl rfl rfl) (fun _ _ _ _ h => h)) (pa_cons (pe_op op_sub (pe_op op_mulW (pe_ix ix_tup (pv 0) pe_int (fun _ _ => rfl)) (pe_ix ix_tup (pv 1) pe_int (fun _ _ => rfl))) (pe_op op_mulW (pe_ix ix_tup (pv 1) pe_int (fun _ _ => rfl)) (pe_ix ix_tup (pv 0) pe_int (fun _ _ => rfl)))) (pa_cons (pe_op op_mulW (pe_ix ix_tup (pv 0) pe_int (fun _ _ => rfl)) (pe_ix ix_tup (pv 1) pe_int (fun _ _ => rfl))) pa_nil))))), ?_⟩
  walk_at "z"
  refine z_I (wide_mul ga.1 (nat190 gb.2) (by decide) (by decide) (by decide)) ?_
  walk_at "z"
  refine z_I (wide_mul gb.1 (nat190 ga.2) (by decide) (by decide) (by decide)) ?_
  walk_at "z"
  refine z_I (wide_mul (nat190 ga.2) (nat190 gb.2) (by decide) (by decide) (by decide)) ?_
  walk_at "z"
  have q : RetD K H (qD (a - b)) Q := q
  rw [q_sub a b] at q
  exact ⟨_, _, rfl, q_dd a b, Bl.sub (Bl.mul ga.1 (nat190 gb.2)) (Bl.mul gb.1 (nat190 ga.2)), lt380 (Bl.mul (nat190 ga.2) (nat190 gb.2)), q⟩

theorem ok__law_product {P : Program} {w : World} {K : PySem.W.Frag} {mg : Str → Option Value} {base : Heap} {A : Nat → Addr} {D : Nat → FuncData} (T : Txt K mg A D base) : FnOk P w K mg base (L2.CX P w) 2 (A 27) (D 27) ["a", "b"] (sp_lop K (· * ·)) := by
  refine T.F__law_product.okX sc__law_product (fun vs H Q E h => ?_) (fun cdv A' outer s H vs Q E hr h => ?_)
  · obtain ⟨v, w', a, b, rfl, _⟩ := h
    rfl
  obtain ⟨_, _, a, b, rfl, ha, hb, ga, gb, q⟩ := h
  obtain ⟨p, rfl, hp⟩ := dp_q ha
  obtain ⟨p2, rfl, hp2⟩ := dp_q hb
  refine ⟨_, (pss_one (ps_ret (pe_call (ok__law_ratio T) (hr.mono (by decide)) (by rfl) T.m__law_ratio T.F__law_ratio.kp T.b__law_ratio .nil (passes_call (takes_of rfl rfl rfl rfl) (fun _ _ _ _ h => h)) (pa_cons (pe_op op_mulW (pe_ix ix_tup (pv 0) pe_int (fun _ _ => rfl)) (pe_ix ix_tup (pv 1) pe_int (fun _ _ => rfl))) (pa_cons (pe_op op_mulW (pe_ix ix_tup (pv 0) pe_int (fun _ _ => rfl)) (pe_ix ix_tup (pv 1) pe_int (fun _ _ => rfl))) pa_nil))))), ?_⟩
  walk_at "z"
  refine z_I (wide_mul ga.1 gb.1 (by decide) (by decide) (by decide)) ?_
  walk_at "z"
  refine z_I (wide_mul (nat190 ga.2) (nat190 gb.2) (by decide) (by decide) (by decide)) ?_
  walk_at "z"
  have q : RetD K H (qD (a * b)) Q := q
  rw [q_mul a b] at q
  exact ⟨_, _, rfl, q_dd a b, lt380 (Bl.mul ga.1 gb.1), lt380 (Bl.mul (nat190 ga.2) (nat190 gb.2)), q⟩

end
theorem lop {K : PySem.W.Frag} {f : Rat → Rat → Rat} {H : Hp} {v w : V} {a b : Rat} {Q : VK} {E : XK} (ha : Dp K H v (qD a)) (hb : Dp K H w (qD b)) (ga : Bl a) (gb : Bl b) (q : RetD K H (qD (f a b)) Q) : sp_lop K f [v, w] H Q E := ⟨v, w, a, b, rfl, ha, hb, ga, gb, q⟩
theorem opq {K : PySem.W.Frag} {A : Nat → Addr} {f : Rat → Rat → Rat} {H : Hp} {v w : V} {a b : Rat} {Q : VK} {E : XK} (ha : Dp K H v (qD a)) (hb : Dp K H w (qD b)) (ga : Bg a) (gb : Bg b) (hf : fitsQ (f a b)) (q : RetD K H (qD (f a b)) Q) : sp_op K A f [v, w] H Q E :=
  ⟨v, w, a, b, rfl, ha, hb, ga, gb, fun n => absurd hf n, fun _ => q⟩
/-- the point that a transform moves a point to -/
def aX (tx xx xy x y : Rat) : Rat := tx + (xx * x + xy * y)
def sp__law_applied (K : PySem.W.Frag) : Sp := fun vs H Q _ => ∃ (v w : V) (tx ty xx xy yx yy x y : Rat), vs = [v, w] ∧ Dp K H v (tD tx ty xx xy yx yy) ∧ Dp K H w (pD x y) ∧ Bl tx ∧ Bl ty ∧ Bl xx ∧ Bl xy ∧ Bl yx ∧ Bl yy ∧ Bl x ∧ Bl y ∧
  Bl (xx * x) ∧ Bl (xy * y) ∧ Bl (yx * x) ∧ Bl (yy * y) ∧ Bl (xx * x + xy * y) ∧ Bl (yx * x + yy * y) ∧ RetD K H (pD (aX tx xx xy x y) (aX ty yx yy x y)) Q
theorem dp_p {K : PySem.W.Frag} {H : Hp} {p : Addr} {v w : V} {x y : Rat} (h : H p = some (.tup [v, w])) (hx : Dp K H v (qD x)) (hy : Dp K H w (qD y)) : Dp K H (.ref p) (pD x y) := dp_mk h (.cons hx (.cons hy .nil))
section

end
/-! ### drawn numbers, points, transforms -/
def sp__law_small (K : PySem.W.Frag) : Sp := fun vs H Q _ => ∃ (p : Addr) (H0 : Hp), vs = [.ref p] ∧ Sd H0 H p ∧ ∀ (v : V) (r : Rat) (H' : Hp), Bd r 50 6 → Sd H0 H' p → Kp p H H' → Dp K H' v (qD r) → Q v H'
def sp__law_point (K : PySem.W.Frag) : Sp := fun vs H Q _ => ∃ (p : Addr) (H0 : Hp), vs = [.ref p] ∧ Sd H0 H p ∧ ∀ (v : V) (x y : Rat) (H' : Hp), Bd x 50 6 → Bd y 50 6 → Sd H0 H' p → Kp p H H' → Dp K H' v (pD x y) → Q v H'
theorem q_int (n : Int) : qD (n : Rat) = .tuple [.int n, .int 1] := by
  unfold qD
  rw [Rat.num_intCast, Rat.den_intCast]
  rfl
section
theorem ok__law_small {P : Program} {w : World} {K : PySem.W.Frag} {mg : Str → Option Value} {base : Heap} {A : Nat → Addr} {D : Nat → FuncData} (T : Txt K mg A D base) : FnOk P w K mg base (L2.CX P w) 2 (A 28) (D 28) ["stream"] (sp__law_small K) := by
  refine T.F__law_small.okX sc__law_small (fun vs H Q E h => ?_) (fun cdv A' outer s H vs Q E hr h => ?_)
  · obtain ⟨p, H0, rfl, _⟩ := h
    rfl
  obtain ⟨p, H0, rfl, S, q⟩ := h
  refine ⟨_, (pss_cons (ps_if (pt_cmpR op_eq (pe_call (ok__law_next T) (hr.mono (by decide)) (by rfl) T.m__law_next T.F__law_next.kp T.b__law_next .nil (passes_call (takes_of rfl rfl rfl rfl) (fun _ _ _ _ h => h)) (pa_cons (pv 0) (pa_cons pe_int pa_nil))) pe_int (nomark _))
  (pss_one (ps_ret (pe_tup (pa_cons (pe_op op_sub (pe_call (ok__law_next T) (hr.mono (by decide)) (by rfl) T.m__law_next T.F__law_next.kp T.b__law_next .nil (passes_call (takes_of rfl rfl rfl rfl) (fun _ _ _ _ h => h)) (pa_cons (pv 0) (pa_cons pe_int pa_nil))) pe_int) (pa_cons pe_int pa_nil)))))
  pss_nil)
  (pss_one (ps_ret (pe_call (ok__law_ratio T) (hr.mono (by decide)) (by rfl) T.m__law_ratio T.F__law_ratio.kp T.b__law_ratio .nil (passes_call (takes_of rfl rfl rfl rfl) (fun _ _ _ _ h => h)) (pa_cons (pe_op op_sub (pe_call (ok__law_next T) (hr.mono (by decide)) (by rfl) T.m__law_next T.F__law_next.kp T.b__law_next .nil (passes_call (takes_of rfl rfl rfl rfl) (fun _ _ _ _ h => h)) (pa_cons (pv 0) (pa_cons pe_int pa_nil))) pe_int) (pa_cons (pe_op op_add (pe_call (ok__law_next T) (hr.mono (by decide)) (by rfl) T.m__law_next T.F__law_next.kp T.b__law_next .nil (passes_call (takes_of rfl rfl rfl rfl) (fun _ _ _ _ h => h)) (pa_cons (pv 0) (pa_cons pe_int pa_nil))) pe_int) pa_nil)))))), ?_⟩
  walk_at "z"
  refine nx S (by decide) (lt1000 (by decide)) fun k H1 k0 k1 S1 e1 => ?_
  walk_at "z"
  refine z_if (fun c => ?_) (fun c => ?_)
  · walk_at "z"
    refine nx S1 (by decide) (lt1000 (by decide)) fun n H2 n0 n1 S2 e2 => ?_
    walk_at "z"
    intro p9 H9 _ s9 h9
    refine q _ ((n - 20 : Int) : Rat) H9 ⟨?_, ?_⟩ (S2.mono s9) (((kp_eq e1).trans' (kp_eq e2)).trans' (kp_of s9)) ?_
    · rw [Rat.num_intCast]
      omega
    · rw [Rat.den_intCast]
      decide
    · rw [q_int]
      exact dp_mk h9 (.cons (.int _) (.cons (.int _) .nil))
  · walk_at "z"
    refine nx S1 (by decide) (lt1000 (by decide)) fun n H2 n0 n1 S2 e2 => ?_
    walk_at "z"
    refine nx S2 (by decide) (lt1000 (by decide)) fun d H3 d0 d1 S3 e3 => ?_
    walk_at "z"
    refine ⟨_, _, rfl, by omega, lt400 (by omega), lt400 (by omega), fun v H9 s9 h9 => ?_⟩
    have hb := bd_divInt (n := n - 50) (d := d + 1) (by omega)
    exact q _ _ H9 (hb.le (by omega) (by omega)) (S3.mono s9) ((((kp_eq e1).trans' (kp_eq e2)).trans' (kp_eq e3)).trans' (kp_of s9)) h9
theorem ok__law_point {P : Program} {w : World} {K : PySem.W.Frag} {mg : Str → Option Value} {base : Heap} {A : Nat → Addr} {D : Nat → FuncData} (T : Txt K mg A D base) : FnOk P w K mg base (L2.CX P w) 3 (A 29) (D 29) ["stream"] (sp__law_point K) := by
  refine T.F__law_point.okX sc__law_point (fun vs H Q E h => ?_) (fun cdv A' outer s H vs Q E hr h => ?_)
  · obtain ⟨p, H0, rfl, _⟩ := h
    rfl
  obtain ⟨p, H0, rfl, S, q⟩ := h
  refine ⟨_, (pss_cons (ps_set (i := 1) sc__law_point.nd rfl (.inl rfl) (pe_call (ok__law_small T) (hr.mono (by decide)) (by rfl) T.m__law_small T.F__law_small.kp T.b__law_small .nil (passes_call (takes_of rfl rfl rfl rfl) (fun _ _ _ _ h => h)) (pa_cons (pv 0) pa_nil)))
  (pss_one (ps_ret (pe_tup (pa_cons (pv 1) (pa_cons (pe_call (ok__law_small T) (hr.mono (by decide)) (by rfl) T.m__law_small T.F__law_small.kp T.b__law_small .nil (passes_call (takes_of rfl rfl rfl rfl) (fun _ _ _ _ h => h)) (pa_cons (pv 0) pa_nil)) pa_nil)))))), ?_⟩
  walk_at "z"
  refine ⟨p, H0, rfl, S, fun v x H1 bx S1 k1 h1 => ?_⟩
  walk_at "z"
  refine ⟨p, H0, rfl, S1, fun w y H2 by' S2 k2 h2 => ?_⟩
  walk_at "z"
  intro p9 H9 _ s9 h9
  exact q _ x y H9 bx by' (S2.mono s9) ((k1.trans' k2).trans' (kp_of s9)) (dp_p h9 (dp_mono s9 (kp_sd S1 k2 rfl h1)) (dp_mono s9 h2))
end
/-! ### the program's transforms -/
/-- fits along the way of one part -/
def FitX (tx xx xy x y : Rat) : Prop := fitsQ (xx * x) ∧ fitsQ (xy * y) ∧ fitsQ (tx + xx * x) ∧ fitsQ (tx + xx * x + xy * y)
def mX (tx xx xy x y : Rat) : Rat := tx + xx * x + xy * y
def sp_moved_part (K : PySem.W.Frag) : Sp := fun vs H Q _ => ∃ (v1 v2 v3 w : V) (tx xx xy x y : Rat), vs = [v1, v2, v3, w] ∧ Dp K H v1 (qD tx) ∧ Dp K H v2 (qD xx) ∧ Dp K H v3 (qD xy) ∧ Dp K H w (pD x y) ∧ Bg tx ∧ Bg xx ∧ Bg xy ∧ Bg x ∧ Bg y ∧ FitX tx xx xy x y ∧ RetD K H (qD (mX tx xx xy x y)) Q
def sp_apply (K : PySem.W.Frag) : Sp := fun vs H Q _ => ∃ (v w : V) (tx ty xx xy yx yy x y : Rat), vs = [v, w] ∧ Dp K H v (tD tx ty xx xy yx yy) ∧ Dp K H w (pD x y) ∧ Bg tx ∧ Bg ty ∧ Bg xx ∧ Bg xy ∧ Bg yx ∧ Bg yy ∧ Bg x ∧ Bg y ∧ FitX tx xx xy x y ∧ FitX ty yx yy x y ∧ RetD K H (pD (mX tx xx xy x y) (mX ty yx yy x y)) Q
section


end
/-! ### paths of numbers, as data -/
abbrev PQ := Rat × Rat
def ptQ (a : PQ) : PyData := pD a.1 a.2
def sgQ : Option (PQ × PQ) → PyData
  | none => .none
  | some (c, d) => .tuple [ptQ c, ptQ d]
def pathQ (pts : List PQ) (sgs : List (Option (PQ × PQ))) (cyc : Bool) : PyData := .tuple [.tuple (pts.map ptQ), .tuple (sgs.map sgQ), .bool cyc]
def Bq (a : PQ) : Prop := Bd a.1 50 6 ∧ Bd a.2 50 6
def Bs : Option (PQ × PQ) → Prop
  | none => True
  | some (c, d) => Bq c ∧ Bq d
section
variable {K : PySem.W.Frag} {H H' : Hp}
theorem dp_path {v : V} {pts : List PQ} {sgs : List (Option (PQ × PQ))} {cyc : Bool} (h : Dp K H v (pathQ pts sgs cyc)) :
    ∃ a k g ks ss, v = .ref a ∧ SqT K H a [.ref k, .ref g, .bl cyc] ∧ SqT K H k ks ∧ SqT K H g ss ∧ DpAll K H ks (pts.map ptQ) ∧ DpAll K H ss (sgs.map sgQ) := by
  obtain ⟨a, v1, v2, v3, rfl, hS, d1, d2, d3⟩ := dp_t3 h
  obtain ⟨k, ks, rfl, hk, ak⟩ := dp_tup d1
  obtain ⟨g, ss, rfl, hg, ag⟩ := dp_tup d2
  obtain rfl := dp_bool d3
  exact ⟨a, k, g, ks, ss, rfl, hS, hk, hg, ak, ag⟩
theorem dp_mkpath {a k g : Addr} {ks ss : List V} {pts : List PQ} {sgs : List (Option (PQ × PQ))} {cyc : Bool} (hS : SqT K H a [.ref k, .ref g, .bl cyc]) (hk : SqT K H k ks) (hg : SqT K H g ss) (ak : DpAll K H ks (pts.map ptQ)) (ag : DpAll K H ss (sgs.map sgQ)) :
    Dp K H (.ref a) (pathQ pts sgs cyc) := .tup hS (.cons (.tup hk ak) (.cons (.tup hg ag) (.cons (.bl _) .nil)))
theorem dpa_len : ∀ {ds : List PyData} {vs : List V}, DpAll K H vs ds → vs.length = ds.length
  | _, _, .nil => rfl
  | _, _, .cons _ a => by rw [List.length_cons, List.length_cons, dpa_len a]
theorem dpa_get : ∀ {ds : List PyData} {vs : List V} {i : Nat} {d : PyData}, DpAll K H vs ds → ds[i]? = some d → ∃ v, vs[i]? = some v ∧ Dp K H v d
  | _, _, _, _, .nil, e => by cases e
  | _, _, 0, _, .cons h _, e => by
    cases e
    exact ⟨_, rfl, h⟩
  | _, _, i + 1, _, .cons _ a, e => dpa_get (i := i) a (by simpa using e)
theorem dpa_gev : ∀ {ds : List PyData} {vs : List V} {i : Nat} {v : V}, DpAll K H vs ds → vs[i]? = some v → ∃ d, ds[i]? = some d ∧ Dp K H v d
  | _, _, _, _, .nil, e => by cases e
  | _, _, 0, _, .cons h _, e => by
    cases e
    exact ⟨_, rfl, h⟩
  | _, _, i + 1, _, .cons _ a, e => dpa_gev (i := i) a (by simpa using e)
theorem dpa_app {vs ws : List V} {ds es : List PyData} (h : DpAll K H vs ds) (k : DpAll K H ws es) : DpAll K H (vs ++ ws) (ds ++ es) := Tg.dpA_app h k
theorem dpa_rev : ∀ {ds : List PyData} {vs : List V}, DpAll K H vs ds → DpAll K H vs.reverse ds.reverse
  | _, _, .nil => .nil
  | _, _, .cons h a => by
    rw [List.reverse_cons, List.reverse_cons]
    exact dpa_app (dpa_rev a) (.cons h .nil)
theorem dpa_take : ∀ {ds : List PyData} {vs : List V} (n : Nat), DpAll K H vs ds → DpAll K H (vs.take n) (ds.take n)
  | _, _, 0, _ => .nil
  | _, _, _ + 1, .nil => .nil
  | _, _, n + 1, .cons h a => .cons h (dpa_take n a)
theorem dpa_drop : ∀ {ds : List PyData} {vs : List V} (n : Nat), DpAll K H vs ds → DpAll K H (vs.drop n) (ds.drop n)
  | _, _, 0, h => h
  | _, _, _ + 1, .nil => .nil
  | _, _, n + 1, .cons _ a => dpa_drop n a
theorem dpa_set : ∀ {ds : List PyData} {vs : List V} {i : Nat} {d : PyData} {v : V}, DpAll K H vs ds → Dp K H v d → DpAll K H (vs.set i v) (ds.set i d)
  | _, _, _, _, _, .nil, _ => .nil
  | _, _, 0, _, _, .cons _ a, k => .cons k a
  | _, _, i + 1, _, _, .cons h a, k => .cons h (dpa_set (i := i) a k)
theorem tup_pq (a : PQ) : tupOnly (ptQ a) = true := rfl
theorem tup_sgq (s : Option (PQ × PQ)) : tupOnly (sgQ s) = true := by
  match s with
  | none => rfl
  | some (c, d) => rfl
theorem tup_pqs : ∀ pts : List PQ, tupOnlyA (pts.map ptQ) = true
  | [] => rfl
  | a :: r => by
    show (tupOnly (ptQ a) && tupOnlyA (r.map ptQ)) = true
    rw [tup_pqs r]
    rfl
theorem tup_sqs : ∀ sgs : List (Option (PQ × PQ)), tupOnlyA (sgs.map sgQ) = true
  | [] => rfl
  | a :: r => by
    show (tupOnly (sgQ a) && tupOnlyA (r.map sgQ)) = true
    rw [tup_sqs r, tup_sgq]
    rfl
theorem tup_path (pts : List PQ) (sgs : List (Option (PQ × PQ))) (cyc : Bool) : tupOnly (pathQ pts sgs cyc) = true := by
  show (tupOnlyA (pts.map ptQ) && (tupOnlyA (sgs.map sgQ) && (true && true))) = true
  rw [tup_pqs, tup_sqs]
  rfl
end
theorem shaped_pqs : ∀ pts : List PQ, PyData.canLayAll0 (pts.map ptQ) = true ∧ PyData.depthAll (pts.map ptQ) ≤ 2
  | [] => ⟨rfl, Nat.zero_le _⟩
  | a :: r => by
    obtain ⟨h1, h2⟩ := shaped_pqs r
    refine ⟨?_, ?_⟩
    · show (PyData.canLay0 (ptQ a) && PyData.canLayAll0 (r.map ptQ)) = true
      rw [h1]
      rfl
    · show max (PyData.depth (ptQ a)) (PyData.depthAll (r.map ptQ)) ≤ 2
      have e : PyData.depth (ptQ a) = 2 := rfl
      omega
theorem shaped_sqs : ∀ sgs : List (Option (PQ × PQ)), PyData.canLayAll0 (sgs.map sgQ) = true ∧ PyData.depthAll (sgs.map sgQ) ≤ 3
  | [] => ⟨rfl, Nat.zero_le _⟩
  | a :: r => by
    obtain ⟨h1, h2⟩ := shaped_sqs r
    have h3 : PyData.canLay0 (sgQ a) = true ∧ PyData.depth (sgQ a) ≤ 3 := by
      match a with
      | none => exact ⟨rfl, by decide⟩
      | some (c, d) => exact ⟨rfl, Nat.le_of_ble_eq_true rfl⟩
    refine ⟨?_, ?_⟩
    · show (PyData.canLay0 (sgQ a) && PyData.canLayAll0 (r.map sgQ)) = true
      rw [h1, h3.1]
      rfl
    · show max (PyData.depth (sgQ a)) (PyData.depthAll (r.map sgQ)) ≤ 3
      have := h3.2
      omega
theorem shaped_path (pts : List PQ) (sgs : List (Option (PQ × PQ))) (cyc : Bool) : SeqAt.shaped (pathQ pts sgs cyc) = true := by
  obtain ⟨h1, h2⟩ := shaped_pqs pts
  obtain ⟨h3, h4⟩ := shaped_sqs sgs
  unfold SeqAt.shaped
  rw [Bool.and_eq_true]
  refine ⟨?_, decide_eq_true ?_⟩
  · show (PyData.canLayAll0 (pts.map ptQ) && (PyData.canLayAll0 (sgs.map sgQ) && (true && true))) = true
    rw [h1, h3]
    rfl
  · show max (PyData.depthAll (pts.map ptQ) + 1) (max (PyData.depthAll (sgs.map sgQ) + 1) (max 0 0)) + 1 ≤ 64
    omega
theorem shaped_ptl (pts : List PQ) : SeqAt.shaped (.list (pts.map ptQ)) = true := by
  obtain ⟨h1, h2⟩ := shaped_pqs pts
  unfold SeqAt.shaped
  rw [Bool.and_eq_true]
  refine ⟨?_, decide_eq_true ?_⟩
  · show PyData.canLayAll0 (pts.map ptQ) = true
    exact h1
  · show PyData.depthAll (pts.map ptQ) + 1 ≤ 64
    omega
/-! ### lists made by a comprehension; lists drawn -/
theorem z_slA' {K : PySem.W.Frag} {H : Hp} {Q : VK} {a : Addr} {xs : List V} {lo hi : Option Int} (h : SqT K H a xs) (q : ∀ p H', Same H H' → SqT K H' p (cutV xs lo hi) → Q (.ref p) H') : rSlA K (.ref a) lo hi H Q := Tg.z_slA h q
theorem z_tupE {K : PySem.W.Frag} {H : Hp} {Q : VK} {σ : L2.St} {P : Addr} {te te' : TE} {g : TG} {vs : List Nat} (h : te σ H fun x H1 => Tg.tTupG P (iTup K (tC x)) g te' vs σ H1 Q) : Tg.tTupG P (iTup K te) g te' vs σ H Q := h
theorem z_catA {K : PySem.W.Frag} {H : Hp} {Q : VK} {p q : Addr} {xs ys : List V} (h1 : SqT K H p xs) (h2 : SqT K H q ys) (hx : xs ≠ []) (hl : xs.length + ys.length ≤ 1000)
    (k : ∀ p H', Same H H' → SqT K H' p (xs ++ ys) → Q (.ref p) H') : rCatT K (.ref p) (.ref q) H Q := by
  refine ⟨p, q, xs, ys, rfl, rfl, h1, h2, hx, sz hl, fun z => ?_, fun _ a ha => k a _ (same_upd ha) (.inl (.inl upd_same))⟩
  refine k p H (fun _ _ z => z) ?_
  rw [z, List.append_nil]
  exact h1
theorem kp_at {H : Hp} {D : Addr} {o : HO} : Kp D H (upd H D o) := fun b x hb e => by
  rw [upd_ne hb]
  exact e
theorem sd_updq {H0 H : Hp} {p q : Addr} {o : HO} (S : Sd H0 H p) (h0 : H0 q = none) (hq : q ≠ p) : Sd H0 (upd H q o) p := by
  obtain ⟨a, b, m, e⟩ := S.stm
  refine ⟨fun c x hc => ?_, S.fresh, a, b, m, by rw [upd_ne (Ne.symm hq)]; exact e⟩
  rw [upd_ne (ne_of_none hc h0)]
  exact S.same c x hc
theorem kp_updq {p q : Addr} {H H1 : Hp} {o : HO} (k : Kp p H H1) (h : H q = none) : Kp p H (upd H1 q o) := fun b x hb e => by
  rw [upd_ne (ne_of_none e h)]
  exact k b x hb e
theorem dpa_sdq {K : PySem.W.Frag} {H0 H H' : Hp} {p : Addr} {vs : List V} {ds : List PyData} (S : Sd H0 H p) (k : Kp p H H') (t : tupOnlyA ds = true) (h : DpAll K H vs ds) : DpAll K H' vs ds := by
  obtain ⟨a, b, m, e⟩ := S.stm
  exact dp_kpA k e t h
/-- [_law_point(stream) for k in range(n)] -/
theorem z_pts {K : PySem.W.Frag} {H H0 : Hp} {Q : VK} {σ : L2.St} {ta : TA} {k j : Nat} {vs : List Nat} {p : Addr} {E : XK} (n : Nat) (hn : n ≤ 100) (S : Sd H0 H p) (ha : ∀ R : List V → Hp → Prop, R [.int (n : Int)] H → ta σ H R) (hw : ∀ x, wipe ((wipe σ vs).set k (some x)) vs = wipe σ vs) (hj : ∀ x, ((wipe σ vs).set k (some x))[j]? = some (some (.ref p)))
    (hd : ∀ (D : Addr) (acc : List V) (pts : List PQ) (H' : Hp), H D = none → H0 D = none → D ≠ p → Sd H0 H' p → Kp p H H' → H' D = some (.lst acc) → DpAll K H' acc (pts.map ptQ) → pts.length = n → (∀ a ∈ pts, Bq a) → Q (.ref D) H') : tLc (iRng1 ta) (gName k) tYes (tCall (sp__law_point K) [] E (tCons (tVar j) tNil)) vs σ H Q := by
  refine z_lcR1 n (by omega) ha hw (fun i D acc H' => H D = none ∧ H0 D = none ∧ D ≠ p ∧ Sd H0 H' p ∧ Kp p H H' ∧ ∃ pts : List PQ, DpAll K H' acc (pts.map ptQ) ∧ pts.length = i ∧ ∀ a ∈ pts, Bq a) (fun D H' hD s _ => ⟨hD, S.same.free hD, S.ne0 hD, S.mono s, kp_of s, [], .nil, rfl, fun _ h => absurd h List.not_mem_nil⟩) ?_ (fun σ' H' Q Q' h q => ?_) ?_
  · rintro i D acc H3 hi hl hH ⟨f1, f2, f3, S3, k3, pts, d3, l3, b3⟩
    refine z_call ?_
    refine z_cons ?_
    refine z_var (hj _) ?_
    refine z_nil ?_
    refine ⟨p, H0, rfl, S3, fun v x y H4 bx by' S4 k4 d => ?_⟩
    have hH4 := k4 _ _ f3 hH
    have d4 := dpa_sdq S3 k4 (tup_pqs _) d3
    refine ⟨hH4, f1, f2, f3, sd_updq S4 f2 f3, kp_updq (k3.trans' k4) f1, pts ++ [(x, y)], ?_, by rw [List.length_append, l3]; rfl, fun a h => ?_⟩
    · rw [List.map_append]
      exact dpa_app (dp_kpA kp_at hH4 (tup_pqs _) d4) (.cons (dp_kp kp_at hH4 rfl d) .nil)
    · rcases List.mem_append.mp h with h | h
      · exact b3 a h
      · rw [List.mem_singleton.mp h]
        exact ⟨bx, by'⟩
  · obtain ⟨v, hv, p, H0, e, S, q⟩ := q
    exact ⟨v, hv, p, H0, e, S, fun v x y H9 b b' S9 k9 d => h _ _ (q v x y H9 b b' S9 k9 d)⟩
  · rintro D acc H3 hl hH ⟨f1, f2, f3, S3, k3, pts, d3, l3, b3⟩
    exact hd D acc pts H3 f1 f2 f3 S3 k3 hH d3 l3 b3
/-- a path that the law draws: its numbers of knots and segments -/
structure PathB (pts : List PQ) (sgs : List (Option (PQ × PQ))) (cyc : Bool) (most : Nat) : Prop where
  n1 : 1 ≤ pts.length
  n2 : pts.length ≤ most
  n3 : sgs.length + 1 = pts.length + (if cyc = true then 1 else 0)
  pb : ∀ a ∈ pts, Bq a
  sb : ∀ s ∈ sgs, Bs s
def sp__law_path (K : PySem.W.Frag) : Sp := fun vs H Q _ => ∃ (p : Addr) (most : Nat) (H0 : Hp), vs = [.ref p, .int (most : Int)] ∧ 1 ≤ most ∧ most ≤ 50 ∧ Sd H0 H p ∧ ∀ (v : V) (pts : List PQ) (sgs : List (Option (PQ × PQ))) (cyc : Bool) (H' : Hp), Dp K H' v (pathQ pts sgs cyc) → PathB pts sgs cyc most → Sd H0 H' p → Kp p H H' → Q v H'
section

end
def QIt (K : PySem.W.Frag) (R : It → Hp → Prop) : VK := fun x H1 => ∃ a, x = .ref a ∧ (∃ xs, SqT K H1 a xs) ∧ R (Itt K a) H1
theorem z_iT {K : PySem.W.Frag} {te : TE} {σ : L2.St} {H : Hp} {R : It → Hp → Prop} (h : te σ H (QIt K R)) : iTup K te σ H R := h
theorem z_forTE {K : PySem.W.Frag} {tl : TE} {g : TG} {tb : TS} {n : L2.St → Hp → Prop} {r : VK} {b c : L2.St → Hp → Prop} {σ : L2.St} {H : Hp} (h : tl σ H fun x H1 => tFor (iTup K (tC x)) g tb ⟨n, r, b, c⟩ σ H1) : tFor (iTup K tl) g tb ⟨n, r, b, c⟩ σ H := h
/-- [e for x in ..], its elements data -/
theorem z_lcD {K : PySem.W.Frag} {H : Hp} {Q : VK} {σ : L2.St} {wi : TI} {J : It} {m : Nat} {G : Hp → Prop} {Y : Nat → Hp → V → Hp → Prop} {g : TG} {te : TE} {vs : List Nat} (ds : List PyData) (w : Walk J m G Y) (hl : ds.length = m) (hm : m ≤ 1000) (ht : tupOnlyA ds = true) (hi : ∀ R : It → Hp → Prop, R J H → wi σ H R) (hG : ∀ H', Same H H' → G H')
    (hs : ∀ i x d H' H2 (R : VK), ds[i]? = some d → i < m → Same H H' → Y i H' x H2 → (∀ v H3, Same H' H3 → Dp K H3 v d → R v H3) → g x (wipe σ vs) H2 fun σ2 H3 => wipe σ2 vs = wipe σ vs ∧ te σ2 H3 R)
    (hd : ∀ D acc H', H D = none → Same H H' → H' D = some (.lst acc) → acc.length = m → DpAll K H' acc ds → Q (.ref D) H') : tLc wi g tYes te vs σ H Q := by
  have hta : ∀ {ds : List PyData} (i : Nat), tupOnlyA ds = true → tupOnlyA (ds.take i) = true := by
    intro ds
    induction ds with
    | nil => intro i _; cases i <;> rfl
    | cons d r ih =>
      intro i h
      have h' : (tupOnly d && tupOnlyA r) = true := h
      rw [Bool.and_eq_true] at h'
      cases i with
      | zero => rfl
      | succ i =>
        show (tupOnly d && tupOnlyA (r.take i)) = true
        rw [h'.1, ih i h'.2]
        rfl
  refine Cw.z_lcW w hi (fun i D acc H' => Same H H' ∧ H D = none ∧ DpAll K H' acc (ds.take i)) (fun D H' f s _ => ⟨s, f, .nil⟩) (fun i D acc H' h => hG _ h.1) (fun i x D acc H' H2 hi' hl' hD ⟨s', fD, ea⟩ y => ?_) (fun D acc H' fD hl' hD ⟨s', _, ea⟩ => ?_)
  · have hw : ds[i]? = some ds[i] := List.getElem?_eq_getElem (by omega)
    refine hs i x ds[i] H' H2 _ hw hi' s' y fun v H3 s3 dv => ?_
    refine z_lcB (s3 _ _ hD) hl' (by omega) fun H5 hD5 k5 e5 => ⟨fun b o h => ?_, fD, ?_⟩
    · rw [e5 b (ne_of_none h fD)]
      exact s3 _ _ (s' _ _ h)
    · rw [List.take_add_one, hw]
      refine dpa_app (dp_kpA k5 (s3 _ _ hD) (hta i ht) (dp_monoA s3 ea)) (.cons (dp_kp k5 (s3 _ _ hD) ?_ dv) .nil)
      have : ∀ {ds : List PyData} {i : Nat} {d : PyData}, tupOnlyA ds = true → ds[i]? = some d → tupOnly d = true := by
        intro ds
        induction ds with
        | nil => intro i d _ e; cases e
        | cons d0 r ih =>
          intro i d h e
          have h' : (tupOnly d0 && tupOnlyA r) = true := h
          rw [Bool.and_eq_true] at h'
          cases i with
          | zero =>
            cases e
            exact h'.1
          | succ i => exact ih (i := i) h'.2 (by simpa using e)
      exact this ht hw
  · rw [← hl, List.take_length] at ea
    exact hd D acc H' fD s' hD hl' ea
/-! ### joins -/
abbrev JQ := Option (Sum (PQ × PQ) Rat)
def jD : JQ → PyData
  | none => .str "line"
  | some (.inl (c, d)) => .tuple [.str "curve", ptQ c, ptQ d]
  | some (.inr t) => .tuple [.str "smooth", qD t]
def isSm : JQ → Bool
  | some (.inr _) => true
  | _ => false
/-- smooth at i -/
def smA (js : List JQ) (i : Nat) : Bool := match js[i]? with
  | some j => isSm j
  | none => false
def nbQ (js : List JQ) (cyc : Bool) (i : Int) : Bool := if cyc = true then smA js (i % (js.length : Int)).toNat else decide (0 ≤ i) && decide (i < (js.length : Int)) && smA js i.toNat
def subQ (p q : PQ) : PQ := (q.1 - p.1, q.2 - p.2)
def halfQ (p : PQ) : PQ := (p.1 / 2, p.2 / 2)
def aheadQ (p : PQ) (f : Rat) (w : PQ) : PQ := (p.1 + f * w.1, p.2 + f * w.2)
def ptAt (pts : List PQ) (i : Nat) : PQ := (pts[i % pts.length]?).getD (0, 0)
def leaveQ (pts : List PQ) (js : List JQ) (cyc : Bool) (k : Nat) : PQ := if nbQ js cyc ((k : Int) - 1) = true then halfQ (subQ (ptAt pts (k + pts.length - 1)) (ptAt pts (k + 1))) else subQ (ptAt pts k) (ptAt pts (k + 1))
def comeQ (pts : List PQ) (js : List JQ) (cyc : Bool) (k : Nat) : PQ := if nbQ js cyc ((k : Int) + 1) = true then halfQ (subQ (ptAt pts k) (ptAt pts (k + 2))) else subQ (ptAt pts k) (ptAt pts (k + 1))
def segJ (pts : List PQ) (js : List JQ) (cyc : Bool) (k : Nat) : Option (PQ × PQ) := match js[k]? with
  | some (some (.inl (c, d))) => some (c, d)
  | some (some (.inr t)) => some (aheadQ (ptAt pts k) (1 / (3 * t)) (leaveQ pts js cyc k), aheadQ (ptAt pts (k + 1)) (-(1 / (3 * t))) (comeQ pts js cyc k))
  | _ => none
def segsJ (pts : List PQ) (js : List JQ) (cyc : Bool) : List (Option (PQ × PQ)) := (List.range js.length).map (segJ pts js cyc)
/-- a tension: small; one that may stand -/
def Bt (t : Rat) : Prop := t.num.natAbs ≤ 37 ∧ t.den ≤ 50
def Gt (t : Rat) : Prop := Bd t 17 4 ∧ 0 < t ∧ ¬ t < 3 / 4
def Bj : JQ → Prop
  | none => True
  | some (.inl (c, d)) => Bq c ∧ Bq d
  | some (.inr t) => Bt t
def Gj : JQ → Prop
  | some (.inr t) => Gt t
  | _ => True
def badJ : JQ → Bool
  | some (.inr t) => decide (t < 3 / 4)
  | _ => false
def hf : Rat := ⟨1, 2, by decide, by decide⟩
theorem hf_eq : (1 / 2 : Rat) = hf := by decide +kernel
def tq : Rat := ⟨3, 4, by decide, by decide⟩
theorem tq_eq : (3 / 4 : Rat) = tq := by decide +kernel
theorem bw (n : Nat) {r : Rat} {p q p' q' : Nat} (h : Bd r p q) (h1 : p ≤ p' := by decide) (h2 : q ≤ q' := by decide) : Bd r p' q' := h.le h1 h2
section
variable {K : PySem.W.Frag} {H : Hp}
theorem dp_js {v : V} {t : Rat} (h : Dp K H v (jD (some (.inr t)))) : ∃ p w, v = .ref p ∧ SqT K H p [.str "smooth", w] ∧ Dp K H w (qD t) := by
  obtain ⟨p, v1, v2, e, hS, d1, d2⟩ := dp_t2 h
  rw [dp_str d1] at hS
  exact ⟨p, v2, e, hS, d2⟩
theorem dp_jc {v : V} {c d : PQ} (h : Dp K H v (jD (some (.inl (c, d))))) : ∃ p w u, v = .ref p ∧ SqT K H p [.str "curve", w, u] ∧ Dp K H w (ptQ c) ∧ Dp K H u (ptQ d) := by
  obtain ⟨p, v1, v2, v3, e, hS, d1, d2, d3⟩ := dp_t3 h
  rw [dp_str d1] at hS
  exact ⟨p, v2, v3, e, hS, d2, d3⟩
end
def sp_is_smooth (K : PySem.W.Frag) : Sp := fun vs H Q _ => ∃ (v : V) (j : JQ), vs = [v] ∧ Dp K H v (jD j) ∧ Q (.bl (isSm j)) H
def sp_way_from (K : PySem.W.Frag) : Sp := fun vs H Q _ => ∃ (v w : V) (p q : PQ), vs = [v, w] ∧ Dp K H v (ptQ p) ∧ Dp K H w (ptQ q) ∧ Bq p ∧ Bq q ∧ RetD K H (ptQ (subQ p q)) Q
def sp_half_way (K : PySem.W.Frag) : Sp := fun vs H Q _ => ∃ (v w : V) (p q : PQ), vs = [v, w] ∧ Dp K H v (ptQ p) ∧ Dp K H w (ptQ q) ∧ Bq p ∧ Bq q ∧ RetD K H (ptQ (halfQ (subQ p q))) Q
/-- a way, a factor -/
def Bw (p : PQ) : Prop := Bd p.1 1000 100 ∧ Bd p.2 1000 100
def Bf (f : Rat) : Prop := Bd f 100 100
def sp_ahead (K : PySem.W.Frag) (g : Rat → Rat) : Sp := fun vs H Q _ => ∃ (v u w : V) (p : PQ) (f : Rat) (y : PQ), vs = [v, u, w] ∧ Dp K H v (ptQ p) ∧ Dp K H u (qD f) ∧ Dp K H w (ptQ y) ∧ Bq p ∧ Bf f ∧ Bw y ∧ RetD K H (ptQ (aheadQ p (g f) y)) Q
theorem subQ_b {p q : PQ} (h : Bq p) (k : Bq q) : Bw (subQ p q) := ⟨bw 0 (bd_sub k.1 h.1), bw 0 (bd_sub k.2 h.2)⟩
theorem half_b {p : PQ} (h : Bd p.1 600 36) (k : Bd p.2 600 36) : Bw (halfQ p) := ⟨bw 0 (bd_div (by decide) h (show Bd (2 : Rat) 2 1 from ⟨by decide, by decide⟩)), bw 0 (bd_div (by decide) k (show Bd (2 : Rat) 2 1 from ⟨by decide, by decide⟩))⟩
theorem bgf {r : Rat} {p q : Nat} (h : Bd r p q) (h1 : p ≤ 1000000000000 := by decide) (h2 : q ≤ 1000000000000 := by decide) : Bg r := ⟨Nat.lt_of_le_of_lt h.1 (Nat.lt_of_le_of_lt h1 (by decide)), Nat.lt_of_le_of_lt h.2 (Nat.lt_of_le_of_lt h2 (by decide))⟩
theorem z_ixAT {K : PySem.W.Frag} {H : Hp} {Q : VK} {p : Addr} {xs : List V} {i : Int} {v : V} (h : SqT K H p xs) (ha : atI xs i = some v) (q : Q v H) : Tg.rIxA K (.ref p) (.int i) H Q := .inl (z_ixT h ha q)
theorem z_ixAS {K : PySem.W.Frag} {H : Hp} {Q : VK} {z : Str} {i : Int} {c : Nat} (hz : z.length ≤ sizeLine) (ha : atI z.cps.toList i = some c) (q : Q (.str ⟨#[c]⟩) H) : Tg.rIxA K (.str z) (.int i) H Q := .inr ⟨z, i, c, rfl, rfl, hz, ha, q⟩
section
theorem ok_is_smooth {P : Program} {w : World} {K : PySem.W.Frag} {mg : Str → Option Value} {base : Heap} {A : Nat → Addr} {D : Nat → FuncData} (T : Txt K mg A D base) : FnOk P w K mg base (L2.CX P w) 1 (A 13) (D 13) ["join"] (sp_is_smooth K) := by
  refine T.F_is_smooth.okX sc_is_smooth (fun vs H Q E h => ?_) (fun cdv A' outer s H vs Q E hr h => ?_)
  · obtain ⟨v, j, rfl, _⟩ := h
    rfl
  obtain ⟨v, j, rfl, dj, q⟩ := h
  refine ⟨_, (pss_one (ps_ret (pe_cmpR op_eq (pe_ix Tg.ix_any (pv 0) pe_int (fun _ _ => rfl)) pe_str (nomark _)))), ?_⟩
  match j with
  | none =>
    rw [dp_str dj]
    walk_at "z"
    refine z_ixAS (by decide +kernel) (show atI (Str.ofString "line").cps.toList 0 = some 108 from by decide +kernel) ?_
    walk_at "z"
    refine z_eq rfl ?_
    rw [show decide (V.str ⟨#[108]⟩ = V.str (Str.ofString "smooth")) = false by decide +kernel]
    exact q
  | some (.inl (c, d)) =>
    obtain ⟨p, w1, w2, rfl, hS, _, _⟩ := dp_jc dj
    walk_at "z"
    refine z_ixAT hS rfl ?_
    walk_at "z"
    refine z_eq rfl ?_
    rw [show decide (V.str (Str.ofString "curve") = V.str (Str.ofString "smooth")) = false by decide +kernel]
    exact q
  | some (.inr t) =>
    obtain ⟨p, w1, rfl, hS, _⟩ := dp_js dj
    walk_at "z"
    refine z_ixAT hS rfl ?_
    walk_at "z"
    refine z_eq rfl ?_
    rw [show decide (V.str (Str.ofString "smooth") = V.str (Str.ofString "smooth")) = true by decide +kernel]
    exact q
theorem ok_way_from {P : Program} {w : World} {K : PySem.W.Frag} {mg : Str → Option Value} {base : Heap} {A : Nat → Addr} {D : Nat → FuncData} (T : Txt K mg A D base) : FnOk P w K mg base (L2.CX P w) 3 (A 17) (D 17) ["p", "q"] (sp_way_from K) := by
  refine T.F_way_from.okX sc_way_from (fun vs H Q E h => ?_) (fun cdv A' outer s H vs Q E hr h => ?_)
  · obtain ⟨v, w, p, p', rfl, _⟩ := h
    rfl
  obtain ⟨v, w, p, p', rfl, d1, d2, b1, b2, q⟩ := h
  refine ⟨_, (pss_one (ps_ret (pe_tup (pa_cons (pe_call (ok_subtract T) (hr.mono (by decide)) (by rfl) T.m_subtract T.F_subtract.kp T.b_subtract .nil (passes_call (takes_of rfl rfl rfl rfl) (fun _ _ _ _ h => h)) (pa_cons (pe_ix ix_tup (pv 1) pe_int (fun _ _ => rfl)) (pa_cons (pe_ix ix_tup (pv 0) pe_int (fun _ _ => rfl)) pa_nil))) (pa_cons (pe_call (ok_subtract T) (hr.mono (by decide)) (by rfl) T.m_subtract T.F_subtract.kp T.b_subtract .nil (passes_call (takes_of rfl rfl rfl rfl) (fun _ _ _ _ h => h)) (pa_cons (pe_ix ix_tup (pv 1) pe_int (fun _ _ => rfl)) (pa_cons (pe_ix ix_tup (pv 0) pe_int (fun _ _ => rfl)) pa_nil))) pa_nil))))), ?_⟩
  obtain ⟨a, v1, v2, rfl, h1, x1, y1⟩ := dp_t2 d1
  obtain ⟨b, w1, w2, rfl, h2, x2, y2⟩ := dp_t2 d2
  walk_at "z"
  refine opq x2 x1 (bgf b2.1) (bgf b1.1) ((bd_sub b2.1 b1.1).fits (by decide) (by decide)) fun u1 H1 s1 e1 => ?_
  have h11 := seqT s1 h1
  have h21 := seqT s1 h2
  walk_at "z"
  refine opq (dp_mono s1 y2) (dp_mono s1 y1) (bgf b2.2) (bgf b1.2) ((bd_sub b2.2 b1.2).fits (by decide) (by decide)) fun u2 H2 s2 e2 => ?_
  walk_at "z"
  intro p9 H9 f9 s9 h9
  exact q _ H9 ((s1.trans s2).trans s9) (dp_p h9 (dp_mono (s2.trans s9) e1) (dp_mono s9 e2))
theorem ok_half_way {P : Program} {w : World} {K : PySem.W.Frag} {mg : Str → Option Value} {base : Heap} {A : Nat → Addr} {D : Nat → FuncData} (T : Txt K mg A D base) : FnOk P w K mg base (L2.CX P w) 4 (A 18) (D 18) ["p", "q"] (sp_half_way K) := by
  refine T.F_half_way.okX sc_half_way (fun vs H Q E h => ?_) (fun cdv A' outer s H vs Q E hr h => ?_)
  · obtain ⟨v, w, p, p', rfl, _⟩ := h
    rfl
  obtain ⟨v, w, p, p', rfl, d1, d2, b1, b2, q⟩ := h
  refine ⟨_, (pss_cons (ps_asg (pe_call (ok_way_from T) (hr.mono (by decide)) (by rfl) T.m_way_from T.F_way_from.kp T.b_way_from .nil (passes_call (takes_of rfl rfl rfl rfl) (fun _ _ _ _ h => h)) (pa_cons (pv 0) (pa_cons (pv 1) pa_nil))) (pg_tup (by rfl) (pgs_cons (pg_name (i := 2) sc_half_way.nd rfl (.inl rfl)) (pgs_cons (pg_name (i := 3) sc_half_way.nd rfl (.inl rfl)) pgs_nil))))
  (pss_one (ps_ret (pe_tup (pa_cons (pe_call (ok_multiply T) (hr.mono (by decide)) (by rfl) T.m_multiply T.F_multiply.kp T.b_multiply .nil (passes_call (takes_of rfl rfl rfl rfl) (fun _ _ _ _ h => h)) (pa_cons (Z.pe_globR T.c_HALF) (pa_cons (pv 2) pa_nil))) (pa_cons (pe_call (ok_multiply T) (hr.mono (by decide)) (by rfl) T.m_multiply T.F_multiply.kp T.b_multiply .nil (passes_call (takes_of rfl rfl rfl rfl) (fun _ _ _ _ h => h)) (pa_cons (Z.pe_globR T.c_HALF) (pa_cons (pv 3) pa_nil))) pa_nil)))))), ?_⟩
  walk_at "z"
  refine ⟨_, _, p, p', rfl, d1, d2, b1, b2, fun u H1 s1 e1 => ?_⟩
  obtain ⟨a, v1, v2, rfl, h1, x1, y1⟩ := dp_t2 e1
  have hh : ∀ H, Dp K H (.ref (A 41)) (qD (1 / 2)) := fun H => by rw [hf_eq]; exact T.d_HALF H
  have c1 : Bd ((subQ p p').1) 600 36 := bd_sub b2.1 b1.1
  have c2 : Bd ((subQ p p').2) 600 36 := bd_sub b2.2 b1.2
  have bh : Bd (1 / 2 : Rat) 1 2 := by rw [hf_eq]; exact ⟨by decide, by decide⟩
  have e9 : ∀ r : Rat, 1 / 2 * r = r / 2 := fun r => by grind
  walk_at "z"
  refine opq (hh _) x1 (bgf bh) (bgf c1) ((bd_mul bh c1).fits (by decide) (by decide)) fun u1 H2 s2 e2 => ?_
  walk_at "z"
  refine opq (hh _) (dp_mono s2 y1) (bgf bh) (bgf c2) ((bd_mul bh c2).fits (by decide) (by decide)) fun u2 H3 s3 e3 => ?_
  walk_at "z"
  intro p9 H9 f9 s9 h9
  rw [e9] at e2 e3
  exact q _ H9 (((s1.trans s2).trans s3).trans s9) (dp_p h9 (dp_mono (s3.trans s9) e2) (dp_mono s9 e3))
theorem ok_ahead_of {P : Program} {w : World} {K : PySem.W.Frag} {mg : Str → Option Value} {base : Heap} {A : Nat → Addr} {D : Nat → FuncData} (T : Txt K mg A D base) : FnOk P w K mg base (L2.CX P w) 3 (A 19) (D 19) ["point", "factor", "way"] (sp_ahead K (fun f => f)) := by
  refine T.F_ahead_of.okX sc_ahead_of (fun vs H Q E h => ?_) (fun cdv A' outer s H vs Q E hr h => ?_)
  · obtain ⟨v, u, w, p, f, y, rfl, _⟩ := h
    rfl
  obtain ⟨v, u, w, p, f, y, rfl, d1, d2, d3, b1, b2, b3, q⟩ := h
  refine ⟨_, (pss_one (ps_ret (pe_tup (pa_cons (pe_call (ok_add T) (hr.mono (by decide)) (by rfl) T.m_add T.F_add.kp T.b_add .nil (passes_call (takes_of rfl rfl rfl rfl) (fun _ _ _ _ h => h)) (pa_cons (pe_ix ix_tup (pv 0) pe_int (fun _ _ => rfl)) (pa_cons (pe_call (ok_multiply T) (hr.mono (by decide)) (by rfl) T.m_multiply T.F_multiply.kp T.b_multiply .nil (passes_call (takes_of rfl rfl rfl rfl) (fun _ _ _ _ h => h)) (pa_cons (pv 1) (pa_cons (pe_ix ix_tup (pv 2) pe_int (fun _ _ => rfl)) pa_nil))) pa_nil))) (pa_cons (pe_call (ok_add T) (hr.mono (by decide)) (by rfl) T.m_add T.F_add.kp T.b_add .nil (passes_call (takes_of rfl rfl rfl rfl) (fun _ _ _ _ h => h)) (pa_cons (pe_ix ix_tup (pv 0) pe_int (fun _ _ => rfl)) (pa_cons (pe_call (ok_multiply T) (hr.mono (by decide)) (by rfl) T.m_multiply T.F_multiply.kp T.b_multiply .nil (passes_call (takes_of rfl rfl rfl rfl) (fun _ _ _ _ h => h)) (pa_cons (pv 1) (pa_cons (pe_ix ix_tup (pv 2) pe_int (fun _ _ => rfl)) pa_nil))) pa_nil))) pa_nil))))), ?_⟩
  obtain ⟨a, v1, v2, rfl, h1, x1, y1⟩ := dp_t2 d1
  obtain ⟨b, w1, w2, rfl, h2, x2, y2⟩ := dp_t2 d3
  have c1 := bd_mul b2 b3.1
  have c2 := bd_mul b2 b3.2
  walk_at "z"
  refine opq d2 x2 (bgf b2) (bgf b3.1) (c1.fits (by decide) (by decide)) fun u1 H1 s1 e1 => ?_
  walk_at "z"
  refine opq (dp_mono s1 x1) e1 (bgf b1.1) (bgf c1) ((bd_add b1.1 c1).fits (by decide) (by decide)) fun u2 H2 s2 e2 => ?_
  have s12 := s1.trans s2
  have h12 := seqT s12 h1
  have h22 := seqT s12 h2
  walk_at "z"
  refine opq (dp_mono s12 d2) (dp_mono s12 y2) (bgf b2) (bgf b3.2) (c2.fits (by decide) (by decide)) fun u3 H3 s3 e3 => ?_
  walk_at "z"
  refine opq (dp_mono (s12.trans s3) y1) e3 (bgf b1.2) (bgf c2) ((bd_add b1.2 c2).fits (by decide) (by decide)) fun u4 H4 s4 e4 => ?_
  walk_at "z"
  intro p9 H9 f9 s9 h9
  exact q _ H9 (((s12.trans s3).trans s4).trans s9) (dp_p h9 (dp_mono ((s3.trans s4).trans s9) e2) (dp_mono s9 e4))
theorem ok_behind {P : Program} {w : World} {K : PySem.W.Frag} {mg : Str → Option Value} {base : Heap} {A : Nat → Addr} {D : Nat → FuncData} (T : Txt K mg A D base) : FnOk P w K mg base (L2.CX P w) 3 (A 20) (D 20) ["point", "factor", "way"] (sp_ahead K (fun f => -f)) := by
  refine T.F_behind.okX sc_behind (fun vs H Q E h => ?_) (fun cdv A' outer s H vs Q E hr h => ?_)
  · obtain ⟨v, u, w, p, f, y, rfl, _⟩ := h
    rfl
  obtain ⟨v, u, w, p, f, y, rfl, d1, d2, d3, b1, b2, b3, q⟩ := h
  refine ⟨_, (pss_one (ps_ret (pe_tup (pa_cons (pe_call (ok_subtract T) (hr.mono (by decide)) (by rfl) T.m_subtract T.F_subtract.kp T.b_subtract .nil (passes_call (takes_of rfl rfl rfl rfl) (fun _ _ _ _ h => h)) (pa_cons (pe_ix ix_tup (pv 0) pe_int (fun _ _ => rfl)) (pa_cons (pe_call (ok_multiply T) (hr.mono (by decide)) (by rfl) T.m_multiply T.F_multiply.kp T.b_multiply .nil (passes_call (takes_of rfl rfl rfl rfl) (fun _ _ _ _ h => h)) (pa_cons (pv 1) (pa_cons (pe_ix ix_tup (pv 2) pe_int (fun _ _ => rfl)) pa_nil))) pa_nil))) (pa_cons (pe_call (ok_subtract T) (hr.mono (by decide)) (by rfl) T.m_subtract T.F_subtract.kp T.b_subtract .nil (passes_call (takes_of rfl rfl rfl rfl) (fun _ _ _ _ h => h)) (pa_cons (pe_ix ix_tup (pv 0) pe_int (fun _ _ => rfl)) (pa_cons (pe_call (ok_multiply T) (hr.mono (by decide)) (by rfl) T.m_multiply T.F_multiply.kp T.b_multiply .nil (passes_call (takes_of rfl rfl rfl rfl) (fun _ _ _ _ h => h)) (pa_cons (pv 1) (pa_cons (pe_ix ix_tup (pv 2) pe_int (fun _ _ => rfl)) pa_nil))) pa_nil))) pa_nil))))), ?_⟩
  obtain ⟨a, v1, v2, rfl, h1, x1, y1⟩ := dp_t2 d1
  obtain ⟨b, w1, w2, rfl, h2, x2, y2⟩ := dp_t2 d3
  have c1 := bd_mul b2 b3.1
  have c2 := bd_mul b2 b3.2
  have e9 : ∀ x r z : Rat, x - r * z = x + -r * z := fun x r z => by grind
  walk_at "z"
  refine opq d2 x2 (bgf b2) (bgf b3.1) (c1.fits (by decide) (by decide)) fun u1 H1 s1 e1 => ?_
  walk_at "z"
  refine opq (dp_mono s1 x1) e1 (bgf b1.1) (bgf c1) ((bd_sub b1.1 c1).fits (by decide) (by decide)) fun u2 H2 s2 e2 => ?_
  have s12 := s1.trans s2
  have h12 := seqT s12 h1
  have h22 := seqT s12 h2
  walk_at "z"
  refine opq (dp_mono s12 d2) (dp_mono s12 y2) (bgf b2) (bgf b3.2) (c2.fits (by decide) (by decide)) fun u3 H3 s3 e3 => ?_
  walk_at "z"
  refine opq (dp_mono (s12.trans s3) y1) e3 (bgf b1.2) (bgf c2) ((bd_sub b1.2 c2).fits (by decide) (by decide)) fun u4 H4 s4 e4 => ?_
  walk_at "z"
  intro p9 H9 f9 s9 h9
  rw [e9] at e2 e4
  exact q _ H9 (((s12.trans s3).trans s4).trans s9) (dp_p h9 (dp_mono ((s3.trans s4).trans s9) e2) (dp_mono s9 e4))
end
def sp_check_knots (K : PySem.W.Frag) (A : Nat → Addr) : Sp := fun vs H Q E => ∃ n : Int, vs = [.int n] ∧ (24 < n → E (.ref (A 4)) none H) ∧ (n ≤ 24 → Q .non H)
/-- a list of points, a list of joins -/
structure JL (K : PySem.W.Frag) (H : Hp) (p q : Addr) (pv jv : List V) (pts : List PQ) (js : List JQ) (cyc : Bool) : Prop where
  hp : SqL K H p pv
  hq : SqL K H q jv
  dp : DpAll K H pv (pts.map ptQ)
  dj : DpAll K H jv (js.map jD)
  n1 : 1 ≤ pts.length
  n2 : pts.length ≤ 100
  n3 : js.length + 1 = pts.length + (if cyc = true then 1 else 0)
  bp : ∀ a ∈ pts, Bq a
  bj : ∀ j ∈ js, Bj j
theorem JL.mono {K : PySem.W.Frag} {H H' : Hp} {p q : Addr} {pv jv : List V} {pts : List PQ} {js : List JQ} {cyc : Bool} (J : JL K H p q pv jv pts js cyc) (s : Tg.SameX H H') : JL K H' p q pv jv pts js cyc :=
  ⟨s.seqL J.hp, s.seqL J.hq, s.dpA J.dp, s.dpA J.dj, J.n1, J.n2, J.n3, J.bp, J.bj⟩
section
variable {K : PySem.W.Frag} {H : Hp} {p q : Addr} {pv jv : List V} {pts : List PQ} {js : List JQ} {cyc : Bool}
theorem JL.pl (J : JL K H p q pv jv pts js cyc) : pv.length = pts.length := by rw [dpa_len J.dp, List.length_map]
theorem JL.jl (J : JL K H p q pv jv pts js cyc) : jv.length = js.length := by rw [dpa_len J.dj, List.length_map]
theorem JL.jle (J : JL K H p q pv jv pts js cyc) : js.length ≤ pts.length := by
  have := J.n3
  split at this <;> omega
theorem JL.pt (J : JL K H p q pv jv pts js cyc) (i : Nat) : ∃ v, pv[i % pts.length]? = some v ∧ Dp K H v (ptQ (ptAt pts i)) ∧ Bq (ptAt pts i) := by
  have n1 := J.n1
  have hlt := Nat.mod_lt i (show 0 < pts.length by omega)
  obtain ⟨a, ha⟩ : ∃ z, pts[i % pts.length]? = some z := ⟨_, List.getElem?_eq_getElem hlt⟩
  obtain ⟨v, hv, dv⟩ := dpa_get J.dp (show (pts.map ptQ)[i % pts.length]? = some (ptQ a) by rw [List.getElem?_map, ha]; rfl)
  have e : ptAt pts i = a := by
    unfold ptAt
    rw [ha]
    rfl
  rw [e]
  exact ⟨v, hv, dv, J.bp a (List.mem_of_getElem? ha)⟩
theorem JL.jn (J : JL K H p q pv jv pts js cyc) {i : Nat} {j : JQ} (h : js[i]? = some j) : ∃ v, jv[i]? = some v ∧ Dp K H v (jD j) :=
  dpa_get J.dj (show (js.map jD)[i]? = some (jD j) by rw [List.getElem?_map, h]; rfl)
theorem JL.at1 (J : JL K H p q pv jv pts js cyc) {k : Nat} (hk : k < pts.length) : ∃ v, atI pv ((k : Int) - 1) = some v ∧ Dp K H v (ptQ (ptAt pts (k + pts.length - 1))) ∧ Bq (ptAt pts (k + pts.length - 1)) := by
  have n1 := J.n1
  have pl := J.pl
  obtain ⟨v, hv, dv, bv⟩ := J.pt (k + pts.length - 1)
  refine ⟨v, ?_, dv, bv⟩
  rw [← hv]
  unfold atI ixN
  rcases Nat.eq_zero_or_pos k with h0 | h0
  · subst h0
    rw [if_neg (by omega), if_pos (by omega)]
    show pv[(((0 : Nat) : Int) - 1 + (pv.length : Int)).toNat]? = _
    rw [show (((0 : Nat) : Int) - 1 + (pv.length : Int)).toNat = pts.length - 1 by omega, show 0 + pts.length - 1 = pts.length - 1 by omega, Nat.mod_eq_of_lt (by omega)]
  · rw [if_pos (by omega), if_pos (by omega)]
    show pv[((k : Int) - 1).toNat]? = _
    rw [show ((k : Int) - 1).toNat = k - 1 by omega, show k + pts.length - 1 = (k - 1) + pts.length by omega, Nat.add_mod_right, Nat.mod_eq_of_lt (by omega)]
theorem natmod {a b : Nat} : ((a : Int)) % ((b : Nat) : Int) = ((a % b : Nat) : Int) := (Int.natCast_emod a b).symm
end
def sp_smooth_neighbor (K : PySem.W.Frag) : Sp := fun vs H Q _ => ∃ (p q : Addr) (pv jv : List V) (pts : List PQ) (js : List JQ) (cyc : Bool) (i : Int), vs = [.ref q, .int i, .bl cyc] ∧ JL K H p q pv jv pts js cyc ∧ 1 ≤ js.length ∧ Q (.bl (nbQ js cyc i)) H
def sp_smooth_segment (K : PySem.W.Frag) : Sp := fun vs H Q _ => ∃ (p q : Addr) (pv jv : List V) (pts : List PQ) (js : List JQ) (cyc : Bool) (k : Nat) (t : Rat), vs = [.ref p, .ref q, .int (k : Int), .bl cyc] ∧ JL K H p q pv jv pts js cyc ∧ js[k]? = some (some (.inr t)) ∧ Gt t ∧ RetD K H (sgQ (segJ pts js cyc k)) Q
def sp_joined_segment (K : PySem.W.Frag) : Sp := fun vs H Q _ => ∃ (p q : Addr) (pv jv : List V) (pts : List PQ) (js : List JQ) (cyc : Bool) (k : Nat), vs = [.ref p, .ref q, .int (k : Int), .bl cyc] ∧ JL K H p q pv jv pts js cyc ∧ k < js.length ∧ (∀ j ∈ js, Gj j) ∧ RetD K H (sgQ (segJ pts js cyc k)) Q
theorem smA_eq {js : List JQ} {i : Nat} {j : JQ} (h : js[i]? = some j) : smA js i = isSm j := by
  unfold smA
  rw [h]
theorem Gt.fac {t : Rat} (g : Gt t) : Bd (3 * t) 51 4 ∧ 3 * t ≠ 0 ∧ Bd (1 / (3 * t)) 4 51 := by
  have b3 : Bd (3 * t) 51 4 := (bd_mul (show Bd (3 : Rat) 3 1 from ⟨by decide, by decide⟩) g.1).le (by decide) (by decide)
  have h0 : 3 * t ≠ 0 := fun z => by
    have := g.2.1
    grind
  exact ⟨b3, h0, (bd_div h0 (show Bd (1 : Rat) 1 1 from ⟨by decide, by decide⟩) b3).le (by decide) (by decide)⟩
theorem divq {K : PySem.W.Frag} {A : Nat → Addr} {H : Hp} {v w : V} {a b : Rat} {Q : VK} {E : XK} (ha : Dp K H v (qD a)) (hb : Dp K H w (qD b)) (ga : Bg a) (gb : Bg b) (h0 : b ≠ 0) (hf : fitsQ (a / b)) (q : RetD K H (qD (a / b)) Q) : sp_divide K A [v, w] H Q E :=
  ⟨v, w, a, b, rfl, ha, hb, ga, gb, fun z => absurd z h0, fun _ => ⟨fun n => absurd hf n, fun _ => q⟩⟩
section
theorem ok_check_knots {P : Program} {w : World} {K : PySem.W.Frag} {mg : Str → Option Value} {base : Heap} {A : Nat → Addr} {D : Nat → FuncData} (T : Txt K mg A D base) : FnOk P w K mg base (L2.CX P w) 1 (A 11) (D 11) ["count"] (sp_check_knots K A) := by
  refine T.F_check_knots.okX sc_check_knots (fun vs H Q E h => ?_) (fun cdv A' outer s H vs Q E hr h => ?_)
  · obtain ⟨n, rfl, _⟩ := h
    rfl
  obtain ⟨n, rfl, q1, q2⟩ := h
  refine ⟨_, (pss_one (ps_if (pt_cmpR op_gt (pv 0) (Z.pe_globE T.c_MOST_KNOTS) (nomark _))
  (pss_one (ps_raise rfl (takes_of rfl rfl rfl rfl) (Tg.pmkF T.x_TooMany (by rfl) (Z.pe_globE T.c_MOST_KNOTS) (by decide +kernel))))
  pss_nil)), ?_⟩
  walk_at "z"
  refine z_if (fun c => ?_) (fun c => ?_)
  · walk_at "z"
    exact q1 (by omega)
  · walk_at "z"
    exact q2 (by omega)
theorem ok_smooth_neighbor {P : Program} {w : World} {K : PySem.W.Frag} {mg : Str → Option Value} {base : Heap} {A : Nat → Addr} {D : Nat → FuncData} (T : Txt K mg A D base) : FnOk P w K mg base (L2.CX P w) 2 (A 16) (D 16) ["joins", "at", "cycle"] (sp_smooth_neighbor K) := by
  refine T.F_smooth_neighbor.okX sc_smooth_neighbor (fun vs H Q E h => ?_) (fun cdv A' outer s H vs Q E hr h => ?_)
  · obtain ⟨p, q', pvs, jvs, pts, js, cyc, i, rfl, _⟩ := h
    rfl
  obtain ⟨p, q', pvs, jvs, pts, js, cyc, i, rfl, J, n1, q⟩ := h
  refine ⟨_, (pss_cons (ps_if (pt_val (pv 2))
  (pss_one (ps_ret (pe_call (ok_is_smooth T) (hr.mono (by decide)) (by rfl) T.m_is_smooth T.F_is_smooth.kp T.b_is_smooth .nil (passes_call (takes_of rfl rfl rfl rfl) (fun _ _ _ _ h => h)) (pa_cons (pe_ix ix_list (pv 0) (pe_op op_mod (pv 1) (pe_callB Z.c_len (by rfl) T.z_len (by decide +kernel) (pa_cons (pv 0) pa_nil))) (fun _ _ => rfl)) pa_nil))))
  pss_nil)
  (pss_one (ps_ret (pe_and (pe_chain op_le op_lt pe_int (pv 1) (pe_callB Z.c_len (by rfl) T.z_len (by decide +kernel) (pa_cons (pv 0) pa_nil))) (pe_one (pe_call (ok_is_smooth T) (hr.mono (by decide)) (by rfl) T.m_is_smooth T.F_is_smooth.kp T.b_is_smooth .nil (passes_call (takes_of rfl rfl rfl rfl) (fun _ _ _ _ h => h)) (pa_cons (pe_ix ix_list (pv 0) (pv 1) (fun _ _ => rfl)) pa_nil))))))), ?_⟩
  have jl := J.jl
  have jq := J.hq
  walk_at "z"
  cases cyc with
  | true =>
    have h0 := Int.emod_nonneg i (show (js.length : Int) ≠ 0 by omega)
    have h1 := Int.emod_lt_of_pos i (show 0 < (js.length : Int) by omega)
    have q : Q (.bl (smA js (i % (js.length : Int)).toNat)) H := q
    obtain ⟨j, hj⟩ : ∃ z, js[(i % (js.length : Int)).toNat]? = some z := ⟨_, List.getElem?_eq_getElem (show (i % (js.length : Int)).toNat < js.length by omega)⟩
    obtain ⟨v, hv, dv⟩ := J.jn hj
    rw [smA_eq hj] at q
    walk_at "z"
    rw [jl]
    refine z_ixL jq (show atI jvs (i % (js.length : Int)) = some v by rw [show i % (js.length : Int) = ((i % (js.length : Int)).toNat : Int) by omega]; exact atI_nat hv) ?_
    walk_at "z"
    exact ⟨v, j, rfl, dv, q⟩
  | false =>
    have q : Q (.bl (decide (0 ≤ i) && decide (i < (js.length : Int)) && smA js i.toNat)) H := q
    walk_at "z"
    by_cases c1 : 0 ≤ i
    · rw [if_pos (decide_eq_true c1)]
      walk_at "z"
      rw [jl]
      rw [decide_eq_true c1, Bool.true_and] at q
      by_cases c2 : i < (js.length : Int)
      · rw [if_pos (decide_eq_true c2)]
        rw [decide_eq_true c2, Bool.true_and] at q
        obtain ⟨j, hj⟩ : ∃ z, js[i.toNat]? = some z := ⟨_, List.getElem?_eq_getElem (show i.toNat < js.length by omega)⟩
        obtain ⟨v, hv, dv⟩ := J.jn hj
        rw [smA_eq hj] at q
        walk_at "z"
        refine z_ixL jq (show atI jvs i = some v by rw [show i = (i.toNat : Int) by omega]; exact atI_nat hv) ?_
        walk_at "z"
        exact ⟨v, j, rfl, dv, q⟩
      · rw [if_neg (by rw [decide_eq_false c2]; exact Bool.false_ne_true)]
        rw [decide_eq_false c2, Bool.false_and] at q
        exact q
    · rw [if_neg (by rw [decide_eq_false c1]; exact Bool.false_ne_true)]
      rw [decide_eq_false c1, Bool.false_and, Bool.false_and] at q
      walk_at "z"
      exact q
theorem ok_smooth_segment {P : Program} {w : World} {K : PySem.W.Frag} {mg : Str → Option Value} {base : Heap} {A : Nat → Addr} {D : Nat → FuncData} (T : Txt K mg A D base) : FnOk P w K mg base (L2.CX P w) 5 (A 15) (D 15) ["points", "joins", "at", "cycle"] (sp_smooth_segment K) := by
  refine T.F_smooth_segment.okX sc_smooth_segment (fun vs H Q E h => ?_) (fun cdv A' outer s H vs Q E hr h => ?_)
  · obtain ⟨p, q', pvs, jvs, pts, js, cyc, k, t, rfl, _⟩ := h
    rfl
  obtain ⟨p, q', pvs, jvs, pts, js, cyc, k, t, rfl, J, hj, gt, q⟩ := h
  refine ⟨_, (pss_cons (ps_set (i := 4) sc_smooth_segment.nd rfl (.inl rfl) (pe_ix ix_list (pv 0) (pv 2) (fun _ _ => rfl)))
  (pss_cons (ps_set (i := 5) sc_smooth_segment.nd rfl (.inl rfl) (pe_ix ix_list (pv 0) (pe_op op_mod (pe_op op_add (pv 2) pe_int) (pe_callB Z.c_len (by rfl) T.z_len (by decide +kernel) (pa_cons (pv 0) pa_nil))) (fun _ _ => rfl)))
  (pss_cons (ps_set (i := 6) sc_smooth_segment.nd rfl (.inl rfl) (pe_call (ok_divide T) (hr.mono (by decide)) (by rfl) T.m_divide T.F_divide.kp T.b_divide .nil (passes_call (takes_of rfl rfl rfl rfl) (fun _ _ _ _ h => h)) (pa_cons (Z.pe_globR T.c_ONE) (pa_cons (pe_call (ok_multiply T) (hr.mono (by decide)) (by rfl) T.m_multiply T.F_multiply.kp T.b_multiply .nil (passes_call (takes_of rfl rfl rfl rfl) (fun _ _ _ _ h => h)) (pa_cons (Z.pe_globR T.c_THREE) (pa_cons (pe_ix ix_tup (pe_ix ix_list (pv 1) (pv 2) (fun _ _ => rfl)) pe_int (fun _ _ => rfl)) pa_nil))) pa_nil))))
  (Evl.pss_cut (ps_if (pt_val (pe_call (ok_smooth_neighbor T) (hr.mono (by decide)) (by rfl) T.m_smooth_neighbor T.F_smooth_neighbor.kp T.b_smooth_neighbor .nil (passes_call (takes_of rfl rfl rfl rfl) (fun _ _ _ _ h => h)) (pa_cons (pv 1) (pa_cons (pe_op op_sub (pv 2) pe_int) (pa_cons (pv 3) pa_nil)))))
  (pss_one (ps_set (i := 7) sc_smooth_segment.nd rfl (.inl rfl) (pe_call (ok_ahead_of T) (hr.mono (by decide)) (by rfl) T.m_ahead_of T.F_ahead_of.kp T.b_ahead_of .nil (passes_call (takes_of rfl rfl rfl rfl) (fun _ _ _ _ h => h)) (pa_cons (pv 4) (pa_cons (pv 6) (pa_cons (pe_call (ok_half_way T) (hr.mono (by decide)) (by rfl) T.m_half_way T.F_half_way.kp T.b_half_way .nil (passes_call (takes_of rfl rfl rfl rfl) (fun _ _ _ _ h => h)) (pa_cons (pe_ix ix_list (pv 0) (pe_op op_sub (pv 2) pe_int) (fun _ _ => rfl)) (pa_cons (pv 5) pa_nil))) pa_nil))))))
  (pss_one (ps_set (i := 7) sc_smooth_segment.nd rfl (.inl rfl) (pe_call (ok_ahead_of T) (hr.mono (by decide)) (by rfl) T.m_ahead_of T.F_ahead_of.kp T.b_ahead_of .nil (passes_call (takes_of rfl rfl rfl rfl) (fun _ _ _ _ h => h)) (pa_cons (pv 4) (pa_cons (pv 6) (pa_cons (pe_call (ok_way_from T) (hr.mono (by decide)) (by rfl) T.m_way_from T.F_way_from.kp T.b_way_from .nil (passes_call (takes_of rfl rfl rfl rfl) (fun _ _ _ _ h => h)) (pa_cons (pv 4) (pa_cons (pv 5) pa_nil))) pa_nil)))))))
  (Evl.pss_cut (ps_if (pt_val (pe_call (ok_smooth_neighbor T) (hr.mono (by decide)) (by rfl) T.m_smooth_neighbor T.F_smooth_neighbor.kp T.b_smooth_neighbor .nil (passes_call (takes_of rfl rfl rfl rfl) (fun _ _ _ _ h => h)) (pa_cons (pv 1) (pa_cons (pe_op op_add (pv 2) pe_int) (pa_cons (pv 3) pa_nil)))))
  (pss_one (ps_set (i := 8) sc_smooth_segment.nd rfl (.inl rfl) (pe_call (ok_behind T) (hr.mono (by decide)) (by rfl) T.m_behind T.F_behind.kp T.b_behind .nil (passes_call (takes_of rfl rfl rfl rfl) (fun _ _ _ _ h => h)) (pa_cons (pv 5) (pa_cons (pv 6) (pa_cons (pe_call (ok_half_way T) (hr.mono (by decide)) (by rfl) T.m_half_way T.F_half_way.kp T.b_half_way .nil (passes_call (takes_of rfl rfl rfl rfl) (fun _ _ _ _ h => h)) (pa_cons (pv 4) (pa_cons (pe_ix ix_list (pv 0) (pe_op op_mod (pe_op op_add (pv 2) pe_int) (pe_callB Z.c_len (by rfl) T.z_len (by decide +kernel) (pa_cons (pv 0) pa_nil))) (fun _ _ => rfl)) pa_nil))) pa_nil))))))
  (pss_one (ps_set (i := 8) sc_smooth_segment.nd rfl (.inl rfl) (pe_call (ok_behind T) (hr.mono (by decide)) (by rfl) T.m_behind T.F_behind.kp T.b_behind .nil (passes_call (takes_of rfl rfl rfl rfl) (fun _ _ _ _ h => h)) (pa_cons (pv 5) (pa_cons (pv 6) (pa_cons (pe_call (ok_way_from T) (hr.mono (by decide)) (by rfl) T.m_way_from T.F_way_from.kp T.b_way_from .nil (passes_call (takes_of rfl rfl rfl rfl) (fun _ _ _ _ h => h)) (pa_cons (pv 4) (pa_cons (pv 5) pa_nil))) pa_nil)))))))
  (pss_one (ps_ret (pe_tup (pa_cons (pv 7) (pa_cons (pv 8) pa_nil)))))))))), ?_⟩
  have pl := J.pl
  have jl := J.jl
  have kj : k < js.length := (List.getElem?_eq_some_iff.mp hj).1
  have kn : k < pts.length := by have := J.jle; omega
  have n1 := J.n1
  obtain ⟨va, hva, da, ba⟩ := J.pt k
  rw [Nat.mod_eq_of_lt kn] at hva
  obtain ⟨vb, hvb, db, bb⟩ := J.pt (k + 1)
  obtain ⟨vj, hvj, dvj⟩ := J.jn hj
  obtain ⟨pj, vt, rfl, hpj, dvt⟩ := dp_js dvj
  obtain ⟨f3, f0, fb⟩ := gt.fac
  have jp := J.hp
  have jq := J.hq
  walk_at "z"
  refine z_ixL jp (atI_nat hva) ?_
  walk_at "z"
  rw [pl, show ((k : Int) + 1) % (pts.length : Int) = (((k + 1) % pts.length : Nat) : Int) from natmod]
  refine z_ixL jp (atI_nat hvb) ?_
  walk_at "z"
  refine z_ixL jq (atI_nat hvj) ?_
  walk_at "z"
  have b3t : Bg (3 * t) := bgf f3
  refine opq (a := 3) (b := t) (T.d_THREE H) dvt ⟨by decide, by decide⟩ (bgf gt.1) (f3.fits (by decide) (by decide)) fun u1 H1 s1 e1 => ?_
  walk_at "z"
  refine divq (a := 1) (T.d_ONE H1) e1 ⟨by decide, by decide⟩ b3t f0 (fb.fits (by decide) (by decide)) fun u2 H2 s2 e2 => ?_
  have s12 := s1.trans s2
  have J2 := J.mono (.of s12)
  have q2 : RetD K H2 (sgQ (segJ pts js cyc k)) Q := fun v H' s d => q v H' (s12.trans s) d
  have da2 := dp_mono s12 da
  have db2 := dp_mono s12 db
  have eS : segJ pts js cyc k = some (aheadQ (ptAt pts k) (1 / (3 * t)) (leaveQ pts js cyc k), aheadQ (ptAt pts (k + 1)) (-(1 / (3 * t))) (comeQ pts js cyc k)) := by
    unfold segJ
    rw [hj]
  rw [eS] at q2
  generalize 1 / (3 * t) = f at e2 q2 fb
  clear q s1 s2 s12 e1 J da db hpj dvt dvj jp jq f3 f0 b3t eS
  have jp := J2.hp
  have jq := J2.hq
  have bf : Bf f := fb.le (by decide) (by decide)
  walk_at "z"
  refine z_cut (fun σ' H' => ∃ v1 : V, σ' = [some (.ref p), some (.ref q'), some (.int (k : Int)), some (.bl cyc), some va, some vb, some u2, some v1, none] ∧ Same H2 H' ∧ Dp K H' v1 (ptQ (aheadQ (ptAt pts k) f (leaveQ pts js cyc k)))) ?_ ?_
  · walk_at "z"
    refine ⟨p, q', pvs, jvs, pts, js, cyc, _, rfl, J2, by omega, ?_⟩
    obtain ⟨vc, hvc, dc, bc⟩ := J2.at1 kn
    unfold leaveQ
    cases hn : nbQ js cyc ((k : Int) - 1) with
    | true =>
      walk_at "z"
      refine z_ixL jp hvc ?_
      walk_at "z"
      refine ⟨_, _, _, _, rfl, dc, db2, bc, bb, fun u3 H3 s3 e3 => ?_⟩
      walk_at "z"
      refine ⟨_, _, _, _, f, _, rfl, dp_mono s3 da2, dp_mono s3 e2, e3, ba, bf, half_b (bd_sub bb.1 bc.1) (bd_sub bb.2 bc.2), fun u4 H4 s4 e4 => ?_⟩
      walk_at "z"
      exact ⟨u4, rfl, s3.trans s4, e4⟩
    | false =>
      walk_at "z"
      refine ⟨_, _, _, _, rfl, da2, db2, ba, bb, fun u3 H3 s3 e3 => ?_⟩
      walk_at "z"
      refine ⟨_, _, _, _, f, _, rfl, dp_mono s3 da2, dp_mono s3 e2, e3, ba, bf, subQ_b ba bb, fun u4 H4 s4 e4 => ?_⟩
      walk_at "z"
      exact ⟨u4, rfl, s3.trans s4, e4⟩
  rintro σ' H3 ⟨v1, rfl, s3, d1⟩
  have J3 := J2.mono (.of s3)
  have jp3 := J3.hp
  have da3 := dp_mono s3 da2
  have db3 := dp_mono s3 db2
  have e3 := dp_mono s3 e2
  walk_at "z"
  refine z_cut (fun σ' H' => ∃ v2 : V, σ' = [some (.ref p), some (.ref q'), some (.int (k : Int)), some (.bl cyc), some va, some vb, some u2, some v1, some v2] ∧ Same H3 H' ∧ Dp K H' v2 (ptQ (aheadQ (ptAt pts (k + 1)) (-f) (comeQ pts js cyc k)))) ?_ ?_
  · walk_at "z"
    refine ⟨p, q', pvs, jvs, pts, js, cyc, _, rfl, J3, by omega, ?_⟩
    obtain ⟨vc, hvc, dc, bc⟩ := J3.pt (k + 2)
    unfold comeQ
    cases hn : nbQ js cyc ((k : Int) + 1) with
    | true =>
      walk_at "z"
      rw [pl, show ((k : Int) + 2) % (pts.length : Int) = (((k + 2) % pts.length : Nat) : Int) from natmod]
      refine z_ixL jp3 (atI_nat hvc) ?_
      walk_at "z"
      refine ⟨_, _, _, _, rfl, da3, dc, ba, bc, fun u3 H4 s4 e4 => ?_⟩
      walk_at "z"
      refine ⟨_, _, _, _, f, _, rfl, dp_mono s4 db3, dp_mono s4 e3, e4, bb, bf, half_b (bd_sub bc.1 ba.1) (bd_sub bc.2 ba.2), fun u4 H5 s5 e5 => ?_⟩
      walk_at "z"
      exact ⟨u4, rfl, s4.trans s5, e5⟩
    | false =>
      walk_at "z"
      refine ⟨_, _, _, _, rfl, da3, db3, ba, bb, fun u3 H4 s4 e4 => ?_⟩
      walk_at "z"
      refine ⟨_, _, _, _, f, _, rfl, dp_mono s4 db3, dp_mono s4 e3, e4, bb, bf, subQ_b ba bb, fun u4 H5 s5 e5 => ?_⟩
      walk_at "z"
      exact ⟨u4, rfl, s4.trans s5, e5⟩
  rintro σ' H4 ⟨v2, rfl, s4, d2⟩
  walk_at "z"
  intro p9 H9 f9 s9 h9
  exact q2 _ H9 ((s3.trans s4).trans s9) (dp_mk h9 (.cons (dp_mono (s4.trans s9) d1) (.cons (dp_mono s9 d2) .nil)))
end
theorem cps_line : (Str.ofString "line").length ≤ sizeLine := by decide +kernel
theorem lay_line : PyData.canLay0 (.str (Str.ofString "line")) = true := by decide +kernel
theorem lay_curve : PyData.canLay0 (.str (Str.ofString "curve")) = true := by decide +kernel
theorem lay_smooth : PyData.canLay0 (.str (Str.ofString "smooth")) = true := by decide +kernel
theorem jd_lay (j : JQ) : PyData.canLay0 (jD j) = true ∧ PyData.depth (jD j) ≤ 3 := by
  match j with
  | none => exact ⟨lay_line, Nat.le_of_ble_eq_true rfl⟩
  | some (.inl (c, d)) =>
    refine ⟨?_, Nat.le_of_ble_eq_true rfl⟩
    show (PyData.canLay0 (.str (Str.ofString "curve")) && true) = true
    rw [lay_curve]
    rfl
  | some (.inr t) =>
    refine ⟨?_, Nat.le_of_ble_eq_true rfl⟩
    show (PyData.canLay0 (.str (Str.ofString "smooth")) && true) = true
    rw [lay_smooth]
    rfl
theorem shaped_jD (j : JQ) : SeqAt.shaped (jD j) = true := by
  obtain ⟨h1, h2⟩ := jd_lay j
  unfold SeqAt.shaped
  rw [h1, Bool.true_and]
  exact decide_eq_true (by omega)
theorem shaped_line : SeqAt.shaped (.str (Str.ofString "line")) = true := shaped_jD none
theorem eqv_line (j : JQ) : PyData.eqv (jD j) (.str (Str.ofString "line")) = (match j with | none => true | _ => false) := by
  match j with
  | none => exact SeqAt.eqv_refl _ lay_line
  | some (.inl (c, d)) => rfl
  | some (.inr t) => rfl
section
theorem ok_joined_segment {P : Program} {w : World} {K : PySem.W.Frag} {mg : Str → Option Value} {base : Heap} {A : Nat → Addr} {D : Nat → FuncData} (T : Txt K mg A D base) : FnOk P w K mg base (L2.CX P w) 6 (A 14) (D 14) ["points", "joins", "at", "cycle"] (sp_joined_segment K) := by
  refine T.F_joined_segment.okX sc_joined_segment (fun vs H Q E h => ?_) (fun cdv A' outer s H vs Q E hr h => ?_)
  · obtain ⟨p, q', pvs, jvs, pts, js, cyc, k, rfl, _⟩ := h
    rfl
  obtain ⟨p, q', pvs, jvs, pts, js, cyc, k, rfl, J, hk, gj, q⟩ := h
  refine ⟨_, (pss_cons (ps_set (i := 4) sc_joined_segment.nd rfl (.inl rfl) (pe_ix ix_list (pv 1) (pv 2) (fun _ _ => rfl)))
  (pss_cons (ps_if (pt_cmpR (op_eqD hr.units) (pv 4) pe_str (nomark _))
  (pss_one (ps_ret pe_non))
  pss_nil)
  (pss_cons (ps_if (pt_val (pe_call (ok_is_smooth T) (hr.mono (by decide)) (by rfl) T.m_is_smooth T.F_is_smooth.kp T.b_is_smooth .nil (passes_call (takes_of rfl rfl rfl rfl) (fun _ _ _ _ h => h)) (pa_cons (pv 4) pa_nil)))
  (pss_one (ps_ret (pe_call (ok_smooth_segment T) (hr.mono (by decide)) (by rfl) T.m_smooth_segment T.F_smooth_segment.kp T.b_smooth_segment .nil (passes_call (takes_of rfl rfl rfl rfl) (fun _ _ _ _ h => h)) (pa_cons (pv 0) (pa_cons (pv 1) (pa_cons (pv 2) (pa_cons (pv 3) pa_nil)))))))
  pss_nil)
  (pss_one (ps_ret (pe_tup (pa_cons (pe_ix ix_tup (pv 4) pe_int (fun _ _ => rfl)) (pa_cons (pe_ix ix_tup (pv 4) pe_int (fun _ _ => rfl)) pa_nil)))))))), ?_⟩
  have jp := J.hp
  have jq := J.hq
  obtain ⟨j, hj⟩ : ∃ z, js[k]? = some z := ⟨_, List.getElem?_eq_getElem hk⟩
  obtain ⟨vj, hvj, dvj⟩ := J.jn hj
  have g := gj _ (List.mem_of_getElem? hj)
  walk_at "z"
  refine z_ixL jq (atI_nat hvj) ?_
  walk_at "z"
  refine z_eqD dvj (.str _) (shaped_jD j) shaped_line ?_
  rw [eqv_line]
  match j, hj, dvj, g with
  | none, hj, dvj, g =>
    have eS : segJ pts js cyc k = none := by
      unfold segJ
      rw [hj]
    rw [eS] at q
    walk_at "z"
    exact q _ H (fun _ _ z => z) .non
  | some (.inl (c, d)), hj, dvj, g =>
    have eS : segJ pts js cyc k = some (c, d) := by
      unfold segJ
      rw [hj]
    rw [eS] at q
    obtain ⟨pj, w1, w2, rfl, hpj, d1, d2⟩ := dp_jc dvj
    walk_at "z"
    refine ⟨_, _, rfl, dvj, ?_⟩
    walk_at "z"
    intro p9 H9 f9 s9 h9
    exact q _ H9 s9 (dp_mk h9 (.cons (dp_mono s9 d1) (.cons (dp_mono s9 d2) .nil)))
  | some (.inr t), hj, dvj, g =>
    walk_at "z"
    refine ⟨_, _, rfl, dvj, ?_⟩
    walk_at "z"
    exact ⟨p, q', pvs, jvs, pts, js, cyc, k, t, rfl, J, hj, g, q⟩
end
/-- the tensions of the joins are within the limits -/
def sp_join_points (K : PySem.W.Frag) (A : Nat → Addr) (P : Addr) : Sp := fun vs H Q E => ∃ (p q : Addr) (pv jv : List V) (pts : List PQ) (js : List JQ) (cyc : Bool), vs = [.ref p, .ref q, .bl cyc] ∧ JL K H p q pv jv pts js cyc ∧ GxR.TabG H P ∧ (∀ j ∈ js, badJ j = false → Gj j) ∧
  (24 < pts.length → E (.ref (A 4)) none H) ∧
  (pts.length ≤ 24 → (∃ j ∈ js, badJ j = true) → E (.ref (A 3)) none H) ∧
  (pts.length ≤ 24 → (∀ j ∈ js, badJ j = false) → ∀ v' H', Tg.SameX H H' → Dp K H' v' (pathQ pts (segsJ pts js cyc) cyc) → Q v' H')
theorem walk0J {n : Nat} : Walk (Itr 0 n) n (fun _ => True) (fun i H x H' => H' = H ∧ x = .int (i : Int)) :=
  walk_range.mono (fun _ h => h) fun i H x H' _ _ y => ⟨y.1, y.2.trans (congrArg V.int (Int.zero_add _))⟩
theorem cmp_lt (a b : Rat) : decide (cmpQ a b < 0) = decide (a < b) := by
  unfold cmpQ
  split
  · rename_i h
    rw [decide_eq_true h]
    rfl
  · rename_i h
    rw [decide_eq_false h]
    split <;> rfl
section
theorem ok_join_points {P : Program} {w : World} {K : PySem.W.Frag} {mg : Str → Option Value} {base : Heap} {A : Nat → Addr} {D : Nat → FuncData} (T : Txt K mg A D base) : FnOk P w K mg base (L2.CX P w) 8 (A 12) (D 12) ["points", "joins", "cycle"] (sp_join_points K A (A 38)) := by
  refine T.F_join_points.okC T.k_join_points sc_join_points (fun vs H Q E h => ?_) (fun A' outer s H vs Q E hr h => ?_)
  · obtain ⟨p, q', pvs, jvs, pts, js, cyc, rfl, _⟩ := h
    rfl
  obtain ⟨p, q', pvs, jvs, pts, js, cyc, rfl, J, tG, gj, q1, q2, q3⟩ := h
  refine ⟨_, (pss_cons (ps_expr (pe_call (ok_check_knots T) (hr.mono (by decide)) (by rfl) T.m_check_knots T.F_check_knots.kp T.b_check_knots .nil (passes_call (takes_of rfl rfl rfl rfl) (fun _ _ _ _ h => h)) (pa_cons (pe_callB Z.c_len (by rfl) T.z_len (by decide +kernel) (pa_cons (pv 0) pa_nil)) pa_nil)))
  (pss_cons (ps_for (passes_of rfl) rfl (pi_list (pv 1)) (pg_name (i := 3) sc_join_points.nd rfl (.inl rfl))
  (pss_one (ps_if (PW.pt (pw_and (pt_val (pe_call (ok_is_smooth T) (hr.mono (by decide)) (by rfl) T.m_is_smooth T.F_is_smooth.kp T.b_is_smooth .nil (passes_call (takes_of rfl rfl rfl rfl) (fun _ _ _ _ h => h)) (pa_cons (pv 3) pa_nil))) (pw_and1 (pt_cmpR op_lt (pe_call (ok_compare T) (hr.mono (by decide)) (by rfl) T.m_compare T.F_compare.kp T.b_compare .nil (passes_call (takes_of rfl rfl rfl rfl) (fun _ _ _ _ h => h)) (pa_cons (pe_ix ix_tup (pv 3) pe_int (fun _ _ => rfl)) (pa_cons (Z.pe_globR T.c_LEAST_TENSION) pa_nil))) pe_int (nomark _)))))
  (pss_one (ps_raise rfl (takes_of rfl rfl rfl rfl) (Z.pmk T.x_OutOfRange (by rfl))))
  pss_nil)))
  (pss_cons (ps_set (i := 4) sc_join_points.nd rfl (.inl rfl) (Tg.pe_tupG (k := 6) (own := [("at", 5)]) (g := gName 5) hr T.t_join_points rfl sc_join_points.nd (pi_range1 (by rfl) T.z_range (pa_cons (pe_callB Z.c_len (by rfl) T.z_len (by decide +kernel) (pa_cons (pv 1) pa_nil)) pa_nil)) (blkOk_by (N := ["points", "joins", "cycle", "join", "segments", "at"]) (sc := defScope s_join_points) (by decide +kernel)) (by decide +kernel) rfl rfl (fun A' s H C code cl fp => pg_name (i := 5) sc_join_points.nd rfl (Or.inl rfl)) (fun A' s H C code cl fp hr => (pe_call (ok_joined_segment T) (hr.mono (by decide)) (by rfl) T.m_joined_segment T.F_joined_segment.kp T.b_joined_segment .nil passL (pa_cons (pv 0) (pa_cons (pv 1) (pa_cons (pv 5) (pa_cons (pv 2) pa_nil)))))) (by rfl) T.z_tuple))
  (pss_one (ps_ret (pe_tup (pa_cons (pe_callTy Z.c_tupOf (by rfl) T.z_tuple (by decide +kernel) (pa_cons (pv 0) pa_nil)) (pa_cons (pv 4) (pa_cons (pv 2) pa_nil))))))))), ?_⟩
  have jp := J.hp
  have jq := J.hq
  have pl := J.pl
  have jl := J.jl
  have n2 := J.n2
  walk_at "z"
  rw [pl]
  refine ⟨_, rfl, fun c => q1 (by omega), fun c => ?_⟩
  have q2 := q2 (by omega)
  have q3 := q3 (by omega)
  walk_at "z"
  refine z_forL (fun R r => by walk_at "z"; exact r) jq (fun i σ' H' => H' = H ∧ (∀ k j, k < i → js[k]? = some j → badJ j = false) ∧ ∃ u : Option V, σ' = [some (.ref p), some (.ref q'), some (.bl cyc), u, none, none]) ⟨rfl, fun k j h => by omega, _, rfl⟩ (fun i σ' H' _ h => by rw [h.1]; exact jq) ?_ ?_
  · rintro i x σ' H' hx ⟨rfl, hb, u, rfl⟩
    obtain ⟨j, hj⟩ : ∃ z, js[i]? = some z := ⟨_, List.getElem?_eq_getElem (by have := (List.getElem?_eq_some_iff.mp hx).1; omega)⟩
    obtain ⟨vj, hvj, dvj⟩ := J.jn hj
    rw [hx] at hvj
    cases hvj
    have mj := List.mem_of_getElem? hj
    walk_at "z"
    refine ⟨_, _, rfl, dvj, ?_⟩
    walk_at "z"
    match j, hj, dvj, mj with
    | none, hj, dvj, mj =>
      walk_at "z"
      exact ⟨rfl, fun k j' h h' => by
        rcases Nat.lt_succ_iff_lt_or_eq.mp h with h | h
        · exact hb k j' h h'
        · rw [h, hj] at h'
          cases h'
          rfl, _, rfl⟩
    | some (.inl (c, d)), hj, dvj, mj =>
      walk_at "z"
      exact ⟨rfl, fun k j' h h' => by
        rcases Nat.lt_succ_iff_lt_or_eq.mp h with h | h
        · exact hb k j' h h'
        · rw [h, hj] at h'
          cases h'
          rfl, _, rfl⟩
    | some (.inr t), hj, dvj, mj =>
      obtain ⟨pj, vt, rfl, hpj, dvt⟩ := dp_js dvj
      have bt : Bt t := J.bj _ mj
      walk_at "z"
      refine ⟨_, _, t, tq, rfl, dvt, T.d_LEAST_TENSION _, ⟨Nat.lt_of_le_of_lt bt.1 (by decide), Nat.lt_of_le_of_lt bt.2 (by decide)⟩, ⟨by decide, by decide⟩, ?_⟩
      walk_at "z"
      rw [cmp_lt]
      by_cases ht : t < tq
      · refine z_ifYes (decide_eq_true ht) ?_
        walk_at "z"
        exact q2 ⟨_, mj, by
          show decide (t < 3 / 4) = true
          rw [tq_eq]
          exact decide_eq_true ht⟩
      · refine z_ifNo (decide_eq_false ht) ?_
        walk_at "z"
        exact ⟨rfl, fun k j' h h' => by
          rcases Nat.lt_succ_iff_lt_or_eq.mp h with h | h
          · exact hb k j' h h'
          · rw [h, hj] at h'
            cases h'
            show decide (t < 3 / 4) = false
            rw [tq_eq]
            exact decide_eq_false ht, _, rfl⟩
  rintro σ' H1 ⟨rfl, hb, u, rfl⟩
  have hb' : ∀ j ∈ js, badJ j = false := fun j m => by
    obtain ⟨k, hk, e⟩ := List.mem_iff_getElem.mp m
    exact hb k j (by rw [jl]; exact hk) (by rw [List.getElem?_eq_getElem hk, e])
  have q3 := q3 hb'
  have gj' : ∀ j ∈ js, Gj j := fun j m => gj j m (hb' j m)
  have jle := J.jle
  walk_at "z"
  refine Tg.z_tupD (K := K) (G := fun _ => True) ((segsJ pts js cyc).map sgQ) (walk0J (n := js.length)) (by unfold segsJ; rw [List.length_map, List.length_map, List.length_range]) (by omega) (fun R r => Cw.z_iRng (k := js.length) (fun S h => by walk_at "z"; rw [jl]; exact h) (by omega) r) tG (fun _ _ => trivial)
    (fun i x d H3 H4 R hd hi s3 y hR => ?_) fun acc p1 H2 s2 hl e2 a2 => ?_
  · obtain ⟨rfl, rfl⟩ := y
    refine ⟨rfl, ?_⟩
    have e : d = sgQ (segJ pts js cyc i) := by
      unfold segsJ at hd
      rw [List.map_map, List.getElem?_map, List.getElem?_range hi] at hd
      cases hd
      rfl
    rw [e] at hR
    walk_at "z"
    exact ⟨p, q', pvs, jvs, pts, js, cyc, i, rfl, J.mono s3, hi, gj', fun v' H5 s5 d5 => hR v' H5 (.of s5) d5⟩
  walk_at "z"
  refine z_tupOf (s2.seqL jp) fun p3 H3 f3 s3 h3 => ?_
  walk_at "z"
  intro p4 H4 f4 s4 h4
  have s24 : Tg.SameX H1 H4 := (s2.th s3).th s4
  exact q3 _ H4 s24 (dp_mkpath (.inl (.inl h4)) (.inl (.inl (s4 _ _ h3))) (.inl (.inl ((s3.trans s4) _ _ e2))) (s24.dpA J.dp) (dp_monoA (s3.trans s4) a2))
end
def sp__law_minus (K : PySem.W.Frag) : Sp := fun vs H Q _ => ∃ (v w : V) (p q : PQ), vs = [v, w] ∧ Dp K H v (ptQ p) ∧ Dp K H w (ptQ q) ∧ Bq p ∧ Bq q ∧ RetD K H (ptQ (subQ q p)) Q
def sp__law_moved (K : PySem.W.Frag) : Sp := fun vs H Q _ => ∃ (v w u : V) (p y : PQ) (f : Rat), vs = [v, w, u] ∧ Dp K H v (ptQ p) ∧ Dp K H w (ptQ y) ∧ Dp K H u (qD f) ∧ Bq p ∧ Bw y ∧ Bf f ∧ RetD K H (ptQ (aheadQ p f y)) Q
def optQ : Option PQ → PyData
  | none => .none
  | some p => ptQ p
/-- the direction at a point, where the joins on both sides are smooth -/
def dirQ (pts : List PQ) (js : List JQ) (cyc : Bool) (i : Nat) : Option PQ := if nbQ js cyc ((i : Int) - 1) = true ∧ smA js i = true then some (halfQ (subQ (ptAt pts (i + pts.length - 1)) (ptAt pts (i + 1)))) else none
def sp__law_direction (K : PySem.W.Frag) : Sp := fun vs H Q _ => ∃ (p q : Addr) (pv jv : List V) (pts : List PQ) (js : List JQ) (cyc : Bool) (i : Nat), vs = [.ref p, .ref q, .int (i : Int), .bl cyc] ∧ JL K H p q pv jv pts js cyc ∧ 1 ≤ js.length ∧ RetD K H (optQ (dirQ pts js cyc i)) Q
def sp__law_segment (K : PySem.W.Frag) : Sp := fun vs H Q _ => ∃ (p q : Addr) (pv jv : List V) (pts : List PQ) (js : List JQ) (cyc : Bool) (k : Nat), vs = [.ref p, .ref q, .int (k : Int), .bl cyc] ∧ JL K H p q pv jv pts js cyc ∧ k < js.length ∧ (∀ j ∈ js, Gj j) ∧ RetD K H (sgQ (segJ pts js cyc k)) Q
theorem blb {r : Rat} {p q : Nat} (h : Bd r p q) (h1 : p ≤ 1000000000000 := by decide) (h2 : q ≤ 1000000000000 := by decide) : Bl r := ⟨Nat.lt_of_le_of_lt h.1 (Nat.lt_of_le_of_lt h1 (by decide)), Nat.lt_of_le_of_lt h.2 (Nat.lt_of_le_of_lt h2 (by decide))⟩
theorem bhf : Bd (1 / 2 : Rat) 1 2 := by rw [hf_eq]; exact ⟨by decide, by decide⟩
theorem qhf : qD (1 / 2 : Rat) = .tuple [.int 1, .int 2] := by rw [hf_eq]; rfl
def isCv : JQ → Bool
  | some (.inl _) => true
  | _ => false
theorem z_j0 {K : PySem.W.Frag} {H : Hp} {Q : VK} {v : V} {j : JQ} (d : Dp K H v (jD j)) (q : ∀ s : Str, decide (V.str s = V.str (Str.ofString "smooth")) = isSm j → decide (V.str s = V.str (Str.ofString "curve")) = isCv j → Q (.str s) H) : Tg.rIxA K v (.int 0) H Q := by
  match j, d with
  | none, d =>
    rw [dp_str d]
    exact z_ixAS (by decide +kernel) (show atI (Str.ofString "line").cps.toList 0 = some 108 from by decide +kernel) (q _ (show _ = false by decide +kernel) (show _ = false by decide +kernel))
  | some (.inl (c, e)), d =>
    obtain ⟨p, w1, w2, rfl, hS, _, _⟩ := dp_jc d
    exact z_ixAT hS rfl (q _ (show _ = false by decide +kernel) (show _ = true by decide +kernel))
  | some (.inr t), d =>
    obtain ⟨p, w1, rfl, hS, _⟩ := dp_js d
    exact z_ixAT hS rfl (q _ (show _ = true by decide +kernel) (show _ = false by decide +kernel))
theorem smA_le {js : List JQ} {i : Nat} (h : js.length ≤ i) : smA js i = false := by
  unfold smA
  rw [List.getElem?_eq_none h]
theorem nb_eq {pts : List PQ} {js : List JQ} {cyc : Bool} {i : Nat} {b : Int} (n1 : 1 ≤ js.length) (n3 : js.length + 1 = pts.length + (if cyc = true then 1 else 0)) (hb : b = if cyc = true then ((i : Int) - 1) % (pts.length : Int) else (i : Int) - 1) :
    nbQ js cyc ((i : Int) - 1) = (decide (0 ≤ b) && decide (b < (js.length : Int)) && smA js b.toNat) := by
  unfold nbQ
  cases cyc with
  | true =>
    rw [if_pos rfl] at hb n3 ⊢
    have e : js.length = pts.length := by omega
    rw [e, ← hb]
    have h0 := Int.emod_nonneg ((i : Int) - 1) (show (pts.length : Int) ≠ 0 by omega)
    have h1 := Int.emod_lt_of_pos ((i : Int) - 1) (show 0 < (pts.length : Int) by omega)
    rw [decide_eq_true (show 0 ≤ b by omega), decide_eq_true (show b < (pts.length : Int) by omega)]
    rfl
  | false =>
    have hb : b = (i : Int) - 1 := hb
    rw [hb]
    rfl
section
theorem ok__law_minus {P : Program} {w : World} {K : PySem.W.Frag} {mg : Str → Option Value} {base : Heap} {A : Nat → Addr} {D : Nat → FuncData} (T : Txt K mg A D base) : FnOk P w K mg base (L2.CX P w) 3 (A 30) (D 30) ["p", "q"] (sp__law_minus K) := by
  refine T.F__law_minus.okX sc__law_minus (fun vs H Q E h => ?_) (fun cdv A' outer s H vs Q E hr h => ?_)
  · obtain ⟨v, w, p, p', rfl, _⟩ := h
    rfl
  obtain ⟨v, w, p, p', rfl, d1, d2, b1, b2, q⟩ := h
  refine ⟨_, (pss_one (ps_ret (pe_tup (pa_cons (pe_call (ok__law_difference T) (hr.mono (by decide)) (by rfl) T.m__law_difference T.F__law_difference.kp T.b__law_difference .nil (passes_call (takes_of rfl rfl rfl rfl) (fun _ _ _ _ h => h)) (pa_cons (pe_ix ix_tup (pv 0) pe_int (fun _ _ => rfl)) (pa_cons (pe_ix ix_tup (pv 1) pe_int (fun _ _ => rfl)) pa_nil))) (pa_cons (pe_call (ok__law_difference T) (hr.mono (by decide)) (by rfl) T.m__law_difference T.F__law_difference.kp T.b__law_difference .nil (passes_call (takes_of rfl rfl rfl rfl) (fun _ _ _ _ h => h)) (pa_cons (pe_ix ix_tup (pv 0) pe_int (fun _ _ => rfl)) (pa_cons (pe_ix ix_tup (pv 1) pe_int (fun _ _ => rfl)) pa_nil))) pa_nil))))), ?_⟩
  obtain ⟨a, v1, v2, rfl, h1, x1, y1⟩ := dp_t2 d1
  obtain ⟨b, w1, w2, rfl, h2, x2, y2⟩ := dp_t2 d2
  walk_at "z"
  refine lop x1 x2 (blb b1.1) (blb b2.1) fun u1 H1 s1 e1 => ?_
  have h11 := seqT s1 h1
  have h21 := seqT s1 h2
  walk_at "z"
  refine lop (dp_mono s1 y1) (dp_mono s1 y2) (blb b1.2) (blb b2.2) fun u2 H2 s2 e2 => ?_
  walk_at "z"
  intro p9 H9 f9 s9 h9
  exact q _ H9 ((s1.trans s2).trans s9) (dp_p h9 (dp_mono (s2.trans s9) e1) (dp_mono s9 e2))
theorem ok__law_moved {P : Program} {w : World} {K : PySem.W.Frag} {mg : Str → Option Value} {base : Heap} {A : Nat → Addr} {D : Nat → FuncData} (T : Txt K mg A D base) : FnOk P w K mg base (L2.CX P w) 3 (A 31) (D 31) ["p", "q", "number"] (sp__law_moved K) := by
  refine T.F__law_moved.okX sc__law_moved (fun vs H Q E h => ?_) (fun cdv A' outer s H vs Q E hr h => ?_)
  · obtain ⟨v, w, u, p, y, f, rfl, _⟩ := h
    rfl
  obtain ⟨v, w, u, p, y, f, rfl, d1, d3, d2, b1, b3, b2, q⟩ := h
  refine ⟨_, (pss_one (ps_ret (pe_tup (pa_cons (pe_call (ok__law_sum T) (hr.mono (by decide)) (by rfl) T.m__law_sum T.F__law_sum.kp T.b__law_sum .nil (passes_call (takes_of rfl rfl rfl rfl) (fun _ _ _ _ h => h)) (pa_cons (pe_ix ix_tup (pv 0) pe_int (fun _ _ => rfl)) (pa_cons (pe_call (ok__law_product T) (hr.mono (by decide)) (by rfl) T.m__law_product T.F__law_product.kp T.b__law_product .nil (passes_call (takes_of rfl rfl rfl rfl) (fun _ _ _ _ h => h)) (pa_cons (pv 2) (pa_cons (pe_ix ix_tup (pv 1) pe_int (fun _ _ => rfl)) pa_nil))) pa_nil))) (pa_cons (pe_call (ok__law_sum T) (hr.mono (by decide)) (by rfl) T.m__law_sum T.F__law_sum.kp T.b__law_sum .nil (passes_call (takes_of rfl rfl rfl rfl) (fun _ _ _ _ h => h)) (pa_cons (pe_ix ix_tup (pv 0) pe_int (fun _ _ => rfl)) (pa_cons (pe_call (ok__law_product T) (hr.mono (by decide)) (by rfl) T.m__law_product T.F__law_product.kp T.b__law_product .nil (passes_call (takes_of rfl rfl rfl rfl) (fun _ _ _ _ h => h)) (pa_cons (pv 2) (pa_cons (pe_ix ix_tup (pv 1) pe_int (fun _ _ => rfl)) pa_nil))) pa_nil))) pa_nil))))), ?_⟩
  obtain ⟨a, v1, v2, rfl, h1, x1, y1⟩ := dp_t2 d1
  obtain ⟨b, w1, w2, rfl, h2, x2, y2⟩ := dp_t2 d3
  have c1 := bd_mul b2 b3.1
  have c2 := bd_mul b2 b3.2
  walk_at "z"
  refine lop d2 x2 (blb b2) (blb b3.1) fun u1 H1 s1 e1 => ?_
  walk_at "z"
  refine lop (dp_mono s1 x1) e1 (blb b1.1) (blb c1) fun u2 H2 s2 e2 => ?_
  have s12 := s1.trans s2
  have h12 := seqT s12 h1
  have h22 := seqT s12 h2
  walk_at "z"
  refine lop (dp_mono s12 d2) (dp_mono s12 y2) (blb b2) (blb b3.2) fun u3 H3 s3 e3 => ?_
  walk_at "z"
  refine lop (dp_mono (s12.trans s3) y1) e3 (blb b1.2) (blb c2) fun u4 H4 s4 e4 => ?_
  walk_at "z"
  intro p9 H9 f9 s9 h9
  exact q _ H9 (((s12.trans s3).trans s4).trans s9) (dp_p h9 (dp_mono ((s3.trans s4).trans s9) e2) (dp_mono s9 e4))
theorem ok__law_direction {P : Program} {w : World} {K : PySem.W.Frag} {mg : Str → Option Value} {base : Heap} {A : Nat → Addr} {D : Nat → FuncData} (T : Txt K mg A D base) : FnOk P w K mg base (L2.CX P w) 4 (A 32) (D 32) ["points", "joins", "at", "is_cycle"] (sp__law_direction K) := by
  refine T.F__law_direction.okX sc__law_direction (fun vs H Q E h => ?_) (fun cdv A' outer s H vs Q E hr h => ?_)
  · obtain ⟨p, q', pvs, jvs, pts, js, cyc, i, rfl, _⟩ := h
    rfl
  obtain ⟨p, q', pvs, jvs, pts, js, cyc, i, rfl, J, n1, q⟩ := h
  refine ⟨_, (pss_cons (ps_set (i := 4) sc__law_direction.nd rfl (.inl rfl) (pe_callB Z.c_len (by rfl) T.z_len (by decide +kernel) (pa_cons (pv 0) pa_nil)))
  (pss_cons (ps_set (i := 5) sc__law_direction.nd rfl (.inl rfl) (pe_op op_sub (pv 2) pe_int))
  (Evl.pss_cut (ps_if (pt_val (pv 3))
  (pss_one (ps_set (i := 5) sc__law_direction.nd rfl (.inl rfl) (pe_op op_mod (pe_callTy Z.c_int (by rfl) T.z_int (by decide +kernel) (pa_cons (pe_op op_sub (pv 2) pe_int) pa_nil)) (pv 4))))
  pss_nil)
  (pss_cons (ps_if (PW.pt (pw_or (pt_cmpR op_lt (pv 5) pe_int (nomark _)) (pw_or (pt_cmpR op_ge (pv 5) (pe_callB Z.c_len (by rfl) T.z_len (by decide +kernel) (pa_cons (pv 1) pa_nil)) (nomark _)) (pw_or1 (pt_cmpR op_ge (pv 2) (pe_callB Z.c_len (by rfl) T.z_len (by decide +kernel) (pa_cons (pv 1) pa_nil)) (nomark _))))))
  (pss_one (ps_ret pe_non))
  pss_nil)
  (pss_cons (ps_if (PW.pt (pw_or (pt_cmpR op_ne (pe_ix Tg.ix_any (pe_ix ix_list (pv 1) (pv 5) (fun _ _ => rfl)) pe_int (fun _ _ => rfl)) pe_str (nomark _)) (pw_or1 (pt_cmpR op_ne (pe_ix Tg.ix_any (pe_ix ix_list (pv 1) (pv 2) (fun _ _ => rfl)) pe_int (fun _ _ => rfl)) pe_str (nomark _)))))
  (pss_one (ps_ret pe_non))
  pss_nil)
  (pss_cons (ps_set (i := 6) sc__law_direction.nd rfl (.inl rfl) (pe_call (ok__law_minus T) (hr.mono (by decide)) (by rfl) T.m__law_minus T.F__law_minus.kp T.b__law_minus .nil (passes_call (takes_of rfl rfl rfl rfl) (fun _ _ _ _ h => h)) (pa_cons (pe_ix ix_list (pv 0) (pe_op op_mod (pe_callTy Z.c_int (by rfl) T.z_int (by decide +kernel) (pa_cons (pe_op op_add (pv 2) pe_int) pa_nil)) (pv 4)) (fun _ _ => rfl)) (pa_cons (pe_ix ix_list (pv 0) (pe_op op_mod (pe_callTy Z.c_int (by rfl) T.z_int (by decide +kernel) (pa_cons (pe_op op_sub (pv 2) pe_int) pa_nil)) (pv 4)) (fun _ _ => rfl)) pa_nil))))
  (pss_one (ps_ret (pe_tup (pa_cons (pe_call (ok__law_product T) (hr.mono (by decide)) (by rfl) T.m__law_product T.F__law_product.kp T.b__law_product .nil (passes_call (takes_of rfl rfl rfl rfl) (fun _ _ _ _ h => h)) (pa_cons (pe_ix ix_tup (pv 6) pe_int (fun _ _ => rfl)) (pa_cons (pe_tup (pa_cons pe_int (pa_cons pe_int pa_nil))) pa_nil))) (pa_cons (pe_call (ok__law_product T) (hr.mono (by decide)) (by rfl) T.m__law_product T.F__law_product.kp T.b__law_product .nil (passes_call (takes_of rfl rfl rfl rfl) (fun _ _ _ _ h => h)) (pa_cons (pe_ix ix_tup (pv 6) pe_int (fun _ _ => rfl)) (pa_cons (pe_tup (pa_cons pe_int (pa_cons pe_int pa_nil))) pa_nil))) pa_nil))))))))))), ?_⟩
  have jp := J.hp
  have jq := J.hq
  have pl := J.pl
  have jl := J.jl
  have m1 := J.n1
  have n3 := J.n3
  walk_at "z"
  rw [pl]
  refine z_cut (fun σ' H' => H' = H ∧ ∃ b : Int, σ' = [some (.ref p), some (.ref q'), some (.int (i : Int)), some (.bl cyc), some (.int (pts.length : Int)), some (.int b), none] ∧ b = if cyc = true then ((i : Int) - 1) % (pts.length : Int) else (i : Int) - 1) ?_ ?_
  · walk_at "z"
    cases cyc with
    | true =>
      walk_at "z"
      exact ⟨rfl, _, rfl, rfl⟩
    | false =>
      walk_at "z"
      exact ⟨rfl, _, rfl, rfl⟩
  rintro σ' H1 ⟨rfl, b, rfl, hb⟩
  have e1 := nb_eq (pts := pts) (i := i) n1 n3 hb
  walk_at "z"
  by_cases c1 : b < 0
  · have e : dirQ pts js cyc i = none := by
      unfold dirQ
      rw [e1, decide_eq_false (show ¬ 0 ≤ b by omega)]
      rfl
    rw [e] at q
    rw [if_pos (decide_eq_true c1)]
    walk_at "z"
    exact q _ _ (fun _ _ z => z) .non
  rw [if_neg (by rw [decide_eq_false c1]; exact Bool.false_ne_true)]
  walk_at "z"
  rw [jl]
  by_cases c2 : (js.length : Int) ≤ b
  · have e : dirQ pts js cyc i = none := by
      unfold dirQ
      rw [e1, decide_eq_false (show ¬ b < (js.length : Int) by omega), Bool.and_false]
      rfl
    rw [e] at q
    rw [if_pos (decide_eq_true c2)]
    walk_at "z"
    exact q _ _ (fun _ _ z => z) .non
  rw [if_neg (by rw [decide_eq_false c2]; exact Bool.false_ne_true)]
  walk_at "z"
  rw [jl]
  by_cases c3 : (js.length : Int) ≤ (i : Int)
  · have e : dirQ pts js cyc i = none := by
      unfold dirQ
      rw [smA_le (show js.length ≤ i by omega)]
      exact if_neg (fun h => Bool.false_ne_true h.2)
    rw [e] at q
    refine z_ifYes (decide_eq_true c3) ?_
    walk_at "z"
    exact q _ _ (fun _ _ z => z) .non
  refine z_ifNo (decide_eq_false c3) ?_
  rw [decide_eq_true (show 0 ≤ b by omega), decide_eq_true (show b < (js.length : Int) by omega), Bool.true_and, Bool.true_and] at e1
  obtain ⟨j1, hj1⟩ : ∃ z, js[b.toNat]? = some z := ⟨_, List.getElem?_eq_getElem (show b.toNat < js.length by omega)⟩
  obtain ⟨j2, hj2⟩ : ∃ z, js[i]? = some z := ⟨_, List.getElem?_eq_getElem (show i < js.length by omega)⟩
  obtain ⟨v1, hv1, d1⟩ := J.jn hj1
  obtain ⟨v2, hv2, d2⟩ := J.jn hj2
  rw [smA_eq hj1] at e1
  have e2 := smA_eq hj2
  walk_at "z"
  refine z_ixL jq (show atI jvs b = some v1 by rw [show b = (b.toNat : Int) by omega]; exact atI_nat hv1) ?_
  walk_at "z"
  refine z_j0 d1 fun t1 w1 _ => ?_
  walk_at "z"
  refine ⟨rfl, ?_⟩
  rw [w1]
  cases hs1 : isSm j1 with
  | false =>
    have e : dirQ pts js cyc i = none := by
      unfold dirQ
      rw [e1, hs1]
      rfl
    rw [e] at q
    walk_at "z"
    exact q _ _ (fun _ _ z => z) .non
  | true =>
  walk_at "z"
  refine z_ixL jq (atI_nat hv2) ?_
  walk_at "z"
  refine z_j0 d2 fun t2 w2 _ => ?_
  walk_at "z"
  refine ⟨rfl, ?_⟩
  rw [w2]
  cases hs2 : isSm j2 with
  | false =>
    have e : dirQ pts js cyc i = none := by
      unfold dirQ
      rw [e2, hs2]
      exact if_neg (fun h => Bool.false_ne_true h.2)
    rw [e] at q
    walk_at "z"
    exact q _ _ (fun _ _ z => z) .non
  | true =>
  have e : dirQ pts js cyc i = some (halfQ (subQ (ptAt pts (i + pts.length - 1)) (ptAt pts (i + 1)))) := by
    unfold dirQ
    rw [e1, hs1, e2, hs2]
    rfl
  rw [e] at q
  obtain ⟨va, hva, da, ba⟩ := J.pt (i + 1)
  obtain ⟨vb, hvb, db, bb⟩ := J.pt (i + pts.length - 1)
  have i1 : ((i : Int) + 1) % (pts.length : Int) = (((i + 1) % pts.length : Nat) : Int) := natmod
  have i2 : ((i : Int) - 1) % (pts.length : Int) = (((i + pts.length - 1) % pts.length : Nat) : Int) := by
    rw [← natmod, show ((i + pts.length - 1 : Nat) : Int) = (i : Int) - 1 + (pts.length : Int) by omega, Int.add_emod_right]
  walk_at "z"
  rw [i1]
  refine z_ixL jp (atI_nat hva) ?_
  walk_at "z"
  rw [i2]
  refine z_ixL jp (atI_nat hvb) ?_
  walk_at "z"
  refine ⟨_, _, _, _, rfl, da, db, ba, bb, fun u H2 s2 d => ?_⟩
  obtain ⟨pd, x1, x2, rfl, hd, f1, f2⟩ := dp_t2 d
  have e9 : ∀ r : Rat, r * (1 / 2) = r / 2 := fun r => by grind
  have g1 : Bd (subQ (ptAt pts (i + pts.length - 1)) (ptAt pts (i + 1))).1 600 36 := bd_sub ba.1 bb.1
  have g2 : Bd (subQ (ptAt pts (i + pts.length - 1)) (ptAt pts (i + 1))).2 600 36 := bd_sub ba.2 bb.2
  walk_at "z"
  intro p3 H3 k3 s3 h3
  walk_at "z"
  refine lop (b := 1 / 2) (dp_mono s3 f1) (by rw [qhf]; exact dpT2 h3) (blb g1) (blb bhf) fun u1 H4 s4 e4 => ?_
  have hd4 := seqT (s3.trans s4) hd
  walk_at "z"
  intro p5 H5 k5 s5 h5
  walk_at "z"
  refine lop (b := 1 / 2) (dp_mono ((s3.trans s4).trans s5) f2) (by rw [qhf]; exact dpT2 h5) (blb g2) (blb bhf) fun u2 H6 s6 e6 => ?_
  walk_at "z"
  intro p9 H9 f9 s9 h9
  rw [e9] at e4 e6
  exact q _ H9 (((((s2.trans s3).trans s4).trans s5).trans s6).trans s9) (dp_p h9 (dp_mono ((s5.trans s6).trans s9) e4) (dp_mono s9 e6))
end
theorem leave_eq {pts : List PQ} {js : List JQ} {cyc : Bool} {k : Nat} {t : Rat} (hj : js[k]? = some (some (.inr t))) : (dirQ pts js cyc k = none → leaveQ pts js cyc k = subQ (ptAt pts k) (ptAt pts (k + 1))) ∧ (∀ d, dirQ pts js cyc k = some d → leaveQ pts js cyc k = d) := by
  unfold dirQ leaveQ
  rw [smA_eq hj]
  cases nbQ js cyc ((k : Int) - 1) with
  | true =>
    refine ⟨fun h => (by cases h), fun d h => (by cases h; rfl)⟩
  | false =>
    refine ⟨fun h => rfl, fun d h => (by cases h)⟩
theorem ptAt_mod (pts : List PQ) {i j : Nat} (h : i % pts.length = j % pts.length) : ptAt pts i = ptAt pts j := by
  unfold ptAt
  rw [h]
theorem come_eq {pts : List PQ} {js : List JQ} {cyc : Bool} {k : Nat} {t : Rat} (hj : js[k]? = some (some (.inr t))) (n1 : 1 ≤ pts.length) (n3 : js.length + 1 = pts.length + (if cyc = true then 1 else 0)) (e : Nat) (he : e = if cyc = true then (k + 1) % pts.length else k + 1) :
    (dirQ pts js cyc e = none → comeQ pts js cyc k = subQ (ptAt pts k) (ptAt pts (k + 1))) ∧ (∀ d, dirQ pts js cyc e = some d → comeQ pts js cyc k = d) := by
  have kj : k < js.length := (List.getElem?_eq_some_iff.mp hj).1
  have hn : nbQ js cyc ((k : Int) + 1) = smA js e := by
    unfold nbQ
    cases cyc with
    | true =>
      rw [if_pos rfl] at n3 he ⊢
      rw [show js.length = pts.length by omega, he]
      congr 1
    | false =>
      rw [if_neg Bool.false_ne_true] at he ⊢
      rw [he]
      by_cases h : k + 1 < js.length
      · rw [decide_eq_true (show (0 : Int) ≤ (k : Int) + 1 by omega), decide_eq_true (show (k : Int) + 1 < (js.length : Int) by omega)]
        rfl
      · rw [decide_eq_false (show ¬ (k : Int) + 1 < (js.length : Int) by omega), Bool.and_false, Bool.false_and]
        exact (smA_le (by omega)).symm
  have hp : nbQ js cyc ((e : Int) - 1) = true := by
    have hs : smA js k = true := smA_eq hj
    unfold nbQ
    cases cyc with
    | true =>
      rw [if_pos rfl] at n3 he ⊢
      have ej : js.length = pts.length := by omega
      have e2 : (((e : Int) - 1) % (pts.length : Int)).toNat = k := by
        rw [he, ← natmod, show ((k + 1 : Nat) : Int) = (k : Int) + 1 from rfl, Int.sub_emod, Int.emod_emod, ← Int.sub_emod, show (k : Int) + 1 - 1 = (k : Int) by omega, Int.emod_eq_of_lt (by omega) (by omega)]
        exact Int.toNat_natCast k
      rw [ej, e2, hs]
    | false =>
      rw [if_neg Bool.false_ne_true] at he ⊢
      rw [he, show ((k + 1 : Nat) : Int) - 1 = (k : Int) by omega, decide_eq_true (show 0 ≤ (k : Int) by omega), decide_eq_true (show (k : Int) < (js.length : Int) by omega), show ((k : Int)).toNat = k from rfl, hs]
      rfl
  have p1 : ptAt pts (e + pts.length - 1) = ptAt pts k := by
    refine ptAt_mod pts ?_
    rw [he]
    split
    · have : (k + 1) % pts.length + pts.length - 1 + 1 = (k + 1) % pts.length + pts.length := by omega
      by_cases h : k + 1 < pts.length
      · rw [Nat.mod_eq_of_lt h, show k + 1 + pts.length - 1 = k + pts.length by omega, Nat.add_mod_right]
      · have h2 : k + 1 = pts.length := by split at n3 <;> omega
        rw [h2, Nat.mod_self, show 0 + pts.length - 1 = k by omega]
    · rw [show k + 1 + pts.length - 1 = k + pts.length by omega, Nat.add_mod_right]
  have p2 : ptAt pts (e + 1) = ptAt pts (k + 2) := by
    refine ptAt_mod pts ?_
    rw [he]
    split
    · rw [Nat.mod_add_mod]
    · rfl
  unfold dirQ comeQ
  rw [hp, hn, p1, p2]
  cases smA js e with
  | true =>
    refine ⟨fun h => (by cases h), fun d h => (by cases h; rfl)⟩
  | false =>
    refine ⟨fun h => rfl, fun d h => (by cases h)⟩
theorem leave_b {pts : List PQ} {js : List JQ} {cyc : Bool} {k : Nat} (h : ∀ i, Bq (ptAt pts i)) : Bw (leaveQ pts js cyc k) := by
  unfold leaveQ
  split
  · exact half_b (bd_sub (h _).1 (h _).1) (bd_sub (h _).2 (h _).2)
  · exact subQ_b (h _) (h _)
theorem come_b {pts : List PQ} {js : List JQ} {cyc : Bool} {k : Nat} (h : ∀ i, Bq (ptAt pts i)) : Bw (comeQ pts js cyc k) := by
  unfold comeQ
  split
  · exact half_b (bd_sub (h _).1 (h _).1) (bd_sub (h _).2 (h _).2)
  · exact subQ_b (h _) (h _)
theorem fac_eq {t : Rat} (h0 : 3 * t ≠ 0) : Rat.divInt (t.den : Int) (3 * t.num) = 1 / (3 * t) := by
  have e : t = (t.num : Rat) / (t.den : Rat) := by
    have := Rat.num_divInt_den t
    rw [Rat.divInt_eq_div] at this
    exact this.symm
  have hd : (t.den : Rat) ≠ 0 := by
    have := t.den_nz
    exact_mod_cast this
  have hn : (t.num : Rat) ≠ 0 := fun z => h0 (by rw [e, z]; grind)
  rw [Rat.divInt_eq_div]
  have e3 : ((3 * t.num : Int) : Rat) = 3 * (t.num : Rat) := by push_cast; rfl
  rw [e3]
  show ((t.den : Int) : Rat) / (3 * (t.num : Rat)) = 1 / (3 * t)
  have e4 : ((t.den : Int) : Rat) = (t.den : Rat) := rfl
  rw [e4, show 1 / (3 * t) = 1 / (3 * ((t.num : Rat) / (t.den : Rat))) by rw [← e]]
  grind
theorem qneg (f : Rat) : qD (-f) = .tuple [.int (-f.num), .int (f.den : Int)] := rfl
section
theorem ok__law_segment {P : Program} {w : World} {K : PySem.W.Frag} {mg : Str → Option Value} {base : Heap} {A : Nat → Addr} {D : Nat → FuncData} (T : Txt K mg A D base) : FnOk P w K mg base (L2.CX P w) 5 (A 33) (D 33) ["points", "joins", "k", "is_cycle"] (sp__law_segment K) := by
  refine T.F__law_segment.okX sc__law_segment (fun vs H Q E h => ?_) (fun cdv A' outer s H vs Q E hr h => ?_)
  · obtain ⟨p, q', pvs, jvs, pts, js, cyc, k, rfl, _⟩ := h
    rfl
  obtain ⟨p, q', pvs, jvs, pts, js, cyc, k, rfl, J, hk, gj, q⟩ := h
  refine ⟨_, (pss_cons (ps_if (pt_cmpR (op_eqD hr.units) (pe_ix ix_list (pv 1) (pv 2) (fun _ _ => rfl)) pe_str (nomark _))
  (pss_one (ps_ret pe_non))
  pss_nil)
  (pss_cons (ps_if (pt_cmpR op_eq (pe_ix Tg.ix_any (pe_ix ix_list (pv 1) (pv 2) (fun _ _ => rfl)) pe_int (fun _ _ => rfl)) pe_str (nomark _))
  (pss_one (ps_ret (pe_tup (pa_cons (pe_ix ix_tup (pe_ix ix_list (pv 1) (pv 2) (fun _ _ => rfl)) pe_int (fun _ _ => rfl)) (pa_cons (pe_ix ix_tup (pe_ix ix_list (pv 1) (pv 2) (fun _ _ => rfl)) pe_int (fun _ _ => rfl)) pa_nil)))))
  pss_nil)
  (pss_cons (ps_set (i := 4) sc__law_segment.nd rfl (.inl rfl) (pe_ix ix_list (pv 0) (pv 2) (fun _ _ => rfl)))
  (pss_cons (ps_set (i := 5) sc__law_segment.nd rfl (.inl rfl) (pe_ix ix_list (pv 0) (pe_op op_mod (pe_callTy Z.c_int (by rfl) T.z_int (by decide +kernel) (pa_cons (pe_op op_add (pv 2) pe_int) pa_nil)) (pe_callB Z.c_len (by rfl) T.z_len (by decide +kernel) (pa_cons (pv 0) pa_nil))) (fun _ _ => rfl)))
  (pss_cons (ps_set (i := 6) sc__law_segment.nd rfl (.inl rfl) (pe_call (ok__law_direction T) (hr.mono (by decide)) (by rfl) T.m__law_direction T.F__law_direction.kp T.b__law_direction .nil (passes_call (takes_of rfl rfl rfl rfl) (fun _ _ _ _ h => h)) (pa_cons (pv 0) (pa_cons (pv 1) (pa_cons (pv 2) (pa_cons (pv 3) pa_nil))))))
  (pss_cons (ps_set (i := 7) sc__law_segment.nd rfl (.inl rfl) (pe_op op_add (pv 2) pe_int))
  (Evl.pss_cut (ps_if (pt_val (pv 3))
  (pss_one (ps_set (i := 7) sc__law_segment.nd rfl (.inl rfl) (pe_op op_mod (pe_callTy Z.c_int (by rfl) T.z_int (by decide +kernel) (pa_cons (pe_op op_add (pv 2) pe_int) pa_nil)) (pe_callB Z.c_len (by rfl) T.z_len (by decide +kernel) (pa_cons (pv 0) pa_nil)))))
  pss_nil)
  (pss_cons (ps_set (i := 8) sc__law_segment.nd rfl (.inl rfl) (pe_call (ok__law_direction T) (hr.mono (by decide)) (by rfl) T.m__law_direction T.F__law_direction.kp T.b__law_direction .nil (passes_call (takes_of rfl rfl rfl rfl) (fun _ _ _ _ h => h)) (pa_cons (pv 0) (pa_cons (pv 1) (pa_cons (pv 7) (pa_cons (pv 3) pa_nil))))))
  (Evl.pss_cut (ps_if (pt_cmpR Z.op_isN1 (pv 6) pe_non (nomark _))
  (pss_one (ps_set (i := 6) sc__law_segment.nd rfl (.inl rfl) (pe_call (ok__law_minus T) (hr.mono (by decide)) (by rfl) T.m__law_minus T.F__law_minus.kp T.b__law_minus .nil (passes_call (takes_of rfl rfl rfl rfl) (fun _ _ _ _ h => h)) (pa_cons (pv 5) (pa_cons (pv 4) pa_nil)))))
  pss_nil)
  (Evl.pss_cut (ps_if (pt_cmpR Z.op_isN1 (pv 8) pe_non (nomark _))
  (pss_one (ps_set (i := 8) sc__law_segment.nd rfl (.inl rfl) (pe_call (ok__law_minus T) (hr.mono (by decide)) (by rfl) T.m__law_minus T.F__law_minus.kp T.b__law_minus .nil (passes_call (takes_of rfl rfl rfl rfl) (fun _ _ _ _ h => h)) (pa_cons (pv 5) (pa_cons (pv 4) pa_nil)))))
  pss_nil)
  (pss_cons (ps_set (i := 9) sc__law_segment.nd rfl (.inl rfl) (pe_ix ix_tup (pe_ix ix_list (pv 1) (pv 2) (fun _ _ => rfl)) pe_int (fun _ _ => rfl)))
  (pss_cons (ps_set (i := 10) sc__law_segment.nd rfl (.inl rfl) (pe_call (ok__law_ratio T) (hr.mono (by decide)) (by rfl) T.m__law_ratio T.F__law_ratio.kp T.b__law_ratio .nil (passes_call (takes_of rfl rfl rfl rfl) (fun _ _ _ _ h => h)) (pa_cons (pe_ix ix_tup (pv 9) pe_int (fun _ _ => rfl)) (pa_cons (pe_op op_mul pe_int (pe_ix ix_tup (pv 9) pe_int (fun _ _ => rfl))) pa_nil))))
  (pss_one (ps_ret (pe_tup (pa_cons (pe_call (ok__law_moved T) (hr.mono (by decide)) (by rfl) T.m__law_moved T.F__law_moved.kp T.b__law_moved .nil (passes_call (takes_of rfl rfl rfl rfl) (fun _ _ _ _ h => h)) (pa_cons (pv 4) (pa_cons (pv 6) (pa_cons (pv 10) pa_nil)))) (pa_cons (pe_call (ok__law_moved T) (hr.mono (by decide)) (by rfl) T.m__law_moved T.F__law_moved.kp T.b__law_moved .nil (passes_call (takes_of rfl rfl rfl rfl) (fun _ _ _ _ h => h)) (pa_cons (pv 5) (pa_cons (pv 8) (pa_cons (pe_tup (pa_cons (pe_op op_sub pe_int (pe_ix ix_tup (pv 10) pe_int (fun _ _ => rfl))) (pa_cons (pe_ix ix_tup (pv 10) pe_int (fun _ _ => rfl)) pa_nil))) pa_nil)))) pa_nil))))))))))))))))), ?_⟩
  have jp := J.hp
  have jq := J.hq
  have pl := J.pl
  have n1 := J.n1
  have n3 := J.n3
  have kn : k < pts.length := by have := J.jle; omega
  obtain ⟨j, hj⟩ : ∃ z, js[k]? = some z := ⟨_, List.getElem?_eq_getElem hk⟩
  obtain ⟨vj, hvj, dvj⟩ := J.jn hj
  have g := gj _ (List.mem_of_getElem? hj)
  walk_at "z"
  refine z_ixL jq (atI_nat hvj) ?_
  walk_at "z"
  refine z_eqD dvj (.str _) (shaped_jD j) shaped_line ?_
  rw [eqv_line]
  match j, hj, dvj, g with
  | none, hj, dvj, g =>
    have eS : segJ pts js cyc k = none := by
      unfold segJ
      rw [hj]
    rw [eS] at q
    walk_at "z"
    exact q _ H (fun _ _ z => z) .non
  | some (.inl (c, d)), hj, dvj, g =>
    have eS : segJ pts js cyc k = some (c, d) := by
      unfold segJ
      rw [hj]
    rw [eS] at q
    obtain ⟨pj, w1, w2, rfl, hpj, d1, d2⟩ := dp_jc dvj
    walk_at "z"
    refine z_ixL jq (atI_nat hvj) ?_
    walk_at "z"
    refine z_j0 dvj fun t2 _ w2 => ?_
    walk_at "z"
    refine z_eq rfl ?_
    rw [w2]
    walk_at "z"
    refine z_ixL jq (atI_nat hvj) ?_
    walk_at "z"
    refine z_ixL jq (atI_nat hvj) ?_
    walk_at "z"
    intro p9 H9 f9 s9 h9
    exact q _ H9 s9 (dp_mk h9 (.cons (dp_mono s9 d1) (.cons (dp_mono s9 d2) .nil)))
  | some (.inr t), hj, dvj, g =>
    obtain ⟨f3, f0, fb⟩ := Gt.fac g
    obtain ⟨va, hva, da, ba⟩ := J.pt k
    rw [Nat.mod_eq_of_lt kn] at hva
    obtain ⟨vb, hvb, db, bb⟩ := J.pt (k + 1)
    have eS : segJ pts js cyc k = some (aheadQ (ptAt pts k) (1 / (3 * t)) (leaveQ pts js cyc k), aheadQ (ptAt pts (k + 1)) (-(1 / (3 * t))) (comeQ pts js cyc k)) := by
      unfold segJ
      rw [hj]
    rw [eS] at q
    obtain ⟨l1, l2⟩ := leave_eq (pts := pts) (cyc := cyc) hj
    obtain ⟨c1, c2⟩ := come_eq (pts := pts) (cyc := cyc) hj n1 n3 _ rfl
    have bq : ∀ i, Bq (ptAt pts i) := fun i => (J.pt i).choose_spec.2.2
    have bl : Bw (leaveQ pts js cyc k) := leave_b bq
    have bc : Bw (comeQ pts js cyc k) := come_b bq
    walk_at "z"
    refine z_ixL jq (atI_nat hvj) ?_
    walk_at "z"
    refine z_j0 dvj fun t2 _ w2 => ?_
    walk_at "z"
    refine z_eq rfl ?_
    rw [w2]
    walk_at "z"
    refine z_ixL jp (atI_nat hva) ?_
    walk_at "z"
    rw [pl, show ((k : Int) + 1) % (pts.length : Int) = (((k + 1) % pts.length : Nat) : Int) from natmod]
    refine z_ixL jp (atI_nat hvb) ?_
    walk_at "z"
    refine ⟨p, q', pvs, jvs, pts, js, cyc, k, rfl, J, by omega, fun u1 H1 s1 e1 => ?_⟩
    have J1 := J.mono (.of s1)
    have jp1 := J1.hp
    walk_at "z"
    refine z_cut (fun σ' H' => H' = H1 ∧ σ' = [some (.ref p), some (.ref q'), some (.int (k : Int)), some (.bl cyc), some va, some vb, some u1, some (.int ((if cyc = true then (k + 1) % pts.length else k + 1 : Nat) : Int)), none, none, none]) ?_ ?_
    · walk_at "z"
      cases cyc with
      | true =>
        walk_at "z"
        rw [pl, show ((k : Int) + 1) % (pts.length : Int) = (((k + 1) % pts.length : Nat) : Int) from natmod]
        exact ⟨rfl, rfl⟩
      | false =>
        walk_at "z"
        exact ⟨rfl, rfl⟩
    rintro σ' H1' ⟨rfl, rfl⟩
    generalize (if cyc = true then (k + 1) % pts.length else k + 1) = e at *
    walk_at "z"
    refine ⟨p, q', pvs, jvs, pts, js, cyc, e, rfl, J1, by omega, fun u2 H2 s2 e2 => ?_⟩
    have s02 := s1.trans s2
    have da2 := dp_mono s02 da
    have db2 := dp_mono s02 db
    have e1' := dp_mono s2 e1
    have dj2 := dp_mono s02 dvj
    walk_at "z"
    refine z_cut (fun σ' H' => Same H2 H' ∧ ∃ v1 : V, Dp K H' v1 (ptQ (leaveQ pts js cyc k)) ∧ σ' = [some (.ref p), some (.ref q'), some (.int (k : Int)), some (.bl cyc), some va, some vb, some v1, some (.int (e : Int)), some u2, none, none]) ?_ ?_
    · walk_at "z"
      cases hd : dirQ pts js cyc k with
      | none =>
        rw [hd] at e1'
        rw [dp_non e1', l1 hd]
        walk_at "z"
        refine ⟨_, _, _, _, rfl, db2, da2, bb, ba, fun u3 H3 s3 e3 => ?_⟩
        walk_at "z"
        exact ⟨s3, u3, e3, rfl⟩
      | some d =>
        rw [hd] at e1'
        obtain ⟨pd, x1, x2, rfl, _⟩ := dp_t2 e1'
        rw [l2 d hd]
        walk_at "z"
        exact ⟨fun _ _ z => z, _, e1', rfl⟩
    rintro σ' H3 ⟨s3, v1, d1, rfl⟩
    have e2' := dp_mono s3 e2
    walk_at "z"
    refine z_cut (fun σ' H' => Same H3 H' ∧ ∃ v2 : V, Dp K H' v2 (ptQ (comeQ pts js cyc k)) ∧ σ' = [some (.ref p), some (.ref q'), some (.int (k : Int)), some (.bl cyc), some va, some vb, some v1, some (.int (e : Int)), some v2, none, none]) ?_ ?_
    · walk_at "z"
      cases hd : dirQ pts js cyc e with
      | none =>
        rw [hd] at e2'
        rw [dp_non e2', c1 hd]
        walk_at "z"
        refine ⟨_, _, _, _, rfl, dp_mono s3 db2, dp_mono s3 da2, bb, ba, fun u3 H4 s4 e4 => ?_⟩
        walk_at "z"
        exact ⟨s4, u3, e4, rfl⟩
      | some d =>
        rw [hd] at e2'
        obtain ⟨pd, x1, x2, rfl, _⟩ := dp_t2 e2'
        rw [c2 d hd]
        walk_at "z"
        exact ⟨fun _ _ z => z, _, e2', rfl⟩
    rintro σ' H4 ⟨s4, v2, d2, rfl⟩
    have s34 := s3.trans s4
    have s04 := s02.trans s34
    have J4 := J.mono (.of s04)
    have jq4 := J4.hq
    obtain ⟨pj, vt, rfl, hpj, dvt⟩ := dp_js (dp_mono s04 dvj)
    obtain ⟨pt, y1, y2, rfl, hpt, dy1, dy2⟩ := dp_t2 dvt
    rw [dp_int dy1, dp_int dy2] at hpt
    walk_at "z"
    refine z_ixL jq4 (atI_nat hvj) ?_
    walk_at "z"
    have g1 : t.num.natAbs ≤ 17 ∧ t.den ≤ 4 := g.1
    have tn : t.num ≠ 0 := fun z => f0 (by rw [Rat.num_eq_zero.mp z]; grind)
    refine ⟨_, _, rfl, by omega, lt400 (Nat.lt_of_le_of_lt (show ((t.den : Int)).natAbs ≤ 4 by omega) (by decide)), lt400 (Nat.lt_of_le_of_lt (show ((3 * t.num : Int)).natAbs ≤ 51 by omega) (by decide)), fun u5 H5 s5 e5 => ?_⟩
    rw [fac_eq f0] at e5
    have s05 := s04.trans s5
    generalize 1 / (3 * t) = f at e5 q fb
    have bf : Bf f := fb.le (by decide) (by decide)
    have bf' : Bf (-f) := by
      refine ⟨?_, bf.2⟩
      show (-f.num).natAbs ≤ 100
      rw [Int.natAbs_neg]
      exact bf.1
    have d1' := dp_mono (s4.trans s5) d1
    have d2' := dp_mono s5 d2
    walk_at "z"
    refine ⟨_, _, _, _, _, _, rfl, dp_mono s05 da, d1', e5, ba, bl, bf, fun u6 H6 s6 e6 => ?_⟩
    obtain ⟨pf, z1, z2, rfl, hpf, dz1, dz2⟩ := dp_t2 (dp_mono s6 e5)
    rw [dp_int dz1, dp_int dz2] at hpf
    walk_at "z"
    intro p7 H7 f7 s7 h7
    walk_at "z"
    have dn : Dp K H7 (.ref p7) (qD (-f)) := by
      rw [qneg]
      refine dpT2 ?_
      rw [h7]
      simp
    refine ⟨_, _, _, _, _, _, rfl, dp_mono ((s05.trans s6).trans s7) db, dp_mono (s6.trans s7) d2', dn, bb, bc, bf', fun u8 H8 s8 e8 => ?_⟩
    walk_at "z"
    intro p9 H9 f9 s9 h9
    exact q _ H9 ((((s05.trans s6).trans s7).trans s8).trans s9) (dp_mk h9 (.cons (dp_mono ((s7.trans s8).trans s9) e6) (.cons (dp_mono s9 e8) .nil)))
end
theorem tup_jD (j : JQ) : tupOnly (jD j) = true := by
  match j with
  | none => rfl
  | some (.inl (c, d)) => rfl
  | some (.inr t) => rfl
theorem tup_js : ∀ js : List JQ, tupOnlyA (js.map jD) = true
  | [] => rfl
  | a :: r => by
    show (tupOnly (jD a) && tupOnlyA (r.map jD)) = true
    rw [tup_js r, tup_jD]
    rfl
theorem Gt.bt {t : Rat} (g : Gt t) : Bt t := ⟨Nat.le_trans g.1.1 (by decide), Nat.le_trans g.1.2 (by decide)⟩
theorem gt_one : Gt 1 := ⟨⟨by decide, by decide⟩, by decide, by decide +kernel⟩
theorem gt_quo {n : Int} (h0 : 0 ≤ n) (h1 : n < 14) : Gt (Rat.divInt (n + 3) 4) := by
  have e : Rat.divInt (n + 3) 4 = ((n : Rat) + 3) / 4 := by
    rw [Rat.divInt_eq_div]
    push_cast
    rfl
  have hn : (0 : Rat) ≤ (n : Rat) := by exact_mod_cast h0
  refine ⟨(bd_divInt (n := n + 3) (d := 4) (by omega)).le (by omega) (by omega), ?_, ?_⟩
  · rw [e]
    grind
  · rw [e]
    grind
/-- a join that may stand -/
def Oj (j : JQ) : Prop := Bj j ∧ Gj j
def sp__law_joins (K : PySem.W.Frag) : Sp := fun vs H Q _ => ∃ (p : Addr) (n : Nat) (H0 : Hp), vs = [.ref p, .int (n : Int)] ∧ n ≤ 40 ∧ Sd H0 H p ∧ ∀ (D : Addr) (acc : List V) (js : List JQ) (H' : Hp), H D = none → H0 D = none → D ≠ p → Sd H0 H' p → Kp p H H' → H' D = some (.lst acc) → DpAll K H' acc (js.map jD) → js.length = n → (∀ j ∈ js, Oj j) → Q (.ref D) H'
section
theorem ok__law_joins {P : Program} {w : World} {K : PySem.W.Frag} {mg : Str → Option Value} {base : Heap} {A : Nat → Addr} {D : Nat → FuncData} (T : Txt K mg A D base) : FnOk P w K mg base (L2.CX P w) 4 (A 34) (D 34) ["stream", "many"] (sp__law_joins K) := by
  refine T.F__law_joins.okX sc__law_joins (fun vs H Q E h => ?_) (fun cdv A' outer s H vs Q E hr h => ?_)
  · obtain ⟨p, n, H0, rfl, _⟩ := h
    rfl
  obtain ⟨p, n, H0, rfl, hn, S, q⟩ := h
  refine ⟨_, (pss_cons (ps_set (i := 2) sc__law_joins.nd rfl (.inl rfl) (pe_lst pa_nil))
  (pss_cons (ps_for (passes_of rfl) rfl (pi_range1 (by rfl) T.z_range (pa_cons (pv 1) pa_nil)) (pg_name (i := 3) sc__law_joins.nd rfl (.inl rfl))
  (pss_cons (ps_set (i := 4) sc__law_joins.nd rfl (.inl rfl) (pe_call (ok__law_next T) (hr.mono (by decide)) (by rfl) T.m__law_next T.F__law_next.kp T.b__law_next .nil (passes_call (takes_of rfl rfl rfl rfl) (fun _ _ _ _ h => h)) (pa_cons (pv 0) (pa_cons pe_int pa_nil))))
  (pss_one (ps_if (pt_cmpR op_eq (pv 4) pe_int (nomark _))
  (pss_one (ps_expr (pe_bm PySem.F.plainAttrs_list PySem.F.slot_list_append PySem.F.type_list_append mt_append (pv 2) (pa_cons pe_str pa_nil))))
  (pss_one (ps_if (pt_cmpR op_eq (pv 4) pe_int (nomark _))
  (pss_cons (ps_set (i := 5) sc__law_joins.nd rfl (.inl rfl) (pe_call (ok__law_point T) (hr.mono (by decide)) (by rfl) T.m__law_point T.F__law_point.kp T.b__law_point .nil (passes_call (takes_of rfl rfl rfl rfl) (fun _ _ _ _ h => h)) (pa_cons (pv 0) pa_nil)))
  (pss_one (ps_expr (pe_bm PySem.F.plainAttrs_list PySem.F.slot_list_append PySem.F.type_list_append mt_append (pv 2) (pa_cons (pe_tup (pa_cons pe_str (pa_cons (pv 5) (pa_cons (pe_call (ok__law_point T) (hr.mono (by decide)) (by rfl) T.m__law_point T.F__law_point.kp T.b__law_point .nil (passes_call (takes_of rfl rfl rfl rfl) (fun _ _ _ _ h => h)) (pa_cons (pv 0) pa_nil)) pa_nil)))) pa_nil)))))
  (pss_one (ps_expr (pe_bm PySem.F.plainAttrs_list PySem.F.slot_list_append PySem.F.type_list_append mt_append (pv 2) (pa_cons (pe_tup (pa_cons pe_str (pa_cons (pe_ix ix_list (pe_lst (pa_cons (pe_tup (pa_cons pe_int (pa_cons pe_int pa_nil))) (pa_cons (pe_call (ok__law_ratio T) (hr.mono (by decide)) (by rfl) T.m__law_ratio T.F__law_ratio.kp T.b__law_ratio .nil (passes_call (takes_of rfl rfl rfl rfl) (fun _ _ _ _ h => h)) (pa_cons (pe_op op_add (pe_call (ok__law_next T) (hr.mono (by decide)) (by rfl) T.m__law_next T.F__law_next.kp T.b__law_next .nil (passes_call (takes_of rfl rfl rfl rfl) (fun _ _ _ _ h => h)) (pa_cons (pv 0) (pa_cons pe_int pa_nil))) pe_int) (pa_cons pe_int pa_nil))) pa_nil))) (pe_call (ok__law_next T) (hr.mono (by decide)) (by rfl) T.m__law_next T.F__law_next.kp T.b__law_next .nil (passes_call (takes_of rfl rfl rfl rfl) (fun _ _ _ _ h => h)) (pa_cons (pv 0) (pa_cons pe_int pa_nil))) (fun _ _ => rfl)) pa_nil))) pa_nil))))))))))
  (pss_one (ps_ret (pv 2))))), ?_⟩
  walk_at "z"
  intro D H1 hD s1 h1
  have S1 := S.mono s1
  have hD0 := S.same.free hD
  have hDp := S.ne0 hD
  have k1 : Kp p H H1 := kp_of s1
  walk_at "z"
  refine z_forR1 n (by omega) (fun R q => by walk_at "z"; exact q) (fun i σ' H' => Sd H0 H' p ∧ Kp p H H' ∧ ∃ (acc : List V) (js : List JQ) (kv fv gv : Option V), σ' = [some (.ref p), some (.int (n : Int)), some (.ref D), kv, fv, gv] ∧ H' D = some (.lst acc) ∧ DpAll K H' acc (js.map jD) ∧ js.length = i ∧ ∀ j ∈ js, Oj j)
    ⟨S1, k1, [], [], _, _, _, rfl, h1, .nil, rfl, fun v hv => absurd hv List.not_mem_nil⟩ ?_ ?_
  · clear S1 k1 h1 s1
    rintro i σ' H5 hi ⟨S5, k5, acc, js, kv, fv, gv, rfl, h5, d5, l5, b5⟩
    have la : acc.length = i := by rw [dpa_len d5, List.length_map, l5]
    have fin : ∀ (H9 : Hp) (v : V) (j : JQ), Sd H0 H9 p → Kp p H H9 → H9 D = some (.lst acc) → DpAll K H9 acc (js.map jD) → Dp K H9 v (jD j) → Oj j → Sd H0 (upd H9 D (.lst (acc ++ [v]))) p ∧ Kp p H (upd H9 D (.lst (acc ++ [v]))) ∧ (upd H9 D (.lst (acc ++ [v]))) D = some (.lst (acc ++ [v])) ∧
        DpAll K (upd H9 D (.lst (acc ++ [v]))) (acc ++ [v]) ((js ++ [j]).map jD) ∧ (js ++ [j]).length = i + 1 ∧ ∀ j' ∈ js ++ [j], Oj j' := fun H9 v j S9 k9 h9 d9 dv o => by
      refine ⟨sd_updq S9 hD0 hDp, kp_updq k9 hD, upd_same, ?_, by rw [List.length_append, l5]; rfl, fun j' hj => ?_⟩
      · rw [List.map_append]
        exact dpa_app (dp_kpA kp_at h9 (tup_js _) d9) (.cons (dp_kp kp_at h9 (tup_jD _) dv) .nil)
      · rcases List.mem_append.mp hj with hj | hj
        · exact b5 _ hj
        · rw [List.mem_singleton.mp hj]
          exact o
    walk_at "z"
    refine nx S5 (by decide) (lt1000 (by decide)) fun z H6 _ _ S6 e6 => ?_
    have k56 := kp_eq e6
    have h6 := k56 _ _ hDp h5
    have d6 := dpa_sdq S5 k56 (tup_js _) d5
    have k6 := k5.trans' k56
    clear k56 d5 h5 e6 S5 k5
    walk_at "z"
    refine z_if (fun cc => ?_) (fun cc => ?_)
    · walk_at "z"
      refine z_bmL (fun R q => by walk_at "z"; exact q) h6 ?_
      walk_at "z"
      refine z_append h6 (by omega) ?_
      walk_at "z"
      obtain ⟨t1, t2, t3, t4, t5, t6⟩ := fin H6 _ none S6 k6 h6 d6 (.str _) ⟨trivial, trivial⟩
      exact ⟨t1, t2, _, _, _, _, _, rfl, t3, t4, t5, t6⟩
    · walk_at "z"
      refine z_if (fun cd => ?_) (fun cd => ?_)
      · walk_at "z"
        refine ⟨p, H0, rfl, S6, fun v1 x1 y1 H7 b1 b1' S7 k7 d1 => ?_⟩
        have h7 := k7 _ _ hDp h6
        have d7 := dpa_sdq S6 k7 (tup_js _) d6
        walk_at "z"
        refine z_bmL (fun R q => by walk_at "z"; exact q) h7 ?_
        walk_at "z"
        refine ⟨p, H0, rfl, S7, fun v2 x2 y2 H8 b2 b2' S8 k8 d2 => ?_⟩
        have d1' := kp_sd S7 k8 rfl d1
        have h8 := k8 _ _ hDp h7
        have d8 := dpa_sdq S7 k8 (tup_js _) d7
        walk_at "z"
        intro pt H9 _ s9 h9
        walk_at "z"
        have hD9 := s9 _ _ h8
        have dt : Dp K H9 (.ref pt) (jD (some (.inl ((x1, y1), (x2, y2))))) := dp_mk h9 (.cons (.str _) (.cons (dp_mono s9 d1') (.cons (dp_mono s9 d2) .nil)))
        refine z_append hD9 (by omega) ?_
        walk_at "z"
        obtain ⟨t1, t2, t3, t4, t5, t6⟩ := fin H9 _ _ (S8.mono s9) (((k6.trans' k7).trans' k8).trans' (kp_of s9)) hD9 (dp_monoA s9 d8) dt ⟨⟨⟨b1, b1'⟩, ⟨b2, b2'⟩⟩, trivial⟩
        exact ⟨t1, t2, _, _, _, _, _, rfl, t3, t4, t5, t6⟩
      · walk_at "z"
        refine z_bmL (fun R q => by walk_at "z"; exact q) h6 ?_
        walk_at "z"
        intro p7 H7 f7 s7 h7
        have S7 := S6.mono s7
        have k7 := k6.trans' (kp_of s7)
        have hD7 := s7 _ _ h6
        have d7 := dp_monoA s7 d6
        have e1 : Dp K H7 (.ref p7) (qD 1) := dpT2 h7
        walk_at "z"
        refine nx S7 (by decide) (lt1000 (by decide)) fun z1 H8 z0 z14 S8 e8 => ?_
        have k78 := kp_eq e8
        have hD8 := k78 _ _ hDp hD7
        have d8 := dpa_sdq S7 k78 (tup_js _) d7
        have e2 := kp_sd S7 k78 rfl e1
        have k8 := k7.trans' k78
        clear k78 d7 hD7 e1 e8 k7 S7 d6 h6 k6 S6 s7 h7
        walk_at "z"
        refine ⟨_, _, rfl, by omega, lt400 (by omega), lt400 (by omega), fun u H9 s9 e9 => ?_⟩
        have S9 := S8.mono s9
        have hD9 := s9 _ _ hD8
        have d9 := dp_monoA s9 d8
        have e3 := dp_mono s9 e2
        have k9 := k8.trans' (kp_of s9)
        clear S8 hD8 d8 e2 k8 s9
        walk_at "z"
        intro pA HA fA sA hA
        have SA := S9.mono sA
        have hDA := sA _ _ hD9
        have dA := dp_monoA sA d9
        have e3A := dp_mono sA e3
        have e9A := dp_mono sA e9
        have kA := k9.trans' (kp_of sA)
        have nA : pA ≠ p := S9.ne0 fA
        clear S9 hD9 d9 e3 e9 k9 sA
        walk_at "z"
        refine nx SA (by decide) (lt1000 (by decide)) fun w HB w0 w1 SB eB => ?_
        have kAB := kp_eq eB
        have hDB := kAB _ _ hDp hDA
        have hAB := kAB _ _ nA hA
        have dB := dpa_sdq SA kAB (tup_js _) dA
        have e3B := kp_sd SA kAB rfl e3A
        have e9B := kp_sd SA kAB rfl e9A
        have kB := kA.trans' kAB
        clear kAB hDA hA dA e3A e9A kA eB SA
        obtain ⟨vt, t, hvt, dvt, gt⟩ : ∃ (vt : V) (t : Rat), atI [V.ref p7, u] w = some vt ∧ Dp K HB vt (qD t) ∧ Gt t := by
          by_cases hw : w = 0
          · subst hw
            exact ⟨_, 1, rfl, e3B, gt_one⟩
          · rw [show w = 1 by omega]
            exact ⟨_, _, rfl, e9B, gt_quo z0 z14⟩
        walk_at "z"
        refine z_ixL (.inl (.inl hAB)) hvt ?_
        walk_at "z"
        intro pC HC fC sC hC
        walk_at "z"
        refine z_append (sC _ _ hDB) (by omega) ?_
        walk_at "z"
        obtain ⟨t1, t2, t3, t4, t5, t6⟩ := fin HC (.ref pC) (some (.inr t)) (SB.mono sC) (kB.trans' (kp_of sC)) (sC _ _ hDB) (dp_monoA sC dB) (dp_mk hC (.cons (.str _) (.cons (dp_mono sC dvt) .nil))) ⟨gt.bt, gt⟩
        exact ⟨t1, t2, _, _, _, _, _, rfl, t3, t4, t5, t6⟩
  rintro σ' H5 ⟨S5, k5, acc, js, kv, fv, gv, rfl, h5, d5, l5, b5⟩
  walk_at "z"
  exact q D acc js H5 hD hD0 hDp S5 k5 h5 d5 l5 b5
end
def sp__law_refused (K : PySem.W.Frag) (P : Addr) : Sp := fun vs H Q _ => ∃ (p q : Addr) (pv jv : List V) (pts : List PQ) (js : List JQ) (cyc : Bool), vs = [.ref p, .ref q, .bl cyc] ∧ JL K H p q pv jv pts js cyc ∧ GxR.TabG H P ∧ (∀ j ∈ js, badJ j = false → Gj j) ∧ (24 < pts.length ∨ ∃ j ∈ js, badJ j = true) ∧ ∀ H', Q (.bl true) H'
def sp_law (K : PySem.W.Frag) (P : Addr) : Sp := fun vs H Q _ => ∃ (a : Addr) (ns : List Int), vs = [.ref a] ∧ SqL K H a (ns.map V.int) ∧ ns.length ≤ 63 ∧ GxR.TabG H P ∧ ∀ H', Q (.bl true) H'
theorem gj_bad {j : JQ} (g : Gj j) : badJ j = false := by
  match j, g with
  | none, _ => rfl
  | some (.inl _), _ => rfl
  | some (.inr t), g => exact decide_eq_false g.2.2
theorem shaped_jds : ∀ js : List JQ, PyData.canLayAll0 (js.map jD) = true ∧ PyData.depthAll (js.map jD) ≤ 3
  | [] => ⟨rfl, Nat.zero_le _⟩
  | a :: r => by
    obtain ⟨h1, h2⟩ := shaped_jds r
    obtain ⟨h3, h4⟩ := jd_lay a
    refine ⟨?_, ?_⟩
    · show (PyData.canLay0 (jD a) && PyData.canLayAll0 (r.map jD)) = true
      rw [h1, h3]
      rfl
    · show max (PyData.depth (jD a)) (PyData.depthAll (r.map jD)) ≤ 3
      omega
theorem shaped_hd (pts : List PQ) (js : List JQ) : SeqAt.shaped (.tuple [.list (pts.map ptQ), .list (js.map jD)]) = true := by
  obtain ⟨h1, h2⟩ := shaped_pqs pts
  obtain ⟨h3, h4⟩ := shaped_jds js
  unfold SeqAt.shaped
  rw [Bool.and_eq_true]
  refine ⟨?_, decide_eq_true ?_⟩
  · show (PyData.canLayAll0 (pts.map ptQ) && (PyData.canLayAll0 (js.map jD) && true)) = true
    rw [h1, h3]
    rfl
  · show max (PyData.depthAll (pts.map ptQ) + 1) (max (PyData.depthAll (js.map jD) + 1) 0) + 1 ≤ 64
    omega
/-- what lies in the heap before join_points is called -/
structure Hd (K : PySem.W.Frag) (H : Hp) (Dk D pS pa pb ph : Addr) (ks vj ss : List V) (pts : List PQ) (js : List JQ) (sgs : List (Option (PQ × PQ))) : Prop where
  hk : H Dk = some (.lst ks)
  hj : H D = some (.lst vj)
  dk : DpAll K H ks (pts.map ptQ)
  dj : DpAll K H vj (js.map jD)
  hS : H pS = some (.tup ss)
  dS : DpAll K H ss (sgs.map sgQ)
  ha : H pa = some (.lst ks)
  hb : H pb = some (.lst vj)
  hh : H ph = some (.tup [.ref pa, .ref pb])
theorem Hd.mono {K : PySem.W.Frag} {H H' : Hp} {Dk D pS pa pb ph : Addr} {ks vj ss : List V} {pts : List PQ} {js : List JQ} {sgs : List (Option (PQ × PQ))} (h : Hd K H Dk D pS pa pb ph ks vj ss pts js sgs) (s : Tg.SameX H H') : Hd K H' Dk D pS pa pb ph ks vj ss pts js sgs :=
  ⟨s.lst h.hk, s.lst h.hj, s.dpA h.dk, s.dpA h.dj, s.tup h.hS, s.dpA h.dS, s.lst h.ha, s.lst h.hb, s.tup h.hh⟩
section
theorem ok__law_refused {P : Program} {w : World} {K : PySem.W.Frag} {mg : Str → Option Value} {base : Heap} {A : Nat → Addr} {D : Nat → FuncData} (T : Txt K mg A D base) : FnOk P w K mg base (L2.CX P w) 9 (A 35) (D 35) ["points", "joins", "is_cycle"] (sp__law_refused K (A 38)) := by
  refine T.F__law_refused.okX sc__law_refused (fun vs H Q E h => ?_) (fun cdv A' outer s H vs Q E hr h => ?_)
  · obtain ⟨p, q', pvs, jvs, pts, js, cyc, rfl, _⟩ := h
    rfl
  obtain ⟨p, q', pvs, jvs, pts, js, cyc, rfl, J, tG, gj, hb, q⟩ := h
  refine ⟨_, (pss_cons (Tg.ps_try_manyB (Wout := fun _ _ _ _ => False) rfl rfl takes0 (fun W pn xe tk PO => (pss_one (ps_expr (Tg.pe_callNS (ok_join_points T) (hr.mono (by decide)) (by rfl) T.m_join_points T.F_join_points.kp T.k_join_points_cycle (fun σ => passAt tk σ) (by exact (pa_cons (pv 0) (pa_cons (pv 1) pa_nil))) (by exact (pk_cons (pv 2) pk_nil))))))
  (.name (i := 3) sc__law_refused.nd rfl rfl ⟨rfl, by decide, .inl T.x_TooMany.g⟩ (fun a oe cls d pn hz hf => (pss_one (ps_ret (pe_and (pe_cmpR op_gt (pe_callB (show CallR _ (.builtin "len") (Z.rLen K) from Z.c_len) (by rfl) T.z_len (by decide +kernel) (pa_cons (pv 0) pa_nil)) pe_int (nomark _)) (pe_one (pe_callB (Z.call_isE hz hf) (by rfl) T.z_isinstance (by decide +kernel) (pa_cons (pv 3) (pa_cons (Z.pe_globR T.x_FontError.g) pa_nil))))))))
   (.name (i := 3) sc__law_refused.nd rfl rfl ⟨rfl, by decide, .inl T.x_OutOfRange.g⟩ (fun a oe cls d pn hz hf => (pss_one (ps_ret (pe_and (pe_cmpR op_le (pe_callB (show CallR _ (.builtin "len") (Z.rLen K) from Z.c_len) (by rfl) T.z_len (by decide +kernel) (pa_cons (pv 0) pa_nil)) pe_int (nomark _)) (pe_one (pe_callB (Z.call_isE hz hf) (by rfl) T.z_isinstance (by decide +kernel) (pa_cons (pv 3) (pa_cons (Z.pe_globR T.x_FontError.g) pa_nil))))))))
   .nil)))
  (pss_one (ps_ret pe_bl))), ?_⟩
  have pl := J.pl
  have jp := J.hp
  walk_at "z"
  refine Tg.z_callNS ?_
  walk_at "z"
  refine ⟨rfl, rfl, ?_⟩
  refine ⟨p, q', pvs, jvs, pts, js, cyc, rfl, J, tG, gj, fun c => ?_, fun c b => ?_, fun c b => ?_⟩
  · refine Tg.z_manyB1 (exm T.x_TooMany T.e_TooMany_TooMany) fun a ha => ?_
    refine Tg.z_enter ?_
    walk_at "z"
    rw [if_pos (decide_eq_true (show (24 : Int) < (pvs.length : Int) by omega))]
    walk_at "z"
    refine z_isEr T.x_TooMany.c (kit_own T.x_FontError T.e_TooMany_FontError T.e_FontError_FontError) ?_
    exact q _
  · refine Tg.z_manyB0 (exm T.x_TooMany T.e_OutOfRange_TooMany) ?_
    refine Tg.z_manyB1 (exm T.x_OutOfRange T.e_OutOfRange_OutOfRange) fun a ha => ?_
    refine Tg.z_enter ?_
    walk_at "z"
    rw [if_pos (decide_eq_true (show (pvs.length : Int) ≤ (24 : Int) by omega))]
    walk_at "z"
    refine z_isEr T.x_OutOfRange.c (kit_own T.x_FontError T.e_OutOfRange_FontError T.e_FontError_FontError) ?_
    exact q _
  · rcases hb with h | ⟨j, m, h⟩
    · omega
    · rw [b j m] at h
      cases h
theorem ok_law {P : Program} {w : World} {K : PySem.W.Frag} {mg : Str → Option Value} {base : Heap} {A : Nat → Addr} {D : Nat → FuncData} (T : Txt K mg A D base) : FnOk P w K mg base CX0 10 (A 36) (D 36) ["script"] (sp_law K (A 38)) := by
  obtain ⟨ds_join_points, vd_join_points, bd_join_points⟩ := T.b_join_points
  refine T.F_law.ok sc_law (fun vs H Q E h => ?_) (fun cdv A' outer s H vs Q E hr h => ?_)
  · obtain ⟨l, ns, rfl, _⟩ := h
    rfl
  obtain ⟨l, ns, rfl, hS, _, tG, q⟩ := h
  refine ⟨_, (pss_cons (ps_set (i := 1) sc_law.nd rfl (.inr rfl) (pe_call (ok__law_stream T) (hr.mono (by decide)) (by rfl) T.m__law_stream T.F__law_stream.kp T.b__law_stream .nil passL (pa_cons (pe_call (ok__law_cell T) (hr.mono (by decide)) (by rfl) T.m__law_cell T.F__law_cell.kp T.b__law_cell .nil passL (pa_cons (pv 0) (pa_cons pe_int pa_nil))) pa_nil)))
  (pss_cons (ps_set (i := 2) sc_law.nd rfl (.inl rfl) (pe_op op_add (pe_call (ok__law_next T) (hr.mono (by decide)) (by rfl) T.m__law_next T.F__law_next.kp T.b__law_next .nil passL (pa_cons (pv 1) (pa_cons pe_int pa_nil))) pe_int))
  (Evl.pss_cut (ps_if (pt_cmpR op_eq (pe_call (ok__law_next T) (hr.mono (by decide)) (by rfl) T.m__law_next T.F__law_next.kp T.b__law_next .nil passL (pa_cons (pv 1) (pa_cons pe_int pa_nil))) pe_int (nomark _))
  (pss_one (ps_set (i := 2) sc_law.nd rfl (.inl rfl) (pe_op op_add (pe_call (ok__law_next T) (hr.mono (by decide)) (by rfl) T.m__law_next T.F__law_next.kp T.b__law_next .nil passL (pa_cons (pv 1) (pa_cons pe_int pa_nil))) pe_int)))
  pss_nil)
  (pss_cons (ps_set (i := 3) sc_law.nd rfl (.inr rfl) (pe_cmpR op_eq (pe_call (ok__law_next T) (hr.mono (by decide)) (by rfl) T.m__law_next T.F__law_next.kp T.b__law_next .nil passL (pa_cons (pv 1) (pa_cons pe_int pa_nil))) pe_int (nomark _)))
  (pss_cons (ps_set (i := 4) sc_law.nd rfl (.inr rfl) (pe_lc (own := [("k", 5)]) (g := gName 5) (tt := tYes) rfl sc_law.nd (pi_range1 (by rfl) T.z_range (pa_cons (pv 2) pa_nil)) (blkOk_by (N := ["script", "stream", "count", "is_cycle", "points", "k", "joins", "bad", "segments", "handed", "actual"]) (sc := defScope s_law) (by decide +kernel)) (fun _ _ _ _ _ => pg_name (i := 5) sc_law.nd rfl (Or.inl rfl)) (fun _ _ _ _ _ => pts_nil) (fun _ _ _ _ _ => (pe_call (ok__law_point T) (hr.mono (by decide)) (by rfl) T.m__law_point T.F__law_point.kp T.b__law_point .nil passL (pa_cons (pv 1) pa_nil)))))
  (pss_cons (ps_set (i := 6) sc_law.nd rfl (.inr rfl) (pe_call (ok__law_joins T) (hr.mono (by decide)) (by rfl) T.m__law_joins T.F__law_joins.kp T.b__law_joins .nil passL (pa_cons (pe_call (ok__law_stream T) (hr.mono (by decide)) (by rfl) T.m__law_stream T.F__law_stream.kp T.b__law_stream .nil passL (pa_cons (pe_call (ok__law_cell T) (hr.mono (by decide)) (by rfl) T.m__law_cell T.F__law_cell.kp T.b__law_cell .nil passL (pa_cons (pv 0) (pa_cons pe_int pa_nil))) pa_nil)) (pa_cons (pe_op op_add (pe_op op_sub (pv 2) pe_int) (pe_callTy Z.c_int (by rfl) T.z_int (by decide +kernel) (pa_cons (pv 3) pa_nil))) pa_nil))))
  (pss_cons (ps_set (i := 7) sc_law.nd rfl (.inl rfl) pe_bl)
  (Evl.pss_cut (ps_if (PW.pt (pw_and (pt_cmpR op_eq (pe_call (ok__law_next T) (hr.mono (by decide)) (by rfl) T.m__law_next T.F__law_next.kp T.b__law_next .nil passL (pa_cons (pv 1) (pa_cons pe_int pa_nil))) pe_int (nomark _)) (pw_and1 (pt_cmpR op_gt (pe_callB Z.c_len (by rfl) T.z_len (by decide +kernel) (pa_cons (pv 6) pa_nil)) pe_int (nomark _)))))
  (pss_cons (ps_asg (pe_tup (pa_cons pe_str (pa_cons (pe_ix ix_list (pe_lst (pa_cons (pe_tup (pa_cons pe_int (pa_cons pe_int pa_nil))) (pa_cons (pe_tup (pa_cons pe_int (pa_cons pe_int pa_nil))) (pa_cons (pe_tup (pa_cons (pe_un un_neg pe_int) (pa_cons pe_int pa_nil))) (pa_cons (pe_tup (pa_cons pe_int (pa_cons pe_int pa_nil))) pa_nil))))) (pe_call (ok__law_next T) (hr.mono (by decide)) (by rfl) T.m__law_next T.F__law_next.kp T.b__law_next .nil passL (pa_cons (pv 1) (pa_cons pe_int pa_nil))) (fun _ _ => rfl)) pa_nil))) (pg_sub (pv 6) (pe_call (ok__law_next T) (hr.mono (by decide)) (by rfl) T.m__law_next T.F__law_next.kp T.b__law_next .nil passL (pa_cons (pv 1) (pa_cons (pe_callB Z.c_len (by rfl) T.z_len (by decide +kernel) (pa_cons (pv 6) pa_nil)) pa_nil))) set_list))
  (pss_one (ps_set (i := 7) sc_law.nd rfl (.inl rfl) pe_bl)))
  pss_nil)
  (pss_cons (ps_if (PW.pt (pw_or (pt_val (pv 7)) (pw_or1 (pt_cmpR op_gt (pv 2) pe_int (nomark _)))))
  (pss_one (ps_ret (pe_call (ok__law_refused T) (hr.mono (by decide)) (by rfl) T.m__law_refused T.F__law_refused.kp T.b__law_refused .nil passL (pa_cons (pe_callTy Z.c_listOf (by rfl) T.z_list (by decide +kernel) (pa_cons (pv 4) pa_nil)) (pa_cons (pe_callTy Z.c_listOf (by rfl) T.z_list (by decide +kernel) (pa_cons (pv 6) pa_nil)) (pa_cons (pv 3) pa_nil))))))
  pss_nil)
  (pss_cons (ps_set (i := 8) sc_law.nd rfl (.inl rfl) (pe_callTy Z.c_tupOf (by rfl) T.z_tuple (by decide +kernel) (pa_cons (pe_lc (own := [("k", 5)]) (g := gName 5) (tt := tYes) rfl sc_law.nd (pi_range1 (by rfl) T.z_range (pa_cons (pe_callB Z.c_len (by rfl) T.z_len (by decide +kernel) (pa_cons (pv 6) pa_nil)) pa_nil)) (blkOk_by (N := ["script", "stream", "count", "is_cycle", "points", "k", "joins", "bad", "segments", "handed", "actual"]) (sc := defScope s_law) (by decide +kernel)) (fun _ _ _ _ _ => pg_name (i := 5) sc_law.nd rfl (Or.inl rfl)) (fun _ _ _ _ _ => pts_nil) (fun _ _ _ _ _ => (pe_call (ok__law_segment T) (hr.mono (by decide)) (by rfl) T.m__law_segment T.F__law_segment.kp T.b__law_segment .nil passL (pa_cons (pv 4) (pa_cons (pv 6) (pa_cons (pv 5) (pa_cons (pv 3) pa_nil))))))) pa_nil)))
  (pss_cons (ps_set (i := 9) sc_law.nd rfl (.inl rfl) (pe_tup (pa_cons (pe_callTy Z.c_listOf (by rfl) T.z_list (by decide +kernel) (pa_cons (pv 4) pa_nil)) (pa_cons (pe_callTy Z.c_listOf (by rfl) T.z_list (by decide +kernel) (pa_cons (pv 6) pa_nil)) pa_nil))))
  (Evl.pss_cut (ps_if (PW.pt (pw_or (pt_val (pv 3)) (pw_or1 (pt_cmpR op_eq (pe_call (ok__law_next T) (hr.mono (by decide)) (by rfl) T.m__law_next T.F__law_next.kp T.b__law_next .nil passL (pa_cons (pv 1) (pa_cons pe_int pa_nil))) pe_int (nomark _)))))
  (pss_one (ps_set (i := 10) sc_law.nd rfl (.inl rfl) (pe_callN (ok_join_points T) (hr.mono (by decide)) (by rfl) T.m_join_points T.F_join_points.kp T.k_join_points_cycle passL (by exact (pa_cons (pe_ix ix_tup (pv 9) pe_int (fun _ _ => rfl)) (pa_cons (pe_ix ix_tup (pv 9) pe_int (fun _ _ => rfl)) pa_nil))) (by exact (pk_cons (pv 3) pk_nil)))))
  (pss_one (ps_set (i := 10) sc_law.nd rfl (.inl rfl) (pe_call (ok_join_points T) (hr.mono (by decide)) (by rfl) T.m_join_points T.F_join_points.kp bd_join_points vd_join_points passL (pa_cons (pe_ix ix_tup (pv 9) pe_int (fun _ _ => rfl)) (pa_cons (pe_ix ix_tup (pv 9) pe_int (fun _ _ => rfl)) pa_nil))))))
  (pss_cons (ps_if (PW.pt (pw_or (pt_not (pt_val (pe_callB call_isi (by rfl) T.z_isinstance (by decide +kernel) (pa_cons (pv 10) (pa_cons (pe_bltn (v := .ty "tuple") (by rfl) T.z_tuple (by decide +kernel) rfl) pa_nil))))) (pw_or1 (pt_cmpR (op_neD hr.units) (pv 10) (pe_tup (pa_cons (pe_callTy Z.c_tupOf (by rfl) T.z_tuple (by decide +kernel) (pa_cons (pv 4) pa_nil)) (pa_cons (pv 8) (pa_cons (pv 3) pa_nil)))) (nomark _)))))
  (pss_one (ps_ret pe_bl))
  pss_nil)
  (pss_one (ps_ret (pe_and (pe_callB call_isi (by rfl) T.z_isinstance (by decide +kernel) (pa_cons (pe_ix ix_tup (pv 10) pe_int (fun _ _ => rfl)) (pa_cons (pe_bltn (v := .ty "bool") (by rfl) T.z_bool (by decide +kernel) rfl) pa_nil))) (pe_one (pe_cmpR (op_eqD hr.units) (pv 9) (pe_tup (pa_cons (pv 4) (pa_cons (pv 6) pa_nil))) (nomark _))))))))))))))))))), ?_⟩
  walk_at "z"
  refine ⟨l, ns, 0, rfl, hS, fun v => ?_⟩
  walk_at "z"
  refine ⟨v, rfl, fun p H1 a b m hp s1 h1 => ?_⟩
  have S1 := Sd.mk0 hp s1 h1
  walk_at "z"
  refine nx S1 (by decide) (lt1000 (by decide)) fun c0 H2 c00 c01 S2 e2 => ?_
  walk_at "z"
  refine z_cut (fun σ' H' => ∃ n : Nat, σ' = [some (.ref l), some (.ref p), some (.int (n : Int)), none, none, none, none, none, none, none, none] ∧ 1 ≤ n ∧ n ≤ 27 ∧ Sd H H' p) ?_ ?_
  · walk_at "z"
    refine nx S2 (by decide) (lt1000 (by decide)) fun d HB _ _ SB eB => ?_
    walk_at "z"
    refine z_if (fun _ => ?_) (fun _ => ?_)
    · walk_at "z"
      refine nx SB (by decide) (lt1000 (by decide)) fun d' HC _ _ SC eC => ?_
      walk_at "z"
      exact ⟨(d' + 20).toNat, by rw [show (((d' + 20).toNat : Nat) : Int) = d' + 20 by omega]; rfl, by omega, by omega, SC⟩
    · walk_at "z"
      exact ⟨(c0 + 1).toNat, by rw [show (((c0 + 1).toNat : Nat) : Int) = c0 + 1 by omega]; rfl, by omega, by omega, SB⟩
  clear S2 e2 S1 hp s1 h1
  rintro σ' H3 ⟨n, rfl, n1, n27, S3⟩
  walk_at "z"
  refine nx S3 (by decide) (lt1000 (by decide)) fun c1 H4 _ _ S4 e4 => ?_
  clear S3 e4
  walk_at "z"
  generalize decide (c1 = 0) = cyc
  refine z_pts n (by omega) S4 (fun R q => by walk_at "z"; exact q) (fun _ => rfl) (fun _ => rfl) fun Dk ks pts H5 fk fk0 fkp S5 _ hk dk lk bk => ?_
  clear S4 fk
  walk_at "z"
  refine ⟨l, ns, 1, rfl, S5.same.seq hS, fun v1 => ?_⟩
  walk_at "z"
  refine ⟨v1, rfl, fun p2 H6 a2 b2 m2 hp2 s6 h6 => ?_⟩
  have T6 := Sd.mk0 hp2 s6 h6
  walk_at "z"
  obtain ⟨m, hm⟩ : ∃ m : Nat, m + 1 = n + (if cyc = true then 1 else 0) := ⟨n - 1 + (if cyc = true then 1 else 0), by omega⟩
  have hm28 : m ≤ 28 := by split at hm <;> omega
  refine ⟨p2, m, H5, by rw [show (n : Int) - 1 + (if cyc = true then (1 : Int) else 0) = (m : Int) by cases cyc <;> simp at hm ⊢ <;> omega], by omega, T6, fun D vj js H7 gD gD0 gDp S7 _ hj dj lj oj => ?_⟩
  have s57 := S7.same
  have SA := S5.mono s57
  have hkA := s57 _ _ hk
  have dkA := dp_monoA s57 dk
  have nDk : D ≠ Dk := fun z => by rw [z, hk] at gD0; cases gD0
  have fD : H D = none := S5.same.free gD0
  have nDp : D ≠ p := S5.ne0 gD0
  clear S7 T6 s57 dk hk S5 h6 s6 hp2 gD gDp
  walk_at "z"
  refine z_cut (fun σ' H' => ∃ (bad : Bool) (vj : List V) (js : List JQ), σ' = [some (.ref l), some (.ref p), some (.int (n : Int)), some (.bl cyc), some (.ref Dk), none, some (.ref D), some (.bl bad), none, none, none] ∧ Sd H H' p ∧ H' Dk = some (.lst ks) ∧ DpAll K H' ks (pts.map ptQ) ∧ H' D = some (.lst vj) ∧ DpAll K H' vj (js.map jD) ∧ js.length = m ∧ (∀ j ∈ js, Bj j) ∧ (∀ j ∈ js, badJ j = false → Gj j) ∧ (bad = true → ∃ j ∈ js, badJ j = true) ∧ (bad = false → ∀ j ∈ js, Gj j)) ?_ ?_
  · walk_at "z"
    refine nx SA (by decide) (lt1000 (by decide)) fun d HB _ _ SB eB => ?_
    have kB := kp_eq eB
    have hkB := kB _ _ fkp hkA
    have dkB := dpa_sdq SA kB (tup_pqs _) dkA
    have hjB := kB _ _ nDp hj
    have djB := dpa_sdq SA kB (tup_js _) dj
    have vl : vj.length = m := by rw [dpa_len dj, List.length_map, lj]
    clear SA eB kB hkA dkA hj dj
    walk_at "z"
    have fin : (fun (σ' : L2.St) (H' : Hp) => ∃ (bad : Bool) (vj : List V) (js : List JQ), σ' = [some (.ref l), some (.ref p), some (.int (n : Int)), some (.bl cyc), some (.ref Dk), none, some (.ref D), some (.bl bad), none, none, none] ∧ Sd H H' p ∧ H' Dk = some (.lst ks) ∧ DpAll K H' ks (pts.map ptQ) ∧ H' D = some (.lst vj) ∧ DpAll K H' vj (js.map jD) ∧ js.length = m ∧ (∀ j ∈ js, Bj j) ∧ (∀ j ∈ js, badJ j = false → Gj j) ∧ (bad = true → ∃ j ∈ js, badJ j = true) ∧ (bad = false → ∀ j ∈ js, Gj j)) [some (.ref l), some (.ref p), some (.int (n : Int)), some (.bl cyc), some (.ref Dk), none, some (.ref D), some (.bl false), none, none, none] HB :=
      ⟨false, vj, js, rfl, SB, hkB, dkB, hjB, djB, lj, fun j h => (oj j h).1, fun j h _ => (oj j h).2, fun z => (by cases z), fun _ j h => (oj j h).2⟩
    have hjS : SqL K HB D vj := .inl (.inl hjB)
    refine z_if (fun _ => ?_) (fun _ => ?_)
    · walk_at "z"
      refine z_if (fun m0 => ?_) (fun _ => ?_)
      · rw [vl] at m0
        walk_at "z"
        intro a1 H1' f1 s1 h1
        have S1 := SB.mono s1
        walk_at "z"
        intro a2' H2' f2 s2 h2
        walk_at "z"
        intro a3 H3' f3 s3 h3
        walk_at "z"
        intro a4 H4' f4 s4 h4
        walk_at "z"
        intro a5 H5' f5 s5 h5
        have sB5 := (((s1.trans s2).trans s3).trans s4).trans s5
        have n5 : a5 ≠ p := (SB.mono (((s1.trans s2).trans s3).trans s4)).ne0 f5
        have S5' := SB.mono sB5
        have e1 : Dp K H5' (.ref a1) (qD ⟨2, 3, by decide, by decide⟩) := dpT2 ((((s2.trans s3).trans s4).trans s5) _ _ h1)
        have e2 : Dp K H5' (.ref a2') (qD ⟨0, 1, by decide, by decide⟩) := dpT2 (((s3.trans s4).trans s5) _ _ h2)
        have e3 : Dp K H5' (.ref a3) (qD ⟨-1, 1, by decide, by decide⟩) := dpT2 ((s4.trans s5) _ _ h3)
        have e4 : Dp K H5' (.ref a4) (qD ⟨37, 50, by decide, by decide⟩) := dpT2 (s5 _ _ h4)
        walk_at "z"
        refine nx S5' (by decide) (lt1000 (by decide)) fun w HC w0 w3 SC eC => ?_
        have kC := kp_eq eC
        have h5C := kC _ _ n5 h5
        obtain ⟨vt, t, hvt, dvt, bt, gt⟩ : ∃ (vt : V) (t : Rat), atI [V.ref a1, .ref a2', .ref a3, .ref a4] w = some vt ∧ Dp K HC vt (qD t) ∧ Bt t ∧ badJ (some (.inr t)) = true := by
          by_cases w1 : w = 0
          · subst w1
            exact ⟨_, _, rfl, kp_sd S5' kC rfl e1, ⟨by decide, by decide⟩, by decide +kernel⟩
          by_cases w1 : w = 1
          · subst w1
            exact ⟨_, _, rfl, kp_sd S5' kC rfl e2, ⟨by decide, by decide⟩, by decide +kernel⟩
          by_cases w1 : w = 2
          · subst w1
            exact ⟨_, _, rfl, kp_sd S5' kC rfl e3, ⟨by decide, by decide⟩, by decide +kernel⟩
          · rw [show w = 3 by omega]
            exact ⟨_, _, rfl, kp_sd S5' kC rfl e4, ⟨by decide, by decide⟩, by decide +kernel⟩
        have hkC := kC _ _ fkp (sB5 _ _ hkB)
        have dkC := dpa_sdq S5' kC (tup_pqs _) (dp_monoA sB5 dkB)
        have hjC := kC _ _ nDp (sB5 _ _ hjB)
        have djC := dpa_sdq S5' kC (tup_js _) (dp_monoA sB5 djB)
        walk_at "z"
        refine z_ixL (.inl (.inl h5C)) hvt ?_
        walk_at "z"
        intro a6 H6' f6 s6 h6
        have n6 : a6 ≠ p := SC.ne0 f6
        have dJ : Dp K H6' (.ref a6) (jD (some (.inr t))) := dp_mk h6 (.cons (.str _) (.cons (dp_mono s6 dvt) .nil))
        have S6' := SC.mono s6
        have hjS6 : SqL K H6' D vj := .inl (.inl (s6 _ _ hjC))
        walk_at "z"
        rw [vl]
        refine nx S6' (by omega) (lt1000 (Nat.lt_of_le_of_lt (show ((m : Int)).natAbs ≤ 28 by omega) (by decide))) fun ix HD i0 im SD eD => ?_
        have kD := kp_eq eD
        have hjD := kD _ _ nDp (s6 _ _ hjC)
        have hkD := kD _ _ fkp (s6 _ _ hkC)
        have dkD := dpa_sdq S6' kD (tup_pqs _) (dp_monoA s6 dkC)
        have djD := dpa_sdq S6' kD (tup_js _) (dp_monoA s6 djC)
        have dJD := kp_sd S6' kD (tup_jD _) dJ
        refine z_setL (k := ix.toNat) hjD (by unfold ixN; rw [vl, if_pos i0, if_pos (by omega)]) ?_
        walk_at "z"
        refine ⟨true, vj.set ix.toNat (.ref a6), js.set ix.toNat (some (.inr t)), rfl, sd_updq SD fD nDp, by rw [upd_ne (Ne.symm nDk)]; exact hkD, dp_kpA kp_at hjD (tup_pqs _) dkD, upd_same, ?_, by rw [List.length_set]; exact lj, fun j h => ?_, fun j h hb => ?_, fun _ => ⟨_, List.mem_of_getElem? (i := ix.toNat) (List.getElem?_set_self (by omega)), gt⟩, fun z => (by cases z)⟩
        · rw [List.map_set]
          exact dp_kpA kp_at hjD (by rw [← List.map_set]; exact tup_js _) (dpa_set djD dJD)
        · rcases List.mem_or_eq_of_mem_set h with h | h
          · exact (oj j h).1
          · rw [h]
            exact bt
        · rcases List.mem_or_eq_of_mem_set h with h | h
          · exact (oj j h).2
          · rw [h, gt] at hb
            cases hb
      · walk_at "z"
        exact fin
    · walk_at "z"
      exact fin
  rintro σ' H8 ⟨bad, vj', js', rfl, S8, hk8, dk8, hj8, dj8, lj8, bj8, gj8, q1, q2⟩
  clear SA hkA dkA hj dj lj oj
  have mk : ∀ {H' : Hp} {a b : Addr}, H' a = some (.lst ks) → DpAll K H' ks (pts.map ptQ) → H' b = some (.lst vj') → DpAll K H' vj' (js'.map jD) → JL K H' a b ks vj' pts js' cyc := fun {H' a b} h1 d1 h2 d2 =>
    ⟨.inl (.inl h1), .inl (.inl h2), d1, d2, by omega, by omega, by rw [lj8, lk]; exact hm, bk, bj8⟩
  have tG8 : GxR.TabG H8 _ := (Tg.SameX.of S8.same).tab _ tG
  have go : ∀ H', Q (.bl true) H' := q
  walk_at "z"
  cases bad with
  | true =>
    walk_at "z"
    refine z_listOf (.inl (.inl hk8)) fun pa HA fa sa ha => ?_
    walk_at "z"
    refine z_listOf (.inl (.inl (sa _ _ hj8))) fun pb HB fb sb hb => ?_
    walk_at "z"
    have sab := sa.trans sb
    exact ⟨pa, pb, ks, vj', pts, js', cyc, rfl, mk (sb _ _ ha) (dp_monoA sab dk8) hb (dp_monoA sab dj8), (Tg.SameX.of sab).tab _ tG8, gj8, .inr (q1 rfl), go⟩
  | false =>
  walk_at "z"
  refine z_if (fun n24 => ?_) (fun n24 => ?_)
  · walk_at "z"
    refine z_listOf (.inl (.inl hk8)) fun pa HA fa sa ha => ?_
    walk_at "z"
    refine z_listOf (.inl (.inl (sa _ _ hj8))) fun pb HB fb sb hb => ?_
    walk_at "z"
    have sab := sa.trans sb
    exact ⟨pa, pb, ks, vj', pts, js', cyc, rfl, mk (sb _ _ ha) (dp_monoA sab dk8) hb (dp_monoA sab dj8), (Tg.SameX.of sab).tab _ tG8, gj8, .inl (by omega), go⟩
  have gj := q2 rfl
  walk_at "z"
  have vl : vj'.length = js'.length := by rw [dpa_len dj8, List.length_map]
  have J8 := mk hk8 dk8 hj8 dj8
  refine z_lcD (K := K) (G := fun _ => True) ((segsJ pts js' cyc).map sgQ) (walk0J (n := js'.length)) (by unfold segsJ; rw [List.length_map, List.length_map, List.length_range]) (by omega) (tup_sqs _) (fun R r => Cw.z_iRng (k := js'.length) (fun S h => by
      have hj8S : SqL K H8 D vj' := .inl (.inl hj8)
      walk_at "z"
      rw [vl]
      exact h) (by omega) r) (fun _ _ => trivial) (fun i x d H5 H6 R hd hi s5 y hR => ?_) fun D2 acc2 H9 f9 s9 h9 l9 a9 => ?_
  · obtain ⟨rfl, rfl⟩ := y
    refine ⟨rfl, ?_⟩
    have e : d = sgQ (segJ pts js' cyc i) := by
      unfold segsJ at hd
      rw [List.map_map, List.getElem?_map, List.getElem?_range hi] at hd
      cases hd
      rfl
    rw [e] at hR
    walk_at "z"
    exact ⟨_, _, ks, vj', pts, js', cyc, i, rfl, J8.mono (.of s5), hi, gj, fun v' H5' s5' d5 => hR v' H5' s5' d5⟩
  walk_at "z"
  refine z_tupOf (.inl (.inl h9)) fun pS HS fS sS hS' => ?_
  walk_at "z"
  have s8S := s9.trans sS
  refine z_listOf (.inl (.inl (s8S _ _ hk8))) fun pa HA fa sa ha => ?_
  walk_at "z"
  refine z_listOf (.inl (.inl (sa _ _ (s8S _ _ hj8)))) fun pb HB fb sb hb => ?_
  walk_at "z"
  intro ph HC fh sh hh
  have s8C := ((s8S.trans sa).trans sb).trans sh
  have SC := S8.mono s8C
  have SSC := ((sa.trans sb).trans sh)
  have hd : Hd K HC Dk D pS pa pb ph ks vj' acc2 pts js' (segsJ pts js' cyc) := ⟨s8C _ _ hk8, s8C _ _ hj8, dp_monoA s8C dk8, dp_monoA s8C dj8, SSC _ _ hS', dp_monoA (sS.trans SSC) a9, (sb.trans sh) _ _ ha, sh _ _ hb, hh⟩
  have npS : pS ≠ p := (S8.mono s9).ne0 fS
  have npa : pa ≠ p := (S8.mono s8S).ne0 fa
  have npb : pb ≠ p := (S8.mono (s8S.trans sa)).ne0 fb
  have nph : ph ≠ p := (S8.mono ((s8S.trans sa).trans sb)).ne0 fh
  have jpt : ∀ (H' : Hp) (Q' : VK) (E' : XK), Hd K H' Dk D pS pa pb ph ks vj' acc2 pts js' (segsJ pts js' cyc) → Sd H H' p → (∀ v' H'', Hd K H'' Dk D pS pa pb ph ks vj' acc2 pts js' (segsJ pts js' cyc) → Dp K H'' v' (pathQ pts (segsJ pts js' cyc) cyc) → Q' v' H'') → sp_join_points K A (A 38) [.ref pa, .ref pb, .bl cyc] H' Q' E' := fun H' Q' E' h S' hq =>
    ⟨pa, pb, ks, vj', pts, js', cyc, rfl, mk h.ha h.dk h.hb h.dj, (Tg.SameX.of S'.same).tab _ tG, gj8, fun c => absurd c (by omega), fun _ ⟨j, m, hb⟩ => absurd ((gj_bad (gj j m)).symm.trans hb) Bool.false_ne_true, fun _ _ v' H'' s d => hq v' H'' (h.mono s) d⟩
  clear sh hh sb hb sa ha fa fb fh SSC s8C s8S sS hS' fS s9 h9 l9 a9 f9 hk8 hj8 dk8 dj8 tG8 S8 J8 mk
  walk_at "z"
  refine z_cut (fun σ' H' => ∃ v' : V, σ' = [some (.ref l), some (.ref p), some (.int (n : Int)), some (.bl cyc), some (.ref Dk), none, some (.ref D), some (.bl false), some (.ref pS), some (.ref ph), some v'] ∧ Hd K H' Dk D pS pa pb ph ks vj' acc2 pts js' (segsJ pts js' cyc) ∧ Dp K H' v' (pathQ pts (segsJ pts js' cyc) cyc)) ?_ ?_
  · walk_at "z"
    have hhT : SqT K HC ph [.ref pa, .ref pb] := .inl (.inl hd.hh)
    cases cyc with
    | true =>
      walk_at "z"
      refine Tg.z_callN ?_
      walk_at "z"
      refine ⟨rfl, rfl, ?_⟩
      refine jpt HC _ _ hd SC fun v' H'' h' d' => ?_
      walk_at "z"
      exact ⟨v', rfl, h', d'⟩
    | false =>
      walk_at "z"
      refine nx SC (by decide) (lt1000 (by decide)) fun w HD _ _ SD eD => ?_
      have kD := kp_eq eD
      have hdD : Hd K HD Dk D pS pa pb ph ks vj' acc2 pts js' (segsJ pts js' false) := ⟨kD _ _ fkp hd.hk, kD _ _ nDp hd.hj, dpa_sdq SC kD (tup_pqs _) hd.dk, dpa_sdq SC kD (tup_js _) hd.dj, kD _ _ npS hd.hS, dpa_sdq SC kD (tup_sqs _) hd.dS, kD _ _ npa hd.ha, kD _ _ npb hd.hb, kD _ _ nph hd.hh⟩
      have hhTD : SqT K HD ph [.ref pa, .ref pb] := .inl (.inl hdD.hh)
      walk_at "z"
      refine z_if (fun _ => ?_) (fun _ => ?_)
      · walk_at "z"
        refine Tg.z_callN ?_
        walk_at "z"
        refine ⟨rfl, rfl, ?_⟩
        refine jpt HD _ _ hdD SD fun v' H'' h' d' => ?_
        walk_at "z"
        exact ⟨v', rfl, h', d'⟩
      · walk_at "z"
        unfold tCall
        walk_at "z"
        refine jpt HD _ _ hdD SD fun v' H'' h' d' => ?_
        walk_at "z"
        exact ⟨v', rfl, h', d'⟩
  rintro σ' HE ⟨v', rfl, hd', dv⟩
  obtain ⟨pv', pk', pg', kv', gv', rfl, hpv, _, _, _, _⟩ := dp_path dv
  have vl2 : acc2.length = (segsJ pts js' cyc).length := by rw [dpa_len hd'.dS, List.length_map]
  walk_at "z"
  refine z_tupOf (.inl (.inl hd'.hk)) fun p3 H3 f3 s3 h3 => ?_
  walk_at "z"
  intro p4 H4 f4 s4 h4
  have s34 := s3.trans s4
  have hd4 := hd'.mono (.of s34)
  have hpv4 := seqT s34 hpv
  walk_at "z"
  refine z_neSame (dp_mono s34 dv) (dp_mkpath (.inl (.inl h4)) (.inl (.inl (s4 _ _ h3))) (.inl (.inl hd4.hS)) hd4.dk hd4.dS) (shaped_path _ _ _) ?_
  walk_at "z"
  intro p5 H5 f5 s5 h5
  have hd5 := hd4.mono (.of s5)
  refine z_eqSame (d := .tuple [.list (pts.map ptQ), .list (js'.map jD)]) (dp_mk hd5.hh (.cons (.lst (.inl (.inl hd5.ha)) hd5.dk) (.cons (.lst (.inl (.inl hd5.hb)) hd5.dj) .nil))) (dp_mk h5 (.cons (.lst (.inl (.inl hd5.hk)) hd5.dk) (.cons (.lst (.inl (.inl hd5.hj)) hd5.dj) .nil))) (shaped_hd _ _) ?_
  exact go _
end

theorem all_mk {l : PySem.W.OpenLaw} {q : Program} {w : World} {K : PySem.W.Frag} {h : Heap} {mg : Str → Option Value} {fa : Addr} (X : K.In h) (G : h.Ns mainGlobals mg) (hfa : mg "law" = some (.ref fa)) {Ps : List Addr} (tabs : Tg.TabAllZ q Ps K mg h)
    {a5 : Addr} {od5 an5 : Option Addr} {sl5 : Array (Option Value)} {oc5 kV5 dc5 pm5 cd5 ct5 : Value} {a6 : Addr} {od6 an6 : Option Addr} {sl6 : Array (Option Value)} {oc6 kV6 dc6 pm6 cd6 ct6 : Value} {a7 : Addr} {od7 an7 : Option Addr} {sl7 : Array (Option Value)} {oc7 kV7 dc7 pm7 cd7 ct7 : Value} {a8 : Addr} {od8 an8 : Option Addr} {sl8 : Array (Option Value)} {oc8 kV8 dc8 pm8 cd8 ct8 : Value} {a9 : Addr} {od9 an9 : Option Addr} {sl9 : Array (Option Value)} {oc9 kV9 dc9 pm9 cd9 ct9 : Value} {a10 : Addr} {od10 an10 : Option Addr} {sl10 : Array (Option Value)} {oc10 kV10 dc10 pm10 cd10 ct10 : Value} {a11 : Addr} {od11 an11 : Option Addr} {sl11 : Array (Option Value)} {oc11 kV11 dc11 pm11 cd11 ct11 : Value} {a12 : Addr} {od12 an12 : Option Addr} {sl12 : Array (Option Value)} {oc12 dc12 pm12 ct12 : Value} {cc12 pp12 : Addr} {ce12 : Value} {cf12 : Option Addr} {cv12 : Array Value} {cw12 : Array (Option Value)} {kd12 : Addr}  {a13 : Addr} {od13 an13 : Option Addr} {sl13 : Array (Option Value)} {oc13 kV13 dc13 pm13 cd13 ct13 : Value} {a14 : Addr} {od14 an14 : Option Addr} {sl14 : Array (Option Value)} {oc14 kV14 dc14 pm14 cd14 ct14 : Value} {a15 : Addr} {od15 an15 : Option Addr} {sl15 : Array (Option Value)} {oc15 kV15 dc15 pm15 cd15 ct15 : Value} {a16 : Addr} {od16 an16 : Option Addr} {sl16 : Array (Option Value)} {oc16 kV16 dc16 pm16 cd16 ct16 : Value} {a17 : Addr} {od17 an17 : Option Addr} {sl17 : Array (Option Value)} {oc17 kV17 dc17 pm17 cd17 ct17 : Value} {a18 : Addr} {od18 an18 : Option Addr} {sl18 : Array (Option Value)} {oc18 kV18 dc18 pm18 cd18 ct18 : Value} {a19 : Addr} {od19 an19 : Option Addr} {sl19 : Array (Option Value)} {oc19 kV19 dc19 pm19 cd19 ct19 : Value} {a20 : Addr} {od20 an20 : Option Addr} {sl20 : Array (Option Value)} {oc20 kV20 dc20 pm20 cd20 ct20 : Value} {a21 : Addr} {od21 an21 : Option Addr} {sl21 : Array (Option Value)} {oc21 kV21 dc21 pm21 cd21 ct21 : Value} {a22 : Addr} {od22 an22 : Option Addr} {sl22 : Array (Option Value)} {oc22 kV22 dc22 pm22 cd22 ct22 : Value} {a23 : Addr} {od23 an23 : Option Addr} {sl23 : Array (Option Value)} {oc23 kV23 dc23 pm23 cd23 ct23 : Value} {a24 : Addr} {od24 an24 : Option Addr} {sl24 : Array (Option Value)} {oc24 kV24 dc24 pm24 cd24 ct24 : Value} {a25 : Addr} {od25 an25 : Option Addr} {sl25 : Array (Option Value)} {oc25 kV25 dc25 pm25 cd25 ct25 : Value} {a26 : Addr} {od26 an26 : Option Addr} {sl26 : Array (Option Value)} {oc26 kV26 dc26 pm26 cd26 ct26 : Value} {a27 : Addr} {od27 an27 : Option Addr} {sl27 : Array (Option Value)} {oc27 kV27 dc27 pm27 cd27 ct27 : Value} {a28 : Addr} {od28 an28 : Option Addr} {sl28 : Array (Option Value)} {oc28 kV28 dc28 pm28 cd28 ct28 : Value} {a29 : Addr} {od29 an29 : Option Addr} {sl29 : Array (Option Value)} {oc29 kV29 dc29 pm29 cd29 ct29 : Value} {a30 : Addr} {od30 an30 : Option Addr} {sl30 : Array (Option Value)} {oc30 kV30 dc30 pm30 cd30 ct30 : Value} {a31 : Addr} {od31 an31 : Option Addr} {sl31 : Array (Option Value)} {oc31 kV31 dc31 pm31 cd31 ct31 : Value} {a32 : Addr} {od32 an32 : Option Addr} {sl32 : Array (Option Value)} {oc32 kV32 dc32 pm32 cd32 ct32 : Value} {a33 : Addr} {od33 an33 : Option Addr} {sl33 : Array (Option Value)} {oc33 kV33 dc33 pm33 cd33 ct33 : Value} {a34 : Addr} {od34 an34 : Option Addr} {sl34 : Array (Option Value)} {oc34 kV34 dc34 pm34 cd34 ct34 : Value} {a35 : Addr} {od35 an35 : Option Addr} {sl35 : Array (Option Value)} {oc35 kV35 dc35 pm35 cd35 ct35 : Value} {a36 : Addr} {od36 an36 : Option Addr} {sl36 : Array (Option Value)} {oc36 kV36 dc36 pm36 cd36 ct36 : Value} {a0 : Addr} {a1 : Addr} {a2 : Addr} {a3 : Addr} {a4 : Addr} {t_LIMIT : Tok} {t_MOST_KNOTS : Tok} {a39 : Addr} {tONE_0_0 : Tok} {tONE_0_1 : Tok} {odONE_0 : Option Addr} {nnONE_0 : Nat} {slONE_0 : Array (Option Value)} {a40 : Addr} {tLEAST_TENSION_0_0 : Tok} {tLEAST_TENSION_0_1 : Tok} {odLEAST_TENSION_0 : Option Addr} {nnLEAST_TENSION_0 : Nat} {slLEAST_TENSION_0 : Array (Option Value)} {a41 : Addr} {tHALF_0_0 : Tok} {tHALF_0_1 : Tok} {odHALF_0 : Option Addr} {nnHALF_0 : Nat} {slHALF_0 : Array (Option Value)} {a42 : Addr} {tTHREE_0_0 : Tok} {tTHREE_0_1 : Tok} {odTHREE_0 : Option Addr} {nnTHREE_0 : Nat} {slTHREE_0 : Array (Option Value)}
    (n5 : PySem.W.nsIn K mainGlobals "ratio" = some (some (.ref a5)))
    (l5 : K.lookup a5 = some ⟨oc5, od5, .func (PySem.W.fnOf "ratio" "ratio" (defArgs s_ratio) (defBody s_ratio) (defScope s_ratio) .none kV5 dc5 pm5 an5 cd5 ct5), sl5⟩)
    (c5 : PySem.W.codeIn K cd5 "ratio" = true) (k5 : PySem.W.keepIn K (.ref a5) = true)
    (n6 : PySem.W.nsIn K mainGlobals "add" = some (some (.ref a6)))
    (l6 : K.lookup a6 = some ⟨oc6, od6, .func (PySem.W.fnOf "add" "add" (defArgs s_add) (defBody s_add) (defScope s_add) .none kV6 dc6 pm6 an6 cd6 ct6), sl6⟩)
    (c6 : PySem.W.codeIn K cd6 "add" = true) (k6 : PySem.W.keepIn K (.ref a6) = true)
    (n7 : PySem.W.nsIn K mainGlobals "subtract" = some (some (.ref a7)))
    (l7 : K.lookup a7 = some ⟨oc7, od7, .func (PySem.W.fnOf "subtract" "subtract" (defArgs s_subtract) (defBody s_subtract) (defScope s_subtract) .none kV7 dc7 pm7 an7 cd7 ct7), sl7⟩)
    (c7 : PySem.W.codeIn K cd7 "subtract" = true) (k7 : PySem.W.keepIn K (.ref a7) = true)
    (n8 : PySem.W.nsIn K mainGlobals "multiply" = some (some (.ref a8)))
    (l8 : K.lookup a8 = some ⟨oc8, od8, .func (PySem.W.fnOf "multiply" "multiply" (defArgs s_multiply) (defBody s_multiply) (defScope s_multiply) .none kV8 dc8 pm8 an8 cd8 ct8), sl8⟩)
    (c8 : PySem.W.codeIn K cd8 "multiply" = true) (k8 : PySem.W.keepIn K (.ref a8) = true)
    (n9 : PySem.W.nsIn K mainGlobals "divide" = some (some (.ref a9)))
    (l9 : K.lookup a9 = some ⟨oc9, od9, .func (PySem.W.fnOf "divide" "divide" (defArgs s_divide) (defBody s_divide) (defScope s_divide) .none kV9 dc9 pm9 an9 cd9 ct9), sl9⟩)
    (c9 : PySem.W.codeIn K cd9 "divide" = true) (k9 : PySem.W.keepIn K (.ref a9) = true)
    (n10 : PySem.W.nsIn K mainGlobals "compare" = some (some (.ref a10)))
    (l10 : K.lookup a10 = some ⟨oc10, od10, .func (PySem.W.fnOf "compare" "compare" (defArgs s_compare) (defBody s_compare) (defScope s_compare) .none kV10 dc10 pm10 an10 cd10 ct10), sl10⟩)
    (c10 : PySem.W.codeIn K cd10 "compare" = true) (k10 : PySem.W.keepIn K (.ref a10) = true)
    (n11 : PySem.W.nsIn K mainGlobals "check_knots" = some (some (.ref a11)))
    (l11 : K.lookup a11 = some ⟨oc11, od11, .func (PySem.W.fnOf "check_knots" "check_knots" (defArgs s_check_knots) (defBody s_check_knots) (defScope s_check_knots) .none kV11 dc11 pm11 an11 cd11 ct11), sl11⟩)
    (c11 : PySem.W.codeIn K cd11 "check_knots" = true) (k11 : PySem.W.keepIn K (.ref a11) = true)
    (n12 : PySem.W.nsIn K mainGlobals "join_points" = some (some (.ref a12)))
    (l12 : K.lookup a12 = some ⟨oc12, od12, .func (PySem.W.fnOf "join_points" "join_points" (defArgs s_join_points) (defBody s_join_points) (defScope s_join_points) .none (.ref kd12) dc12 pm12 an12 (.ref cc12) ct12), sl12⟩)
    (c12 : PySem.W.codeIn K (.ref cc12) "join_points" = true) (k12 : PySem.W.keepIn K (.ref a12) = true)
    (tl12 : K.lookup cc12 = some ⟨ce12, cf12, .fields cv12, cw12⟩) (tv12 : cv12[11]? = some (.ref pp12)) (tn12 : K.lookup pp12 = none) (tz12 : pp12 ∈ Ps) (th12 : PySem.W.codeHdIn K cc12 pp12 = true)
    (kw12_cycle : PySem.W.nsIn K kd12 "cycle" = some (some (.bool false)))
    (n13 : PySem.W.nsIn K mainGlobals "is_smooth" = some (some (.ref a13)))
    (l13 : K.lookup a13 = some ⟨oc13, od13, .func (PySem.W.fnOf "is_smooth" "is_smooth" (defArgs s_is_smooth) (defBody s_is_smooth) (defScope s_is_smooth) .none kV13 dc13 pm13 an13 cd13 ct13), sl13⟩)
    (c13 : PySem.W.codeIn K cd13 "is_smooth" = true) (k13 : PySem.W.keepIn K (.ref a13) = true)
    (n14 : PySem.W.nsIn K mainGlobals "joined_segment" = some (some (.ref a14)))
    (l14 : K.lookup a14 = some ⟨oc14, od14, .func (PySem.W.fnOf "joined_segment" "joined_segment" (defArgs s_joined_segment) (defBody s_joined_segment) (defScope s_joined_segment) .none kV14 dc14 pm14 an14 cd14 ct14), sl14⟩)
    (c14 : PySem.W.codeIn K cd14 "joined_segment" = true) (k14 : PySem.W.keepIn K (.ref a14) = true)
    (n15 : PySem.W.nsIn K mainGlobals "smooth_segment" = some (some (.ref a15)))
    (l15 : K.lookup a15 = some ⟨oc15, od15, .func (PySem.W.fnOf "smooth_segment" "smooth_segment" (defArgs s_smooth_segment) (defBody s_smooth_segment) (defScope s_smooth_segment) .none kV15 dc15 pm15 an15 cd15 ct15), sl15⟩)
    (c15 : PySem.W.codeIn K cd15 "smooth_segment" = true) (k15 : PySem.W.keepIn K (.ref a15) = true)
    (n16 : PySem.W.nsIn K mainGlobals "smooth_neighbor" = some (some (.ref a16)))
    (l16 : K.lookup a16 = some ⟨oc16, od16, .func (PySem.W.fnOf "smooth_neighbor" "smooth_neighbor" (defArgs s_smooth_neighbor) (defBody s_smooth_neighbor) (defScope s_smooth_neighbor) .none kV16 dc16 pm16 an16 cd16 ct16), sl16⟩)
    (c16 : PySem.W.codeIn K cd16 "smooth_neighbor" = true) (k16 : PySem.W.keepIn K (.ref a16) = true)
    (n17 : PySem.W.nsIn K mainGlobals "way_from" = some (some (.ref a17)))
    (l17 : K.lookup a17 = some ⟨oc17, od17, .func (PySem.W.fnOf "way_from" "way_from" (defArgs s_way_from) (defBody s_way_from) (defScope s_way_from) .none kV17 dc17 pm17 an17 cd17 ct17), sl17⟩)
    (c17 : PySem.W.codeIn K cd17 "way_from" = true) (k17 : PySem.W.keepIn K (.ref a17) = true)
    (n18 : PySem.W.nsIn K mainGlobals "half_way" = some (some (.ref a18)))
    (l18 : K.lookup a18 = some ⟨oc18, od18, .func (PySem.W.fnOf "half_way" "half_way" (defArgs s_half_way) (defBody s_half_way) (defScope s_half_way) .none kV18 dc18 pm18 an18 cd18 ct18), sl18⟩)
    (c18 : PySem.W.codeIn K cd18 "half_way" = true) (k18 : PySem.W.keepIn K (.ref a18) = true)
    (n19 : PySem.W.nsIn K mainGlobals "ahead_of" = some (some (.ref a19)))
    (l19 : K.lookup a19 = some ⟨oc19, od19, .func (PySem.W.fnOf "ahead_of" "ahead_of" (defArgs s_ahead_of) (defBody s_ahead_of) (defScope s_ahead_of) .none kV19 dc19 pm19 an19 cd19 ct19), sl19⟩)
    (c19 : PySem.W.codeIn K cd19 "ahead_of" = true) (k19 : PySem.W.keepIn K (.ref a19) = true)
    (n20 : PySem.W.nsIn K mainGlobals "behind" = some (some (.ref a20)))
    (l20 : K.lookup a20 = some ⟨oc20, od20, .func (PySem.W.fnOf "behind" "behind" (defArgs s_behind) (defBody s_behind) (defScope s_behind) .none kV20 dc20 pm20 an20 cd20 ct20), sl20⟩)
    (c20 : PySem.W.codeIn K cd20 "behind" = true) (k20 : PySem.W.keepIn K (.ref a20) = true)
    (n21 : PySem.W.nsIn K mainGlobals "_law_cell" = some (some (.ref a21)))
    (l21 : K.lookup a21 = some ⟨oc21, od21, .func (PySem.W.fnOf "_law_cell" "_law_cell" (defArgs s__law_cell) (defBody s__law_cell) (defScope s__law_cell) .none kV21 dc21 pm21 an21 cd21 ct21), sl21⟩)
    (c21 : PySem.W.codeIn K cd21 "_law_cell" = true) (k21 : PySem.W.keepIn K (.ref a21) = true)
    (n22 : PySem.W.nsIn K mainGlobals "_law_stream" = some (some (.ref a22)))
    (l22 : K.lookup a22 = some ⟨oc22, od22, .func (PySem.W.fnOf "_law_stream" "_law_stream" (defArgs s__law_stream) (defBody s__law_stream) (defScope s__law_stream) .none kV22 dc22 pm22 an22 cd22 ct22), sl22⟩)
    (c22 : PySem.W.codeIn K cd22 "_law_stream" = true) (k22 : PySem.W.keepIn K (.ref a22) = true)
    (n23 : PySem.W.nsIn K mainGlobals "_law_next" = some (some (.ref a23)))
    (l23 : K.lookup a23 = some ⟨oc23, od23, .func (PySem.W.fnOf "_law_next" "_law_next" (defArgs s__law_next) (defBody s__law_next) (defScope s__law_next) .none kV23 dc23 pm23 an23 cd23 ct23), sl23⟩)
    (c23 : PySem.W.codeIn K cd23 "_law_next" = true) (k23 : PySem.W.keepIn K (.ref a23) = true)
    (n24 : PySem.W.nsIn K mainGlobals "_law_ratio" = some (some (.ref a24)))
    (l24 : K.lookup a24 = some ⟨oc24, od24, .func (PySem.W.fnOf "_law_ratio" "_law_ratio" (defArgs s__law_ratio) (defBody s__law_ratio) (defScope s__law_ratio) .none kV24 dc24 pm24 an24 cd24 ct24), sl24⟩)
    (c24 : PySem.W.codeIn K cd24 "_law_ratio" = true) (k24 : PySem.W.keepIn K (.ref a24) = true)
    (n25 : PySem.W.nsIn K mainGlobals "_law_sum" = some (some (.ref a25)))
    (l25 : K.lookup a25 = some ⟨oc25, od25, .func (PySem.W.fnOf "_law_sum" "_law_sum" (defArgs s__law_sum) (defBody s__law_sum) (defScope s__law_sum) .none kV25 dc25 pm25 an25 cd25 ct25), sl25⟩)
    (c25 : PySem.W.codeIn K cd25 "_law_sum" = true) (k25 : PySem.W.keepIn K (.ref a25) = true)
    (n26 : PySem.W.nsIn K mainGlobals "_law_difference" = some (some (.ref a26)))
    (l26 : K.lookup a26 = some ⟨oc26, od26, .func (PySem.W.fnOf "_law_difference" "_law_difference" (defArgs s__law_difference) (defBody s__law_difference) (defScope s__law_difference) .none kV26 dc26 pm26 an26 cd26 ct26), sl26⟩)
    (c26 : PySem.W.codeIn K cd26 "_law_difference" = true) (k26 : PySem.W.keepIn K (.ref a26) = true)
    (n27 : PySem.W.nsIn K mainGlobals "_law_product" = some (some (.ref a27)))
    (l27 : K.lookup a27 = some ⟨oc27, od27, .func (PySem.W.fnOf "_law_product" "_law_product" (defArgs s__law_product) (defBody s__law_product) (defScope s__law_product) .none kV27 dc27 pm27 an27 cd27 ct27), sl27⟩)
    (c27 : PySem.W.codeIn K cd27 "_law_product" = true) (k27 : PySem.W.keepIn K (.ref a27) = true)
    (n28 : PySem.W.nsIn K mainGlobals "_law_small" = some (some (.ref a28)))
    (l28 : K.lookup a28 = some ⟨oc28, od28, .func (PySem.W.fnOf "_law_small" "_law_small" (defArgs s__law_small) (defBody s__law_small) (defScope s__law_small) .none kV28 dc28 pm28 an28 cd28 ct28), sl28⟩)
    (c28 : PySem.W.codeIn K cd28 "_law_small" = true) (k28 : PySem.W.keepIn K (.ref a28) = true)
    (n29 : PySem.W.nsIn K mainGlobals "_law_point" = some (some (.ref a29)))
    (l29 : K.lookup a29 = some ⟨oc29, od29, .func (PySem.W.fnOf "_law_point" "_law_point" (defArgs s__law_point) (defBody s__law_point) (defScope s__law_point) .none kV29 dc29 pm29 an29 cd29 ct29), sl29⟩)
    (c29 : PySem.W.codeIn K cd29 "_law_point" = true) (k29 : PySem.W.keepIn K (.ref a29) = true)
    (n30 : PySem.W.nsIn K mainGlobals "_law_minus" = some (some (.ref a30)))
    (l30 : K.lookup a30 = some ⟨oc30, od30, .func (PySem.W.fnOf "_law_minus" "_law_minus" (defArgs s__law_minus) (defBody s__law_minus) (defScope s__law_minus) .none kV30 dc30 pm30 an30 cd30 ct30), sl30⟩)
    (c30 : PySem.W.codeIn K cd30 "_law_minus" = true) (k30 : PySem.W.keepIn K (.ref a30) = true)
    (n31 : PySem.W.nsIn K mainGlobals "_law_moved" = some (some (.ref a31)))
    (l31 : K.lookup a31 = some ⟨oc31, od31, .func (PySem.W.fnOf "_law_moved" "_law_moved" (defArgs s__law_moved) (defBody s__law_moved) (defScope s__law_moved) .none kV31 dc31 pm31 an31 cd31 ct31), sl31⟩)
    (c31 : PySem.W.codeIn K cd31 "_law_moved" = true) (k31 : PySem.W.keepIn K (.ref a31) = true)
    (n32 : PySem.W.nsIn K mainGlobals "_law_direction" = some (some (.ref a32)))
    (l32 : K.lookup a32 = some ⟨oc32, od32, .func (PySem.W.fnOf "_law_direction" "_law_direction" (defArgs s__law_direction) (defBody s__law_direction) (defScope s__law_direction) .none kV32 dc32 pm32 an32 cd32 ct32), sl32⟩)
    (c32 : PySem.W.codeIn K cd32 "_law_direction" = true) (k32 : PySem.W.keepIn K (.ref a32) = true)
    (n33 : PySem.W.nsIn K mainGlobals "_law_segment" = some (some (.ref a33)))
    (l33 : K.lookup a33 = some ⟨oc33, od33, .func (PySem.W.fnOf "_law_segment" "_law_segment" (defArgs s__law_segment) (defBody s__law_segment) (defScope s__law_segment) .none kV33 dc33 pm33 an33 cd33 ct33), sl33⟩)
    (c33 : PySem.W.codeIn K cd33 "_law_segment" = true) (k33 : PySem.W.keepIn K (.ref a33) = true)
    (n34 : PySem.W.nsIn K mainGlobals "_law_joins" = some (some (.ref a34)))
    (l34 : K.lookup a34 = some ⟨oc34, od34, .func (PySem.W.fnOf "_law_joins" "_law_joins" (defArgs s__law_joins) (defBody s__law_joins) (defScope s__law_joins) .none kV34 dc34 pm34 an34 cd34 ct34), sl34⟩)
    (c34 : PySem.W.codeIn K cd34 "_law_joins" = true) (k34 : PySem.W.keepIn K (.ref a34) = true)
    (n35 : PySem.W.nsIn K mainGlobals "_law_refused" = some (some (.ref a35)))
    (l35 : K.lookup a35 = some ⟨oc35, od35, .func (PySem.W.fnOf "_law_refused" "_law_refused" (defArgs s__law_refused) (defBody s__law_refused) (defScope s__law_refused) .none kV35 dc35 pm35 an35 cd35 ct35), sl35⟩)
    (c35 : PySem.W.codeIn K cd35 "_law_refused" = true) (k35 : PySem.W.keepIn K (.ref a35) = true)
    (n36 : PySem.W.nsIn K mainGlobals "law" = some (some (.ref a36)))
    (l36 : K.lookup a36 = some ⟨oc36, od36, .func (PySem.W.fnOf "law" "law" (defArgs s_law) (defBody s_law) (defScope s_law) .none kV36 dc36 pm36 an36 cd36 ct36), sl36⟩)
    (c36 : PySem.W.codeIn K cd36 "law" = true) (k36 : PySem.W.keepIn K (.ref a36) = true)
    (xg0 : PySem.W.nsIn K mainGlobals "FontError" = some (some (.ref a0))) (xq0 : PySem.W.excIn K a0 [.type "ValueError", .type "Exception", .type "BaseException", .type "object"] "ValueError.__new__" = true) (xk0 : PySem.W.keepIn K (.ref a0) = true) (xt0 : PySem.W.typeIn K (.ref a0) = some (.type "type"))
    (xa0 : PySem.W.findIn K (.ref a0) "__getattribute__" = some (some (.builtin "BaseException.__getattribute__"))) (xb0 : PySem.W.findIn K (.ref a0) "__getattr__" = some none) (xc0 : PySem.W.subIn K (.ref a0) (.type "BaseException") = some true) (xd0 : PySem.W.hasDictIn K a0 = true)
    (xe0 : PySem.W.findIn K (.ref a0) "__class__" = some (some (.builtin "object.__class__"))) (xf0 : PySem.W.mroIn K a0 (.type "object") = some true) (xv0 : PySem.W.subIn K (.ref a0) (.type "ValueError") = some true)
    (xg1 : PySem.W.nsIn K mainGlobals "TooGreat" = some (some (.ref a1))) (xq1 : PySem.W.excIn K a1 [.type "ValueError", .type "Exception", .type "BaseException", .type "object"] "ValueError.__new__" = true) (xk1 : PySem.W.keepIn K (.ref a1) = true) (xt1 : PySem.W.typeIn K (.ref a1) = some (.type "type"))
    (xa1 : PySem.W.findIn K (.ref a1) "__getattribute__" = some (some (.builtin "BaseException.__getattribute__"))) (xb1 : PySem.W.findIn K (.ref a1) "__getattr__" = some none) (xc1 : PySem.W.subIn K (.ref a1) (.type "BaseException") = some true) (xd1 : PySem.W.hasDictIn K a1 = true)
    (xe1 : PySem.W.findIn K (.ref a1) "__class__" = some (some (.builtin "object.__class__"))) (xf1 : PySem.W.mroIn K a1 (.type "object") = some true) (xv1 : PySem.W.subIn K (.ref a1) (.type "ValueError") = some true)
    (xg2 : PySem.W.nsIn K mainGlobals "DivisionByZero" = some (some (.ref a2))) (xq2 : PySem.W.excIn K a2 [.type "ValueError", .type "Exception", .type "BaseException", .type "object"] "ValueError.__new__" = true) (xk2 : PySem.W.keepIn K (.ref a2) = true) (xt2 : PySem.W.typeIn K (.ref a2) = some (.type "type"))
    (xa2 : PySem.W.findIn K (.ref a2) "__getattribute__" = some (some (.builtin "BaseException.__getattribute__"))) (xb2 : PySem.W.findIn K (.ref a2) "__getattr__" = some none) (xc2 : PySem.W.subIn K (.ref a2) (.type "BaseException") = some true) (xd2 : PySem.W.hasDictIn K a2 = true)
    (xe2 : PySem.W.findIn K (.ref a2) "__class__" = some (some (.builtin "object.__class__"))) (xf2 : PySem.W.mroIn K a2 (.type "object") = some true) (xv2 : PySem.W.subIn K (.ref a2) (.type "ValueError") = some true)
    (xg3 : PySem.W.nsIn K mainGlobals "OutOfRange" = some (some (.ref a3))) (xq3 : PySem.W.excIn K a3 [.type "ValueError", .type "Exception", .type "BaseException", .type "object"] "ValueError.__new__" = true) (xk3 : PySem.W.keepIn K (.ref a3) = true) (xt3 : PySem.W.typeIn K (.ref a3) = some (.type "type"))
    (xa3 : PySem.W.findIn K (.ref a3) "__getattribute__" = some (some (.builtin "BaseException.__getattribute__"))) (xb3 : PySem.W.findIn K (.ref a3) "__getattr__" = some none) (xc3 : PySem.W.subIn K (.ref a3) (.type "BaseException") = some true) (xd3 : PySem.W.hasDictIn K a3 = true)
    (xe3 : PySem.W.findIn K (.ref a3) "__class__" = some (some (.builtin "object.__class__"))) (xf3 : PySem.W.mroIn K a3 (.type "object") = some true) (xv3 : PySem.W.subIn K (.ref a3) (.type "ValueError") = some true)
    (xg4 : PySem.W.nsIn K mainGlobals "TooMany" = some (some (.ref a4))) (xq4 : PySem.W.excIn K a4 [.type "ValueError", .type "Exception", .type "BaseException", .type "object"] "ValueError.__new__" = true) (xk4 : PySem.W.keepIn K (.ref a4) = true) (xt4 : PySem.W.typeIn K (.ref a4) = some (.type "type"))
    (xa4 : PySem.W.findIn K (.ref a4) "__getattribute__" = some (some (.builtin "BaseException.__getattribute__"))) (xb4 : PySem.W.findIn K (.ref a4) "__getattr__" = some none) (xc4 : PySem.W.subIn K (.ref a4) (.type "BaseException") = some true) (xd4 : PySem.W.hasDictIn K a4 = true)
    (xe4 : PySem.W.findIn K (.ref a4) "__class__" = some (some (.builtin "object.__class__"))) (xf4 : PySem.W.mroIn K a4 (.type "object") = some true) (xv4 : PySem.W.subIn K (.ref a4) (.type "ValueError") = some true)
    (xm : PySem.W.specialIn K (.builtin "object.__class__") "__get__" = some (some (.builtin "getset_descriptor.__get__"))) (xn : PySem.W.takesIn K (.builtin "object.__class__") = some true)
    (e0_0 : PySem.W.subIn K (.ref a0) (.ref a0) = some true)
    (e0_1 : PySem.W.subIn K (.ref a0) (.ref a1) = some false)
    (e0_2 : PySem.W.subIn K (.ref a0) (.ref a2) = some false)
    (e0_3 : PySem.W.subIn K (.ref a0) (.ref a3) = some false)
    (e0_4 : PySem.W.subIn K (.ref a0) (.ref a4) = some false)
    (e1_0 : PySem.W.subIn K (.ref a1) (.ref a0) = some true)
    (e1_1 : PySem.W.subIn K (.ref a1) (.ref a1) = some true)
    (e1_2 : PySem.W.subIn K (.ref a1) (.ref a2) = some false)
    (e1_3 : PySem.W.subIn K (.ref a1) (.ref a3) = some false)
    (e1_4 : PySem.W.subIn K (.ref a1) (.ref a4) = some false)
    (e2_0 : PySem.W.subIn K (.ref a2) (.ref a0) = some true)
    (e2_1 : PySem.W.subIn K (.ref a2) (.ref a1) = some false)
    (e2_2 : PySem.W.subIn K (.ref a2) (.ref a2) = some true)
    (e2_3 : PySem.W.subIn K (.ref a2) (.ref a3) = some false)
    (e2_4 : PySem.W.subIn K (.ref a2) (.ref a4) = some false)
    (e3_0 : PySem.W.subIn K (.ref a3) (.ref a0) = some true)
    (e3_1 : PySem.W.subIn K (.ref a3) (.ref a1) = some false)
    (e3_2 : PySem.W.subIn K (.ref a3) (.ref a2) = some false)
    (e3_3 : PySem.W.subIn K (.ref a3) (.ref a3) = some true)
    (e3_4 : PySem.W.subIn K (.ref a3) (.ref a4) = some false)
    (e4_0 : PySem.W.subIn K (.ref a4) (.ref a0) = some true)
    (e4_1 : PySem.W.subIn K (.ref a4) (.ref a1) = some false)
    (e4_2 : PySem.W.subIn K (.ref a4) (.ref a2) = some false)
    (e4_3 : PySem.W.subIn K (.ref a4) (.ref a3) = some false)
    (e4_4 : PySem.W.subIn K (.ref a4) (.ref a4) = some true)
    (z_abs : PySem.W.nsIn K mainGlobals "abs" = some none)
    (z_bool : PySem.W.nsIn K mainGlobals "bool" = some none)
    (z_int : PySem.W.nsIn K mainGlobals "int" = some none)
    (z_isinstance : PySem.W.nsIn K mainGlobals "isinstance" = some none)
    (z_len : PySem.W.nsIn K mainGlobals "len" = some none)
    (z_list : PySem.W.nsIn K mainGlobals "list" = some none)
    (z_range : PySem.W.nsIn K mainGlobals "range" = some none)
    (z_tuple : PySem.W.nsIn K mainGlobals "tuple" = some none)
    (l_gcd : PySem.W.nsIn K mainGlobals "gcd" = some (some (.builtin "math.gcd")))
    (c_LIMIT : PySem.W.nsIn K mainGlobals "LIMIT" = some (some (.int (1000000000000000000) t_LIMIT)))
    (c_MOST_KNOTS : PySem.W.nsIn K mainGlobals "MOST_KNOTS" = some (some (.int (24) t_MOST_KNOTS)))
    (ntONE : PySem.W.nsIn K mainGlobals "ONE" = some (some (.ref a39)))
    (ktONE_0 : K.lookup a39 = some ⟨.type "tuple", odONE_0, .seq (List.toArray [.int (1) tONE_0_0, .int (1) tONE_0_1]) nnONE_0, slONE_0⟩)
    (ntLEAST_TENSION : PySem.W.nsIn K mainGlobals "LEAST_TENSION" = some (some (.ref a40)))
    (ktLEAST_TENSION_0 : K.lookup a40 = some ⟨.type "tuple", odLEAST_TENSION_0, .seq (List.toArray [.int (3) tLEAST_TENSION_0_0, .int (4) tLEAST_TENSION_0_1]) nnLEAST_TENSION_0, slLEAST_TENSION_0⟩)
    (ntHALF : PySem.W.nsIn K mainGlobals "HALF" = some (some (.ref a41)))
    (ktHALF_0 : K.lookup a41 = some ⟨.type "tuple", odHALF_0, .seq (List.toArray [.int (1) tHALF_0_0, .int (2) tHALF_0_1]) nnHALF_0, slHALF_0⟩)
    (ntTHREE : PySem.W.nsIn K mainGlobals "THREE" = some (some (.ref a42)))
    (ktTHREE_0 : K.lookup a42 = some ⟨.type "tuple", odTHREE_0, .seq (List.toArray [.int (3) tTHREE_0_0, .int (1) tTHREE_0_1]) nnTHREE_0, slTHREE_0⟩)
    : LamX.LawAtS l w K CX0 10 63 "script" mg fa h := by
  have e := hfa.symm.trans (PySem.W.mg_of X G n36)
  cases e
  have F5 := fun_mk (st := s_ratio) l5 c5 k5
  have b5 := F5.binds (ps := ["n", "d"]) fun _ _ _ _ _ _ us hl => match us, hl with | [_, _], _ => rfl
  have F6 := fun_mk (st := s_add) l6 c6 k6
  have b6 := F6.binds (ps := ["a", "b"]) fun _ _ _ _ _ _ us hl => match us, hl with | [_, _], _ => rfl
  have F7 := fun_mk (st := s_subtract) l7 c7 k7
  have b7 := F7.binds (ps := ["a", "b"]) fun _ _ _ _ _ _ us hl => match us, hl with | [_, _], _ => rfl
  have F8 := fun_mk (st := s_multiply) l8 c8 k8
  have b8 := F8.binds (ps := ["a", "b"]) fun _ _ _ _ _ _ us hl => match us, hl with | [_, _], _ => rfl
  have F9 := fun_mk (st := s_divide) l9 c9 k9
  have b9 := F9.binds (ps := ["a", "b"]) fun _ _ _ _ _ _ us hl => match us, hl with | [_, _], _ => rfl
  have F10 := fun_mk (st := s_compare) l10 c10 k10
  have b10 := F10.binds (ps := ["a", "b"]) fun _ _ _ _ _ _ us hl => match us, hl with | [_, _], _ => rfl
  have F11 := fun_mk (st := s_check_knots) l11 c11 k11
  have b11 := F11.binds (ps := ["count"]) fun _ _ _ _ _ _ us hl => match us, hl with | [_], _ => rfl
  have F12 := fun_mk (st := s_join_points) l12 c12 k12
  have FD12 : FunD K "join_points" "join_points" (defArgs s_join_points) (defBody s_join_points) (defScope s_join_points) [] [("cycle", .bl false)] a12 _ := ⟨⟨_, _, _, _, _, _, _, _, _, _, rfl, l12, c12, .inl ⟨rfl, rfl⟩, .inr ⟨kd12, rfl, fun q hq => by
    simp only [List.mem_cons, List.not_mem_nil, or_false] at hq
    rcases hq with rfl
    · exact ⟨_, kw12_cycle, rfl⟩⟩⟩, k12⟩
  have b12 := FD12.binds0 (ps := ["points", "joins", "cycle"]) 2 (by simp) rfl fun D doc pm an cdv ct us ks l1 l2 => match us, ks, l1, l2 with | [_, _], [_], _, _ => ⟨_, _, _, _, _, _, rfl, rfl, rfl⟩
  have kb12_cycle : KBn K (PySem.W.fnOf "join_points" "join_points" (defArgs s_join_points) (defBody s_join_points) (defScope s_join_points) .none (.ref kd12) dc12 pm12 an12 (.ref cc12) ct12) ["points", "joins", "cycle"] 2 ["cycle"] (fun us ws => us ++ ws) (fun vs zs => vs ++ zs) := ⟨fun s us ws _ l1 l2 => match us, ws, l1, l2 with | [_, _], [_], _, _ => .of_eq rfl, fun r1 r2 => r1.append r2⟩
  have F13 := fun_mk (st := s_is_smooth) l13 c13 k13
  have b13 := F13.binds (ps := ["join"]) fun _ _ _ _ _ _ us hl => match us, hl with | [_], _ => rfl
  have F14 := fun_mk (st := s_joined_segment) l14 c14 k14
  have b14 := F14.binds (ps := ["points", "joins", "at", "cycle"]) fun _ _ _ _ _ _ us hl => match us, hl with | [_, _, _, _], _ => rfl
  have F15 := fun_mk (st := s_smooth_segment) l15 c15 k15
  have b15 := F15.binds (ps := ["points", "joins", "at", "cycle"]) fun _ _ _ _ _ _ us hl => match us, hl with | [_, _, _, _], _ => rfl
  have F16 := fun_mk (st := s_smooth_neighbor) l16 c16 k16
  have b16 := F16.binds (ps := ["joins", "at", "cycle"]) fun _ _ _ _ _ _ us hl => match us, hl with | [_, _, _], _ => rfl
  have F17 := fun_mk (st := s_way_from) l17 c17 k17
  have b17 := F17.binds (ps := ["p", "q"]) fun _ _ _ _ _ _ us hl => match us, hl with | [_, _], _ => rfl
  have F18 := fun_mk (st := s_half_way) l18 c18 k18
  have b18 := F18.binds (ps := ["p", "q"]) fun _ _ _ _ _ _ us hl => match us, hl with | [_, _], _ => rfl
  have F19 := fun_mk (st := s_ahead_of) l19 c19 k19
  have b19 := F19.binds (ps := ["point", "factor", "way"]) fun _ _ _ _ _ _ us hl => match us, hl with | [_, _, _], _ => rfl
  have F20 := fun_mk (st := s_behind) l20 c20 k20
  have b20 := F20.binds (ps := ["point", "factor", "way"]) fun _ _ _ _ _ _ us hl => match us, hl with | [_, _, _], _ => rfl
  have F21 := fun_mk (st := s__law_cell) l21 c21 k21
  have b21 := F21.binds (ps := ["script", "k"]) fun _ _ _ _ _ _ us hl => match us, hl with | [_, _], _ => rfl
  have F22 := fun_mk (st := s__law_stream) l22 c22 k22
  have b22 := F22.binds (ps := ["cell"]) fun _ _ _ _ _ _ us hl => match us, hl with | [_], _ => rfl
  have F23 := fun_mk (st := s__law_next) l23 c23 k23
  have b23 := F23.binds (ps := ["stream", "size"]) fun _ _ _ _ _ _ us hl => match us, hl with | [_, _], _ => rfl
  have F24 := fun_mk (st := s__law_ratio) l24 c24 k24
  have b24 := F24.binds (ps := ["n", "d"]) fun _ _ _ _ _ _ us hl => match us, hl with | [_, _], _ => rfl
  have F25 := fun_mk (st := s__law_sum) l25 c25 k25
  have b25 := F25.binds (ps := ["a", "b"]) fun _ _ _ _ _ _ us hl => match us, hl with | [_, _], _ => rfl
  have F26 := fun_mk (st := s__law_difference) l26 c26 k26
  have b26 := F26.binds (ps := ["a", "b"]) fun _ _ _ _ _ _ us hl => match us, hl with | [_, _], _ => rfl
  have F27 := fun_mk (st := s__law_product) l27 c27 k27
  have b27 := F27.binds (ps := ["a", "b"]) fun _ _ _ _ _ _ us hl => match us, hl with | [_, _], _ => rfl
  have F28 := fun_mk (st := s__law_small) l28 c28 k28
  have b28 := F28.binds (ps := ["stream"]) fun _ _ _ _ _ _ us hl => match us, hl with | [_], _ => rfl
  have F29 := fun_mk (st := s__law_point) l29 c29 k29
  have b29 := F29.binds (ps := ["stream"]) fun _ _ _ _ _ _ us hl => match us, hl with | [_], _ => rfl
  have F30 := fun_mk (st := s__law_minus) l30 c30 k30
  have b30 := F30.binds (ps := ["p", "q"]) fun _ _ _ _ _ _ us hl => match us, hl with | [_, _], _ => rfl
  have F31 := fun_mk (st := s__law_moved) l31 c31 k31
  have b31 := F31.binds (ps := ["p", "q", "number"]) fun _ _ _ _ _ _ us hl => match us, hl with | [_, _, _], _ => rfl
  have F32 := fun_mk (st := s__law_direction) l32 c32 k32
  have b32 := F32.binds (ps := ["points", "joins", "at", "is_cycle"]) fun _ _ _ _ _ _ us hl => match us, hl with | [_, _, _, _], _ => rfl
  have F33 := fun_mk (st := s__law_segment) l33 c33 k33
  have b33 := F33.binds (ps := ["points", "joins", "k", "is_cycle"]) fun _ _ _ _ _ _ us hl => match us, hl with | [_, _, _, _], _ => rfl
  have F34 := fun_mk (st := s__law_joins) l34 c34 k34
  have b34 := F34.binds (ps := ["stream", "many"]) fun _ _ _ _ _ _ us hl => match us, hl with | [_, _], _ => rfl
  have F35 := fun_mk (st := s__law_refused) l35 c35 k35
  have b35 := F35.binds (ps := ["points", "joins", "is_cycle"]) fun _ _ _ _ _ _ us hl => match us, hl with | [_, _, _], _ => rfl
  have F36 := fun_mk (st := s_law) l36 c36 k36
  have b36 := F36.binds (ps := ["script"]) fun _ _ _ _ _ _ us hl => match us, hl with | [_], _ => rfl
  let A : Nat → Addr := fun | 0 => a0 | 1 => a1 | 2 => a2 | 3 => a3 | 4 => a4 | 5 => a5 | 6 => a6 | 7 => a7 | 8 => a8 | 9 => a9 | 10 => a10 | 11 => a11 | 12 => a12 | 13 => a13 | 14 => a14 | 15 => a15 | 16 => a16 | 17 => a17 | 18 => a18 | 19 => a19 | 20 => a20 | 21 => a21 | 22 => a22 | 23 => a23 | 24 => a24 | 25 => a25 | 26 => a26 | 27 => a27 | 28 => a28 | 29 => a29 | 30 => a30 | 31 => a31 | 32 => a32 | 33 => a33 | 34 => a34 | 35 => a35 | 36 => fa | 37 => cc12 | 38 => pp12 | 39 => a39 | 40 => a40 | 41 => a41 | 42 => a42 | _ => 0
  let D : Nat → FuncData := fun | 5 => PySem.W.fnOf "ratio" "ratio" (defArgs s_ratio) (defBody s_ratio) (defScope s_ratio) .none kV5 dc5 pm5 an5 cd5 ct5 | 6 => PySem.W.fnOf "add" "add" (defArgs s_add) (defBody s_add) (defScope s_add) .none kV6 dc6 pm6 an6 cd6 ct6 | 7 => PySem.W.fnOf "subtract" "subtract" (defArgs s_subtract) (defBody s_subtract) (defScope s_subtract) .none kV7 dc7 pm7 an7 cd7 ct7 | 8 => PySem.W.fnOf "multiply" "multiply" (defArgs s_multiply) (defBody s_multiply) (defScope s_multiply) .none kV8 dc8 pm8 an8 cd8 ct8 | 9 => PySem.W.fnOf "divide" "divide" (defArgs s_divide) (defBody s_divide) (defScope s_divide) .none kV9 dc9 pm9 an9 cd9 ct9 | 10 => PySem.W.fnOf "compare" "compare" (defArgs s_compare) (defBody s_compare) (defScope s_compare) .none kV10 dc10 pm10 an10 cd10 ct10 | 11 => PySem.W.fnOf "check_knots" "check_knots" (defArgs s_check_knots) (defBody s_check_knots) (defScope s_check_knots) .none kV11 dc11 pm11 an11 cd11 ct11 | 12 => PySem.W.fnOf "join_points" "join_points" (defArgs s_join_points) (defBody s_join_points) (defScope s_join_points) .none (.ref kd12) dc12 pm12 an12 (.ref cc12) ct12 | 13 => PySem.W.fnOf "is_smooth" "is_smooth" (defArgs s_is_smooth) (defBody s_is_smooth) (defScope s_is_smooth) .none kV13 dc13 pm13 an13 cd13 ct13 | 14 => PySem.W.fnOf "joined_segment" "joined_segment" (defArgs s_joined_segment) (defBody s_joined_segment) (defScope s_joined_segment) .none kV14 dc14 pm14 an14 cd14 ct14 | 15 => PySem.W.fnOf "smooth_segment" "smooth_segment" (defArgs s_smooth_segment) (defBody s_smooth_segment) (defScope s_smooth_segment) .none kV15 dc15 pm15 an15 cd15 ct15 | 16 => PySem.W.fnOf "smooth_neighbor" "smooth_neighbor" (defArgs s_smooth_neighbor) (defBody s_smooth_neighbor) (defScope s_smooth_neighbor) .none kV16 dc16 pm16 an16 cd16 ct16 | 17 => PySem.W.fnOf "way_from" "way_from" (defArgs s_way_from) (defBody s_way_from) (defScope s_way_from) .none kV17 dc17 pm17 an17 cd17 ct17 | 18 => PySem.W.fnOf "half_way" "half_way" (defArgs s_half_way) (defBody s_half_way) (defScope s_half_way) .none kV18 dc18 pm18 an18 cd18 ct18 | 19 => PySem.W.fnOf "ahead_of" "ahead_of" (defArgs s_ahead_of) (defBody s_ahead_of) (defScope s_ahead_of) .none kV19 dc19 pm19 an19 cd19 ct19 | 20 => PySem.W.fnOf "behind" "behind" (defArgs s_behind) (defBody s_behind) (defScope s_behind) .none kV20 dc20 pm20 an20 cd20 ct20 | 21 => PySem.W.fnOf "_law_cell" "_law_cell" (defArgs s__law_cell) (defBody s__law_cell) (defScope s__law_cell) .none kV21 dc21 pm21 an21 cd21 ct21 | 22 => PySem.W.fnOf "_law_stream" "_law_stream" (defArgs s__law_stream) (defBody s__law_stream) (defScope s__law_stream) .none kV22 dc22 pm22 an22 cd22 ct22 | 23 => PySem.W.fnOf "_law_next" "_law_next" (defArgs s__law_next) (defBody s__law_next) (defScope s__law_next) .none kV23 dc23 pm23 an23 cd23 ct23 | 24 => PySem.W.fnOf "_law_ratio" "_law_ratio" (defArgs s__law_ratio) (defBody s__law_ratio) (defScope s__law_ratio) .none kV24 dc24 pm24 an24 cd24 ct24 | 25 => PySem.W.fnOf "_law_sum" "_law_sum" (defArgs s__law_sum) (defBody s__law_sum) (defScope s__law_sum) .none kV25 dc25 pm25 an25 cd25 ct25 | 26 => PySem.W.fnOf "_law_difference" "_law_difference" (defArgs s__law_difference) (defBody s__law_difference) (defScope s__law_difference) .none kV26 dc26 pm26 an26 cd26 ct26 | 27 => PySem.W.fnOf "_law_product" "_law_product" (defArgs s__law_product) (defBody s__law_product) (defScope s__law_product) .none kV27 dc27 pm27 an27 cd27 ct27 | 28 => PySem.W.fnOf "_law_small" "_law_small" (defArgs s__law_small) (defBody s__law_small) (defScope s__law_small) .none kV28 dc28 pm28 an28 cd28 ct28 | 29 => PySem.W.fnOf "_law_point" "_law_point" (defArgs s__law_point) (defBody s__law_point) (defScope s__law_point) .none kV29 dc29 pm29 an29 cd29 ct29 | 30 => PySem.W.fnOf "_law_minus" "_law_minus" (defArgs s__law_minus) (defBody s__law_minus) (defScope s__law_minus) .none kV30 dc30 pm30 an30 cd30 ct30 | 31 => PySem.W.fnOf "_law_moved" "_law_moved" (defArgs s__law_moved) (defBody s__law_moved) (defScope s__law_moved) .none kV31 dc31 pm31 an31 cd31 ct31 | 32 => PySem.W.fnOf "_law_direction" "_law_direction" (defArgs s__law_direction) (defBody s__law_direction) (defScope s__law_direction) .none kV32 dc32 pm32 an32 cd32 ct32 | 33 => PySem.W.fnOf "_law_segment" "_law_segment" (defArgs s__law_segment) (defBody s__law_segment) (defScope s__law_segment) .none kV33 dc33 pm33 an33 cd33 ct33 | 34 => PySem.W.fnOf "_law_joins" "_law_joins" (defArgs s__law_joins) (defBody s__law_joins) (defScope s__law_joins) .none kV34 dc34 pm34 an34 cd34 ct34 | 35 => PySem.W.fnOf "_law_refused" "_law_refused" (defArgs s__law_refused) (defBody s__law_refused) (defScope s__law_refused) .none kV35 dc35 pm35 an35 cd35 ct35 | _ => PySem.W.fnOf "law" "law" (defArgs s_law) (defBody s_law) (defScope s_law) .none kV36 dc36 pm36 an36 cd36 ct36
  have q12 := Tg.TabAllZ.at tabs X tz12 th12
  have T : ∀ base : Heap, (∀ p ∈ [(cc12, pp12)], GxR.TabB base mg p.1 p.2) → Txt K mg A D base := fun base TB =>
    {F_ratio := F5,
     m_ratio := PySem.W.mg_of X G n5,
     b_ratio := b5,
     F_add := F6,
     m_add := PySem.W.mg_of X G n6,
     b_add := b6,
     F_subtract := F7,
     m_subtract := PySem.W.mg_of X G n7,
     b_subtract := b7,
     F_multiply := F8,
     m_multiply := PySem.W.mg_of X G n8,
     b_multiply := b8,
     F_divide := F9,
     m_divide := PySem.W.mg_of X G n9,
     b_divide := b9,
     F_compare := F10,
     m_compare := PySem.W.mg_of X G n10,
     b_compare := b10,
     F_check_knots := F11,
     m_check_knots := PySem.W.mg_of X G n11,
     b_check_knots := b11,
     F_join_points := F12,
     m_join_points := PySem.W.mg_of X G n12,
     b_join_points := b12,
     k_join_points := rfl,
     t_join_points := TB (cc12, pp12) (.head _),
     k_join_points_cycle := kb12_cycle,
     F_is_smooth := F13,
     m_is_smooth := PySem.W.mg_of X G n13,
     b_is_smooth := b13,
     F_joined_segment := F14,
     m_joined_segment := PySem.W.mg_of X G n14,
     b_joined_segment := b14,
     F_smooth_segment := F15,
     m_smooth_segment := PySem.W.mg_of X G n15,
     b_smooth_segment := b15,
     F_smooth_neighbor := F16,
     m_smooth_neighbor := PySem.W.mg_of X G n16,
     b_smooth_neighbor := b16,
     F_way_from := F17,
     m_way_from := PySem.W.mg_of X G n17,
     b_way_from := b17,
     F_half_way := F18,
     m_half_way := PySem.W.mg_of X G n18,
     b_half_way := b18,
     F_ahead_of := F19,
     m_ahead_of := PySem.W.mg_of X G n19,
     b_ahead_of := b19,
     F_behind := F20,
     m_behind := PySem.W.mg_of X G n20,
     b_behind := b20,
     F__law_cell := F21,
     m__law_cell := PySem.W.mg_of X G n21,
     b__law_cell := b21,
     F__law_stream := F22,
     m__law_stream := PySem.W.mg_of X G n22,
     b__law_stream := b22,
     F__law_next := F23,
     m__law_next := PySem.W.mg_of X G n23,
     b__law_next := b23,
     F__law_ratio := F24,
     m__law_ratio := PySem.W.mg_of X G n24,
     b__law_ratio := b24,
     F__law_sum := F25,
     m__law_sum := PySem.W.mg_of X G n25,
     b__law_sum := b25,
     F__law_difference := F26,
     m__law_difference := PySem.W.mg_of X G n26,
     b__law_difference := b26,
     F__law_product := F27,
     m__law_product := PySem.W.mg_of X G n27,
     b__law_product := b27,
     F__law_small := F28,
     m__law_small := PySem.W.mg_of X G n28,
     b__law_small := b28,
     F__law_point := F29,
     m__law_point := PySem.W.mg_of X G n29,
     b__law_point := b29,
     F__law_minus := F30,
     m__law_minus := PySem.W.mg_of X G n30,
     b__law_minus := b30,
     F__law_moved := F31,
     m__law_moved := PySem.W.mg_of X G n31,
     b__law_moved := b31,
     F__law_direction := F32,
     m__law_direction := PySem.W.mg_of X G n32,
     b__law_direction := b32,
     F__law_segment := F33,
     m__law_segment := PySem.W.mg_of X G n33,
     b__law_segment := b33,
     F__law_joins := F34,
     m__law_joins := PySem.W.mg_of X G n34,
     b__law_joins := b34,
     F__law_refused := F35,
     m__law_refused := PySem.W.mg_of X G n35,
     b__law_refused := b35,
     F_law := F36,
     m_law := PySem.W.mg_of X G n36,
     b_law := b36,
     x_FontError := ⟨PySem.W.mg_of X G xg0, xq0, xk0, xt0, ⟨xa0, xb0, xc0, xd0, xe0, xm, xn, xf0⟩, xv0⟩,
     x_TooGreat := ⟨PySem.W.mg_of X G xg1, xq1, xk1, xt1, ⟨xa1, xb1, xc1, xd1, xe1, xm, xn, xf1⟩, xv1⟩,
     x_DivisionByZero := ⟨PySem.W.mg_of X G xg2, xq2, xk2, xt2, ⟨xa2, xb2, xc2, xd2, xe2, xm, xn, xf2⟩, xv2⟩,
     x_OutOfRange := ⟨PySem.W.mg_of X G xg3, xq3, xk3, xt3, ⟨xa3, xb3, xc3, xd3, xe3, xm, xn, xf3⟩, xv3⟩,
     x_TooMany := ⟨PySem.W.mg_of X G xg4, xq4, xk4, xt4, ⟨xa4, xb4, xc4, xd4, xe4, xm, xn, xf4⟩, xv4⟩,
     e_FontError_FontError := e0_0,
     e_FontError_TooGreat := e0_1,
     e_FontError_DivisionByZero := e0_2,
     e_FontError_OutOfRange := e0_3,
     e_FontError_TooMany := e0_4,
     e_TooGreat_FontError := e1_0,
     e_TooGreat_TooGreat := e1_1,
     e_TooGreat_DivisionByZero := e1_2,
     e_TooGreat_OutOfRange := e1_3,
     e_TooGreat_TooMany := e1_4,
     e_DivisionByZero_FontError := e2_0,
     e_DivisionByZero_TooGreat := e2_1,
     e_DivisionByZero_DivisionByZero := e2_2,
     e_DivisionByZero_OutOfRange := e2_3,
     e_DivisionByZero_TooMany := e2_4,
     e_OutOfRange_FontError := e3_0,
     e_OutOfRange_TooGreat := e3_1,
     e_OutOfRange_DivisionByZero := e3_2,
     e_OutOfRange_OutOfRange := e3_3,
     e_OutOfRange_TooMany := e3_4,
     e_TooMany_FontError := e4_0,
     e_TooMany_TooGreat := e4_1,
     e_TooMany_DivisionByZero := e4_2,
     e_TooMany_OutOfRange := e4_3,
     e_TooMany_TooMany := e4_4,
     z_abs := PySem.W.mg_none_of X G z_abs,
     z_bool := PySem.W.mg_none_of X G z_bool,
     z_int := PySem.W.mg_none_of X G z_int,
     z_isinstance := PySem.W.mg_none_of X G z_isinstance,
     z_len := PySem.W.mg_none_of X G z_len,
     z_list := PySem.W.mg_none_of X G z_list,
     z_range := PySem.W.mg_none_of X G z_range,
     z_tuple := PySem.W.mg_none_of X G z_tuple,
     l_gcd := PySem.W.mg_of X G l_gcd,
     c_ONE := PySem.W.mg_of X G ntONE,
     d_ONE := fun H => (Z.dpk (vs := [.int (1), .int (1)]) ktONE_0 (Nat.le_of_ble_eq_true rfl) (.cons ⟨_, rfl⟩ (.cons ⟨_, rfl⟩ .nil)) (.cons (.int _) (.cons (.int _) .nil))),
     c_LEAST_TENSION := PySem.W.mg_of X G ntLEAST_TENSION,
     d_LEAST_TENSION := fun H => (Z.dpk (vs := [.int (3), .int (4)]) ktLEAST_TENSION_0 (Nat.le_of_ble_eq_true rfl) (.cons ⟨_, rfl⟩ (.cons ⟨_, rfl⟩ .nil)) (.cons (.int _) (.cons (.int _) .nil))),
     c_HALF := PySem.W.mg_of X G ntHALF,
     d_HALF := fun H => (Z.dpk (vs := [.int (1), .int (2)]) ktHALF_0 (Nat.le_of_ble_eq_true rfl) (.cons ⟨_, rfl⟩ (.cons ⟨_, rfl⟩ .nil)) (.cons (.int _) (.cons (.int _) .nil))),
     c_THREE := PySem.W.mg_of X G ntTHREE,
     d_THREE := fun H => (Z.dpk (vs := [.int (3), .int (1)]) ktTHREE_0 (Nat.le_of_ble_eq_true rfl) (.cons ⟨_, rfl⟩ (.cons ⟨_, rfl⟩ .nil)) (.cons (.int _) (.cons (.int _) .nil))),
     c_LIMIT := ⟨_, PySem.W.mg_of X G c_LIMIT, _, rfl⟩,
     c_MOST_KNOTS := ⟨_, PySem.W.mg_of X G c_MOST_KNOTS, _, rfl⟩}
  exact ⟨_, [(cc12, pp12)], sp_law K pp12, (List.forall_mem_cons.mpr ⟨q12.1, fun _ h => nomatch h⟩), (List.forall_mem_cons.mpr ⟨tn12, fun _ h => nomatch h⟩), (List.forall_mem_cons.mpr ⟨q12.2, fun _ h => nomatch h⟩), fun s v => .of_eq rfl, fun H a ns hl _ hH hS => ⟨a, ns, rfl, hS, hl, ⟨#[], hH (cc12, pp12) (.head _), by simp [TriplesOk]⟩, fun _ => rfl⟩, fun base _ _ TB => ok_law (T base fun p hp => ⟨(TB p hp).1, (TB p hp).2, (TB p hp).3⟩)⟩
end G
open PySem PySem.W PyProof.Rows
local macro_rules | `(tactic| o_head ($_:term $k:term $a:term $_:term)) => `(tactic| o_head (Tg.hookT [159] $k $a (fun _ => by kernel_rfl)))
set_option maxRecDepth 100000 in
set_option maxHeartbeats 0 in
theorem PySem.Challenge.cw_fontwinding_k16_joined_points_holds : PySem.Challenge.rw_fontwinding_k16_joined_points.Holds := by
  w_on; o_law; k_head; (case hw => w_witness2)
  k_fill
  refine Tg.walk_tabsZ [159] (l := PySem.Challenge.rw_fontwinding_k16_joined_points) (n := 63) (k := 10) (x := "script") (CX := fun _ => L2.CX0) rfl (by decide) rfl ⟨rfl, by decide, by decide⟩ (fun w h Y => Y) ?F (fun _ _ _ _ _ h => h)
  case F =>
    intro w mg fa h KX G0 hmg tabs
    refine' G.all_mk KX G0 hmg tabs ?n5 ?l5 ?c5 ?k5 ?n6 ?l6 ?c6 ?k6 ?n7 ?l7 ?c7 ?k7 ?n8 ?l8 ?c8 ?k8 ?n9 ?l9 ?c9 ?k9 ?n10 ?l10 ?c10 ?k10 ?n11 ?l11 ?c11 ?k11 ?n12 ?l12 ?c12 ?k12 ?tl12 ?tv12 ?tn12 ?tz12 ?th12 ?kw12_cycle ?n13 ?l13 ?c13 ?k13 ?n14 ?l14 ?c14 ?k14 ?n15 ?l15 ?c15 ?k15 ?n16 ?l16 ?c16 ?k16 ?n17 ?l17 ?c17 ?k17 ?n18 ?l18 ?c18 ?k18 ?n19 ?l19 ?c19 ?k19 ?n20 ?l20 ?c20 ?k20 ?n21 ?l21 ?c21 ?k21 ?n22 ?l22 ?c22 ?k22 ?n23 ?l23 ?c23 ?k23 ?n24 ?l24 ?c24 ?k24 ?n25 ?l25 ?c25 ?k25 ?n26 ?l26 ?c26 ?k26 ?n27 ?l27 ?c27 ?k27 ?n28 ?l28 ?c28 ?k28 ?n29 ?l29 ?c29 ?k29 ?n30 ?l30 ?c30 ?k30 ?n31 ?l31 ?c31 ?k31 ?n32 ?l32 ?c32 ?k32 ?n33 ?l33 ?c33 ?k33 ?n34 ?l34 ?c34 ?k34 ?n35 ?l35 ?c35 ?k35 ?n36 ?l36 ?c36 ?k36 ?xg0 ?xq0 ?xk0 ?xt0 ?xa0 ?xb0 ?xc0 ?xd0 ?xe0 ?xf0 ?xv0 ?xg1 ?xq1 ?xk1 ?xt1 ?xa1 ?xb1 ?xc1 ?xd1 ?xe1 ?xf1 ?xv1 ?xg2 ?xq2 ?xk2 ?xt2 ?xa2 ?xb2 ?xc2 ?xd2 ?xe2 ?xf2 ?xv2 ?xg3 ?xq3 ?xk3 ?xt3 ?xa3 ?xb3 ?xc3 ?xd3 ?xe3 ?xf3 ?xv3 ?xg4 ?xq4 ?xk4 ?xt4 ?xa4 ?xb4 ?xc4 ?xd4 ?xe4 ?xf4 ?xv4 ?xm ?xn ?e0_0 ?e0_1 ?e0_2 ?e0_3 ?e0_4 ?e1_0 ?e1_1 ?e1_2 ?e1_3 ?e1_4 ?e2_0 ?e2_1 ?e2_2 ?e2_3 ?e2_4 ?e3_0 ?e3_1 ?e3_2 ?e3_3 ?e3_4 ?e4_0 ?e4_1 ?e4_2 ?e4_3 ?e4_4 ?z_abs ?z_bool ?z_int ?z_isinstance ?z_len ?z_list ?z_range ?z_tuple ?l_gcd ?c_LIMIT ?c_MOST_KNOTS ?ntONE ?ktONE_0 ?ntLEAST_TENSION ?ktLEAST_TENSION_0 ?ntHALF ?ktHALF_0 ?ntTHREE ?ktTHREE_0
    (case n5 => k_is)
    (case l5 => k_is)
    (case c5 => k_is)
    (case k5 => k_is)
    (case n6 => k_is)
    (case l6 => k_is)
    (case c6 => k_is)
    (case k6 => k_is)
    (case n7 => k_is)
    (case l7 => k_is)
    (case c7 => k_is)
    (case k7 => k_is)
    (case n8 => k_is)
    (case l8 => k_is)
    (case c8 => k_is)
    (case k8 => k_is)
    (case n9 => k_is)
    (case l9 => k_is)
    (case c9 => k_is)
    (case k9 => k_is)
    (case n10 => k_is)
    (case l10 => k_is)
    (case c10 => k_is)
    (case k10 => k_is)
    (case n11 => k_is)
    (case l11 => k_is)
    (case c11 => k_is)
    (case k11 => k_is)
    (case n12 => k_is)
    (case l12 => k_is)
    (case c12 => k_is)
    (case k12 => k_is)
    (case tl12 => k_is)
    (case tv12 => exact rfl)
    (case tn12 => kernel_rfl)
    (case tz12 => (first | decide | (trace_state; fail)))
    (case th12 => kernel_rfl)
    (case kw12_cycle => k_is)
    (case n13 => k_is)
    (case l13 => k_is)
    (case c13 => k_is)
    (case k13 => k_is)
    (case n14 => k_is)
    (case l14 => k_is)
    (case c14 => k_is)
    (case k14 => k_is)
    (case n15 => k_is)
    (case l15 => k_is)
    (case c15 => k_is)
    (case k15 => k_is)
    (case n16 => k_is)
    (case l16 => k_is)
    (case c16 => k_is)
    (case k16 => k_is)
    (case n17 => k_is)
    (case l17 => k_is)
    (case c17 => k_is)
    (case k17 => k_is)
    (case n18 => k_is)
    (case l18 => k_is)
    (case c18 => k_is)
    (case k18 => k_is)
    (case n19 => k_is)
    (case l19 => k_is)
    (case c19 => k_is)
    (case k19 => k_is)
    (case n20 => k_is)
    (case l20 => k_is)
    (case c20 => k_is)
    (case k20 => k_is)
    (case n21 => k_is)
    (case l21 => k_is)
    (case c21 => k_is)
    (case k21 => k_is)
    (case n22 => k_is)
    (case l22 => k_is)
    (case c22 => k_is)
    (case k22 => k_is)
    (case n23 => k_is)
    (case l23 => k_is)
    (case c23 => k_is)
    (case k23 => k_is)
    (case n24 => k_is)
    (case l24 => k_is)
    (case c24 => k_is)
    (case k24 => k_is)
    (case n25 => k_is)
    (case l25 => k_is)
    (case c25 => k_is)
    (case k25 => k_is)
    (case n26 => k_is)
    (case l26 => k_is)
    (case c26 => k_is)
    (case k26 => k_is)
    (case n27 => k_is)
    (case l27 => k_is)
    (case c27 => k_is)
    (case k27 => k_is)
    (case n28 => k_is)
    (case l28 => k_is)
    (case c28 => k_is)
    (case k28 => k_is)
    (case n29 => k_is)
    (case l29 => k_is)
    (case c29 => k_is)
    (case k29 => k_is)
    (case n30 => k_is)
    (case l30 => k_is)
    (case c30 => k_is)
    (case k30 => k_is)
    (case n31 => k_is)
    (case l31 => k_is)
    (case c31 => k_is)
    (case k31 => k_is)
    (case n32 => k_is)
    (case l32 => k_is)
    (case c32 => k_is)
    (case k32 => k_is)
    (case n33 => k_is)
    (case l33 => k_is)
    (case c33 => k_is)
    (case k33 => k_is)
    (case n34 => k_is)
    (case l34 => k_is)
    (case c34 => k_is)
    (case k34 => k_is)
    (case n35 => k_is)
    (case l35 => k_is)
    (case c35 => k_is)
    (case k35 => k_is)
    (case n36 => k_is)
    (case l36 => k_is)
    (case c36 => k_is)
    (case k36 => k_is)
    (case xg0 => k_is)
    (case xq0 => k_exc)
    (case xk0 => k_is)
    (case xt0 => k_is)
    (case xa0 => k_is)
    (case xb0 => k_is)
    (case xc0 => k_is)
    (case xd0 => k_is)
    (case xe0 => k_is)
    (case xf0 => k_is)
    (case xv0 => k_is)
    (case xg1 => k_is)
    (case xq1 => k_exc)
    (case xk1 => k_is)
    (case xt1 => k_is)
    (case xa1 => k_is)
    (case xb1 => k_is)
    (case xc1 => k_is)
    (case xd1 => k_is)
    (case xe1 => k_is)
    (case xf1 => k_is)
    (case xv1 => k_is)
    (case xg2 => k_is)
    (case xq2 => k_exc)
    (case xk2 => k_is)
    (case xt2 => k_is)
    (case xa2 => k_is)
    (case xb2 => k_is)
    (case xc2 => k_is)
    (case xd2 => k_is)
    (case xe2 => k_is)
    (case xf2 => k_is)
    (case xv2 => k_is)
    (case xg3 => k_is)
    (case xq3 => k_exc)
    (case xk3 => k_is)
    (case xt3 => k_is)
    (case xa3 => k_is)
    (case xb3 => k_is)
    (case xc3 => k_is)
    (case xd3 => k_is)
    (case xe3 => k_is)
    (case xf3 => k_is)
    (case xv3 => k_is)
    (case xg4 => k_is)
    (case xq4 => k_exc)
    (case xk4 => k_is)
    (case xt4 => k_is)
    (case xa4 => k_is)
    (case xb4 => k_is)
    (case xc4 => k_is)
    (case xd4 => k_is)
    (case xe4 => k_is)
    (case xf4 => k_is)
    (case xv4 => k_is)
    (case xm => k_is)
    (case xn => k_is)
    (case e0_0 => k_is)
    (case e0_1 => k_is)
    (case e0_2 => k_is)
    (case e0_3 => k_is)
    (case e0_4 => k_is)
    (case e1_0 => k_is)
    (case e1_1 => k_is)
    (case e1_2 => k_is)
    (case e1_3 => k_is)
    (case e1_4 => k_is)
    (case e2_0 => k_is)
    (case e2_1 => k_is)
    (case e2_2 => k_is)
    (case e2_3 => k_is)
    (case e2_4 => k_is)
    (case e3_0 => k_is)
    (case e3_1 => k_is)
    (case e3_2 => k_is)
    (case e3_3 => k_is)
    (case e3_4 => k_is)
    (case e4_0 => k_is)
    (case e4_1 => k_is)
    (case e4_2 => k_is)
    (case e4_3 => k_is)
    (case e4_4 => k_is)
    (case z_abs => k_is)
    (case z_bool => k_is)
    (case z_int => k_is)
    (case z_isinstance => k_is)
    (case z_len => k_is)
    (case z_list => k_is)
    (case z_range => k_is)
    (case z_tuple => k_is)
    (case l_gcd => k_is)
    (case c_LIMIT => k_is)
    (case c_MOST_KNOTS => k_is)
    (case ntONE => k_is)
    (case ktONE_0 => k_is)
    (case ntLEAST_TENSION => k_is)
    (case ktLEAST_TENSION_0 => k_is)
    (case ntHALF => k_is)
    (case ktHALF_0 => k_is)
    (case ntTHREE => k_is)
    (case ktTHREE_0 => k_is)
