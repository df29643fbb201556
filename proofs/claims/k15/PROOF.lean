import PyProof.Rows.All
import Wide.All
import OpenK.AllK
import Wide.FinOn
import HandS.GenOver
import HandS.GenList
import HandS.Zip
import HandS.ForMost
import HandS.ForExc
import HandS.Wide
import HandS.Gcd
import HandS.IsInst
import HandS.ExcIs
import HandS.TryMany
import HandS.Evl
import HandS.Style
import HandS.SetBool
import HandS.Strs
import HandS.SortInts
import PyProof.ListIndex
import PyProof.ListIndexNeg
import HandS.Defaults
import HandS.MakeKwOnly
import HandS.Property
import HandS.Walk
import HandS.CallSlots
import HandS.Comp
import HandS.AnyAll
import PyProof.TupleOfGen
import HandS.EndOwn
import HandS.WordsExc
import HandS.TupAny
import HandS.FStr
import HandS.RaiseMore
import HandS.TupMul
import KE.KNestM
import OpenK.KWalk
import PySem.Challenge.RW_fontwinding_k15_subpaths
set_option Elab.async false
set_option linter.all false
set_option maxRecDepth 100000
set_option maxHeartbeats 4000000
/-! Sw: what runs while generators sleep leaves them as they are. Each sleeper is put in the place of one that cannot be woken; a run that ends there has woken none, so it ends alike with the sleepers themselves. -/
namespace Sw
open PySem
open Sem (wp)
/-- asleep, and without a way on -/
def St (x : GenState) : Prop := ∃ (w : String) (l : List Value) (c : Code) (p : Pos) (fs : List Frame) (cl : Bool), x = .suspended (fun _ => .unsupported w) l c p fs cl
def NG (x : GenState) : Prop := ∀ k l c p fs cl, x = .suspended k l c p fs cl → splitAtGen fs = none
def Rl (x y : GenState) : Prop := (x = y ∧ NG x) ∨ (St x ∧ x.seen = y.seen ∧ x.bare = y.bare)
structure GR (a b : Array GenState) : Prop where
  sz : b.size = a.size
  rl : ∀ (i : Nat) x y, a[i]? = some x → b[i]? = some y → Rl x y
structure Kp (a b c d : Array GenState) : Prop where
  kp : ∀ (i : Nat) x, a[i]? = some x → St x → c[i]? = some x ∧ d[i]? = b[i]?
theorem st_fresh {c : Code} : ¬ St (.fresh c) := by rintro ⟨_, _, _, _, _, _, e⟩; cases e
theorem st_run : ¬ St .running := by rintro ⟨_, _, _, _, _, _, e⟩; cases e
theorem st_fin : ¬ St .finished := by rintro ⟨_, _, _, _, _, _, e⟩; cases e
theorem rl_self {x : GenState} (h : NG x) : Rl x x := .inl ⟨rfl, h⟩
theorem ng_run : NG .running := by intro _ _ _ _ _ _ e; cases e
theorem ng_fin : NG .finished := by intro _ _ _ _ _ _ e; cases e
theorem ng_fresh {c : Code} : NG (.fresh c) := by intro _ _ _ _ _ _ e; cases e
variable {a b c d e f : Array GenState} {g : Nat} {x y : GenState}
theorem GR.get (h : GR a b) (e : a[g]? = some x) : ∃ y, b[g]? = some y ∧ Rl x y := by
  have hg : g < a.size := (Array.getElem?_eq_some_iff.mp e).1
  have hb : g < b.size := by rw [h.sz]; exact hg
  exact ⟨b[g], Array.getElem?_eq_getElem hb, h.rl g x _ e (Array.getElem?_eq_getElem hb)⟩
theorem GR.awake (h : GR a b) (e : a[g]? = some x) (n : ¬ St x) : b[g]? = some x ∧ NG x := by
  obtain ⟨y, hy, r⟩ := h.get e
  rcases r with ⟨rfl, ng⟩ | ⟨s, _⟩
  · exact ⟨hy, ng⟩
  · exact absurd s n
theorem get_set {i : Nat} : (a.setIfInBounds g x)[i]? = if i = g then (if g < a.size then some x else none) else a[i]? := by
  by_cases h : i = g
  · subst h
    rw [if_pos rfl]
    by_cases h2 : i < a.size
    · rw [if_pos h2]; simp [h2]
    · rw [if_neg h2]; simp [h2]
  · rw [if_neg h, Array.getElem?_setIfInBounds_ne (Ne.symm h)]
theorem GR.set (h : GR a b) (r : Rl x y) : GR (a.setIfInBounds g x) (b.setIfInBounds g y) := by
  refine ⟨by rw [Array.size_setIfInBounds, Array.size_setIfInBounds, h.sz], fun i u v e1 e2 => ?_⟩
  rw [get_set] at e1 e2
  by_cases z : i = g
  · rw [if_pos z] at e1 e2
    rw [h.sz] at e2
    by_cases z2 : g < a.size
    · rw [if_pos z2] at e1 e2
      cases e1; cases e2; exact r
    · rw [if_neg z2] at e1
      cases e1
  · rw [if_neg z] at e1 e2
    exact h.rl i u v e1 e2
theorem GR.push (h : GR a b) (r : Rl x y) : GR (a.push x) (b.push y) := by
  refine ⟨by rw [Array.size_push, Array.size_push, h.sz], fun i u v e1 e2 => ?_⟩
  rw [Array.getElem?_push] at e1 e2
  rw [h.sz] at e2
  split at e1
  · rename_i z
    rw [if_pos z] at e2
    cases e1; cases e2; exact r
  · rename_i z
    rw [if_neg z] at e2
    exact h.rl i u v e1 e2
theorem Kp.refl : Kp a b a b := ⟨fun _ _ e _ => ⟨e, rfl⟩⟩
theorem Kp.trans (h : Kp a b c d) (k : Kp c d e f) : Kp a b e f := ⟨fun i x ex sx => by
  obtain ⟨h1, h2⟩ := h.kp i x ex sx
  obtain ⟨k1, k2⟩ := k.kp i x h1 sx
  exact ⟨k1, k2.trans h2⟩⟩
theorem Kp.pushed (h : GR a b) : Kp a b (a.push x) (b.push y) := ⟨fun i u e _ => by
  have hi : i < a.size := (Array.getElem?_eq_some_iff.mp e).1
  rw [Array.getElem?_push, Array.getElem?_push, if_neg (by omega), if_neg (by rw [h.sz]; omega)]
  exact ⟨e, rfl⟩⟩
/-- one that is awake is set -/
theorem Kp.setr (k : Kp a b c d) (n : ∀ z, a[g]? = some z → ¬ St z) : Kp a b (c.setIfInBounds g x) (d.setIfInBounds g y) := ⟨fun i u e su => by
  have hne : i ≠ g := fun z => n u (by rw [← z]; exact e) su
  obtain ⟨h1, h2⟩ := k.kp i u e su
  rw [get_set, get_set, if_neg hne, if_neg hne]
  exact ⟨h1, h2⟩⟩
theorem Kp.setl (k : Kp (a.setIfInBounds g x) (b.setIfInBounds g y) c d) (n : ∀ z, a[g]? = some z → ¬ St z) : Kp a b c d := ⟨fun i u e su => by
  have hne : i ≠ g := fun z => n u (by rw [← z]; exact e) su
  obtain ⟨h1, h2⟩ := k.kp i u (by rw [get_set, if_neg hne]; exact e) su
  rw [get_set, if_neg hne] at h2
  exact ⟨h1, h2⟩⟩
theorem split_ret {k : Result → Sem Fin} {h : Option Value} {g : Bool} {l : List Value} {c : Code} {p : Pos} {kp : List Value} {fs : List Frame} (e : splitAtGen (.ret k h g l c p kp :: fs) = none) : splitAtGen fs = none := by
  have e : (splitAtGen fs).map _ = none := e
  cases q : splitAtGen fs with
  | none => rfl
  | some z => rw [q] at e; cases e
theorem split_gen {n : Nat} {k : GenResult → Sem Fin} {l : List Value} {c : Code} {p : Pos} {fs : List Frame} (e : splitAtGen (.gen n k l c p :: fs) = none) : False := by
  cases (show some _ = none from e)
theorem split_app : ∀ {fs gs : List Frame}, splitAtGen fs = none → splitAtGen gs = none → splitAtGen (fs ++ gs) = none
  | [], _, _, h => h
  | .gen .. :: _, _, h, _ => (split_gen h).elim
  | .ret k h g l c p kp :: fs, gs, h1, h2 => by
    show (splitAtGen (fs ++ gs)).map _ = none
    rw [split_app (split_ret h1) h2]
    rfl
def NGE : End → Prop
  | .ret _ => True
  | .susp _ _ _ _ _ _ fs => splitAtGen fs = none
theorem nge_gen {e : End} (h : NGE e) : NG e.genState := by
  cases e with
  | ret r => exact ng_fin
  | susp v g l k c p fs =>
    intro k' l' c' p' fs' cl' q
    cases q
    exact h
/-- nothing that cannot go on ends -/
theorem no_run {M : Model} {Γ : Ctx} {p : Pos} {t : Sem Fin} {fs : List Frame} {s s' : Shared} {e : End} (h : Runs M Γ p t fs s e s') : ∀ w, t ≠ .unsupported w := by
  induction h with
  | segRet _ _ ih _ => exact ih
  | segGen _ _ ih _ => exact ih
  | segSuspOut _ _ ih => exact ih
  | segSuspGen _ _ _ _ ih _ => exact ih
  | _ => intro w z; cases z
theorem not_st {M : Model} {Γ : Ctx} {p : Pos} {r : Resume} {k : Resume → Sem Fin} {l : List Value} {c : Code} {p0 : Pos} {fs : List Frame} {cl : Bool} {s s' : Shared} {e : End} (h : Runs M Γ p (k r) fs s e s') : ¬ St (.suspended k l c p0 fs cl) := by
  rintro ⟨w, _, _, _, _, _, z⟩
  cases z
  exact no_run h w rfl
theorem runs_sw {M : Model} {Γ : Ctx} {p : Pos} {t : Sem Fin} {fs : List Frame} {s s' : Shared} {e : End} (h : Runs M Γ p t fs s e s') : splitAtGen fs = none → ∀ G, GR s.gens G →
    ∃ G', Runs M Γ p t fs { s with gens := G } e { s' with gens := G' } ∧ GR s'.gens G' ∧ NGE e ∧ Kp s.gens G s'.gens G' := by
  induction h with
  | done => intro _ G hG; exact ⟨G, .done, hG, trivial, .refl⟩
  | raise => intro _ G hG; exact ⟨G, .raise, hG, trivial, .refl⟩
  | again q _ ih => intro hf G hG; obtain ⟨G', r, a1, a2, a3⟩ := ih hf G hG; exact ⟨G', .again q r, a1, a2, a3⟩
  | rule _ ih => intro hf G hG; obtain ⟨G', r, a1, a2, a3⟩ := ih hf G hG; exact ⟨G', .rule r, a1, a2, a3⟩
  | «at» _ ih => intro hf G hG; obtain ⟨G', r, a1, a2, a3⟩ := ih hf G hG; exact ⟨G', .at r, a1, a2, a3⟩
  | load q _ ih => intro hf G hG; obtain ⟨G', r, a1, a2, a3⟩ := ih hf G hG; exact ⟨G', .load q r, a1, a2, a3⟩
  | update q _ ih => intro hf G hG; obtain ⟨G', r, a1, a2, a3⟩ := ih hf G hG; exact ⟨G', .update q r, a1, a2, a3⟩
  | loadIfAlive _ ih => intro hf G hG; obtain ⟨G', r, a1, a2, a3⟩ := ih hf G hG; exact ⟨G', .loadIfAlive r, a1, a2, a3⟩
  | point _ ih => intro hf G hG; obtain ⟨G', r, a1, a2, a3⟩ := ih hf G hG; exact ⟨G', .point r, a1, a2, a3⟩
  | alloc _ ih => intro hf G hG; obtain ⟨G', r, a1, a2, a3⟩ := ih hf G hG; exact ⟨G', .alloc r, a1, a2, a3⟩
  | fresh _ ih => intro hf G hG; obtain ⟨G', r, a1, a2, a3⟩ := ih hf G hG; exact ⟨G', .fresh r, a1, a2, a3⟩
  | ask _ ih => intro hf G hG; obtain ⟨G', r, a1, a2, a3⟩ := ih hf G hG; exact ⟨G', .ask r, a1, a2, a3⟩
  | choose q _ ih => intro hf G hG; obtain ⟨G', r, a1, a2, a3⟩ := ih hf G hG; exact ⟨G', .choose q r, a1, a2, a3⟩
  | os _ ih => intro hf G hG; obtain ⟨G', r, a1, a2, a3⟩ := ih hf G hG; exact ⟨G', .os r, a1, a2, a3⟩
  | handled _ ih => intro hf G hG; obtain ⟨G', r, a1, a2, a3⟩ := ih hf G hG; exact ⟨G', .handled r, a1, a2, a3⟩
  | genState q _ ih =>
    intro hf G hG
    obtain ⟨G', r, a1, a2, a3⟩ := ih hf G hG
    obtain ⟨y, hy, rl⟩ := hG.get q
    rcases rl with ⟨rfl, _⟩ | ⟨_, z, _⟩
    · exact ⟨G', .genState hy r, a1, a2, a3⟩
    · rw [z] at r
      exact ⟨G', .genState hy r, a1, a2, a3⟩
  | stack _ ih => intro hf G hG; obtain ⟨G', r, a1, a2, a3⟩ := ih hf G hG; exact ⟨G', .stack r, a1, a2, a3⟩
  | thread _ ih => intro hf G hG; obtain ⟨G', r, a1, a2, a3⟩ := ih hf G hG; exact ⟨G', .thread r, a1, a2, a3⟩
  | newGen _ ih =>
    intro hf G hG
    obtain ⟨G', r, a1, a2, a3⟩ := ih hf _ (hG.push (rl_self ng_fresh))
    rw [← hG.sz] at r
    exact ⟨G', .newGen r, a1, a2, (Kp.pushed hG).trans a3⟩
  | call _ _ ih1 ih2 =>
    intro hf G hG
    obtain ⟨G1, r1, a1, a2, a3⟩ := ih1 rfl G hG
    obtain ⟨G2, r2, b1, b2, b3⟩ := ih2 rfl G1 a1
    exact ⟨G2, .call r1 r2, b1, b2, a3.trans b3⟩
  | callSusp _ ih =>
    intro hf G hG
    obtain ⟨G1, r1, a1, a2, a3⟩ := ih rfl G hG
    exact ⟨G1, .callSusp r1, a1, split_app a2 rfl, a3⟩
  | yield => intro hf G hG; exact ⟨G, .yield, hG, rfl, .refl⟩
  | @resumeFresh Γ p g l k s c e1 s1 e s' q _ hq _ ih1 ih2 =>
    intro hf G hG
    obtain ⟨hy, _⟩ := hG.awake q st_fresh
    have na : ∀ z, s.gens[g]? = some z → ¬ St z := fun z hz => by rw [q] at hz; cases hz; exact st_fresh
    obtain ⟨G1, r1, a1, a2, a3⟩ := ih1 rfl _ (hG.set (g := g) (rl_self ng_run))
    obtain ⟨G2, r2, b1, b2, b3⟩ := ih2 hf _ (a1.set (g := g) (rl_self (nge_gen a2)))
    exact ⟨G2, .resumeFresh hy r1 hq r2, b1, b2, ((Kp.setl a3 na).setr na).trans b3⟩
  | @resumeSuspended Γ p g r l k s k0 l0 c0 p0 fs cl e1 s1 e s' q h1 hq _ ih1 ih2 =>
    intro hf G hG
    obtain ⟨hy, ng⟩ := hG.awake q (not_st h1)
    have na : ∀ z, s.gens[g]? = some z → ¬ St z := fun z hz => by rw [q] at hz; cases hz; exact not_st h1
    obtain ⟨G1, r1, a1, a2, a3⟩ := ih1 (ng _ _ _ _ _ _ rfl) _ (hG.set (g := g) (rl_self ng_run))
    obtain ⟨G2, r2, b1, b2, b3⟩ := ih2 hf _ (a1.set (g := g) (rl_self (nge_gen a2)))
    exact ⟨G2, .resumeSuspended hy r1 hq r2, b1, b2, ((Kp.setl a3 na).setr na).trans b3⟩
  | resumeJustStarted q n _ ih =>
    intro hf G hG
    obtain ⟨hy, _⟩ := hG.awake q st_fresh
    obtain ⟨G', r, a1, a2, a3⟩ := ih hf G hG
    exact ⟨G', .resumeJustStarted hy n r, a1, a2, a3⟩
  | resumeThrowFresh q _ ih =>
    intro hf G hG
    obtain ⟨hy, _⟩ := hG.awake q st_fresh
    obtain ⟨G', r, a1, a2, a3⟩ := ih hf _ (hG.set (rl_self ng_fin))
    exact ⟨G', .resumeThrowFresh hy r, a1, a2, Kp.setl a3 (fun z hz => by rw [q] at hz; cases hz; exact st_fresh)⟩
  | resumeRunning q _ ih =>
    intro hf G hG
    obtain ⟨hy, _⟩ := hG.awake q st_run
    obtain ⟨G', r, a1, a2, a3⟩ := ih hf G hG
    exact ⟨G', .resumeRunning hy r, a1, a2, a3⟩
  | resumeFinished q _ ih =>
    intro hf G hG
    obtain ⟨hy, _⟩ := hG.awake q st_fin
    obtain ⟨G', r, a1, a2, a3⟩ := ih hf G hG
    exact ⟨G', .resumeFinished hy r, a1, a2, a3⟩
  | segRet _ _ ih1 ih2 =>
    intro hf G hG
    obtain ⟨G1, r1, a1, a2, a3⟩ := ih1 rfl G hG
    obtain ⟨G2, r2, b1, b2, b3⟩ := ih2 (split_ret hf) G1 a1
    exact ⟨G2, .segRet r1 r2, b1, b2, a3.trans b3⟩
  | segGen _ _ _ _ => intro hf; exact (split_gen hf).elim
  | segSuspOut q _ ih =>
    intro hf G hG
    obtain ⟨G1, r1, a1, a2, a3⟩ := ih rfl G hG
    exact ⟨G1, .segSuspOut q r1, a1, split_app a2 q, a3⟩
  | segSuspGen q _ _ _ _ _ => intro hf; rw [hf] at q; cases q
theorem returns_sw {M : Model} {Γ : Ctx} {p : Pos} {s s' : Shared} {r : Result} (h : Returns M Γ p s r s') {G : Array GenState} (hG : GR s.gens G) :
    ∃ G', Returns M Γ p { s with gens := G } r { s' with gens := G' } ∧ GR s'.gens G' ∧ Kp s.gens G s'.gens G' := by
  obtain ⟨G', a, b, _, d⟩ := runs_sw h rfl G hG
  exact ⟨G', a, b, d⟩
theorem wakes_sw {M : Model} {Γ : Ctx} {p : Pos} {g : Nat} {r : Resume} {s s' : Shared} {res : GenResult} (h : Wakes M Γ p g r s res s') {G : Array GenState} (hG : GR s.gens G) :
    ∃ G', Wakes M Γ p g r { s with gens := G } res { s' with gens := G' } ∧ GR s'.gens G' ∧ Kp s.gens G s'.gens G' := by
  unfold Wakes at h
  split at h
  · exact h.elim
  · rename_i c q
    obtain ⟨hy, _⟩ := hG.awake q st_fresh
    have na : ∀ z, s.gens[g]? = some z → ¬ St z := fun z hz => by rw [q] at hz; cases hz; exact st_fresh
    split at h
    · obtain ⟨e1, s1, hr, hq, rfl, rfl⟩ := h
      obtain ⟨G1, r1, a1, a2, a3⟩ := runs_sw hr rfl _ (hG.set (g := g) (rl_self ng_run))
      refine ⟨G1.setIfInBounds g e1.genState, ?_, a1.set (rl_self (nge_gen a2)), (Kp.setl a3 na).setr na⟩
      unfold Wakes
      rw [show ({ s with gens := G } : Shared).gens[g]? = some (.fresh c) from hy]
      exact ⟨e1, _, r1, hq, rfl, rfl⟩
    · obtain ⟨rfl, rfl⟩ := h
      refine ⟨G, ?_, hG, .refl⟩
      unfold Wakes
      rw [show ({ s' with gens := G } : Shared).gens[g]? = some (.fresh c) from hy]
      rename_i v hv
      cases v <;> first | exact ⟨rfl, rfl⟩ | exact absurd rfl hv
    · obtain ⟨rfl, rfl⟩ := h
      refine ⟨G.setIfInBounds g .finished, ?_, hG.set (rl_self ng_fin), (Kp.refl).setr na⟩
      unfold Wakes
      rw [show ({ s with gens := G } : Shared).gens[g]? = some (.fresh c) from hy]
      exact ⟨rfl, rfl⟩
  · rename_i k0 l0 c0 p0 fs cl q
    obtain ⟨e1, s1, hr, hq, rfl, rfl⟩ := h
    obtain ⟨hy, ng⟩ := hG.awake q (not_st hr)
    have na : ∀ z, s.gens[g]? = some z → ¬ St z := fun z hz => by rw [q] at hz; cases hz; exact not_st hr
    obtain ⟨G1, r1, a1, a2, a3⟩ := runs_sw hr (ng _ _ _ _ _ _ rfl) _ (hG.set (g := g) (rl_self ng_run))
    refine ⟨G1.setIfInBounds g e1.genState, ?_, a1.set (rl_self (nge_gen a2)), (Kp.setl a3 na).setr na⟩
    unfold Wakes
    rw [show ({ s with gens := G } : Shared).gens[g]? = _ from hy]
    exact ⟨e1, _, r1, hq, rfl, rfl⟩
  · rename_i q
    obtain ⟨rfl, rfl⟩ := h
    obtain ⟨hy, _⟩ := hG.awake q st_run
    refine ⟨G, ?_, hG, .refl⟩
    unfold Wakes
    rw [show ({ s' with gens := G } : Shared).gens[g]? = _ from hy]
    exact ⟨rfl, rfl⟩
  · rename_i q
    obtain ⟨rfl, rfl⟩ := h
    obtain ⟨hy, _⟩ := hG.awake q st_fin
    refine ⟨G, ?_, hG, .refl⟩
    unfold Wakes
    rw [show ({ s' with gens := G } : Shared).gens[g]? = _ from hy]
    exact ⟨rfl, rfl⟩
/-- how the run with the sleepers stands to the run without them -/
def SW (a b : Array GenState) (s0 s' : Shared) : Prop := ∃ G', s' = { s0 with gens := G' } ∧ GR s0.gens G' ∧ Kp a b s0.gens G'
theorem SW.pre {a b c d : Array GenState} {s0 s' : Shared} (k : Kp a b c d) (h : SW c d s0 s') : SW a b s0 s' := by
  obtain ⟨G', e, r, k'⟩ := h
  exact ⟨G', e, r, k.trans k'⟩
theorem wp_sw {α : Type} (M : Model) (Γ : Ctx) (t : Sem α) : ∀ (Q : α → Pos → Shared → Prop) (E : Value → Pos → Shared → Prop) (p : Pos) (s : Shared) (G : Array GenState), GR s.gens G → wp M Γ t Q E p s →
    wp M Γ t (fun a p' s' => ∃ s0, SW s.gens G s0 s' ∧ Q a p' s0) (fun e p' s' => ∃ s0, SW s.gens G s0 s' ∧ E e p' s0) p { s with gens := G } := by
  have fin : ∀ {s : Shared} {G : Array GenState}, GR s.gens G → SW s.gens G s { s with gens := G } := fun h => ⟨_, rfl, h, .refl⟩
  induction t with
  | pure a => intro Q E p s G hG h; exact ⟨s, fin hG, h⟩
  | raise e => intro Q E p s G hG h; exact ⟨s, fin hG, h⟩
  | unsupported _ => intro Q E p s G _ h; exact h
  | finish _ => intro Q E p s G _ h; exact h
  | rule _ k ih => intro Q E p s G hG h; exact ih () Q E p s G hG h
  | «at» p' k ih => intro Q E p s G hG h; exact ih () Q E p' s G hG h
  | load a _ k ih => intro Q E p s G hG h; obtain ⟨o, ho, h⟩ := h; exact ⟨o, ho, ih o Q E p s G hG h⟩
  | update a _ f k ih => intro Q E p s G hG h; exact ⟨h.1, ih () Q E p { s with heap := s.heap.update a f } G hG h.2⟩
  | loadIfAlive a k ih => intro Q E p s G hG h; exact ih _ Q E p s G hG h
  | point _ k ih => intro Q E p s G hG h; exact ih () Q E p s G hG h
  | register _ _ => intro Q E p s G _ h; exact h
  | alloc o k ih => intro Q E p s G hG h; exact ih _ Q E p { s with heap := s.heap.push o } G hG h
  | fresh k ih => intro Q E p s G hG h; exact ih _ Q E p { s with toks := s.toks + 1 } G hG h
  | ask k ih => intro Q E p s G hG h; exact ih _ Q E p s G hG h
  | choose src m k ih => intro Q E p s G hG h; exact ⟨h.1, ih _ Q E p { s with drawn := s.drawn.bump src } G hG h.2⟩
  | os q _ k ih => intro Q E p s G hG h; exact ih _ Q E p { s with os := (Os.step s.os q).1 } G hG h
  | call c hd _ _ k ih =>
    intro Q E p s G hG h
    obtain ⟨r, s', hr, h⟩ := h
    obtain ⟨G1, r1, a1, a2⟩ := returns_sw hr hG
    exact ⟨r, _, r1, Sem.wp_mono M Γ _ (fun _ _ _ ⟨s0, w, q⟩ => ⟨s0, w.pre a2, q⟩) (fun _ _ _ ⟨s0, w, q⟩ => ⟨s0, w.pre a2, q⟩) p _ (ih r Q E p s' G1 a1 h)⟩
  | handled own k ih => intro Q E p s G hG h; exact ih _ Q E p s G hG h
  | genState g k ih =>
    intro Q E p s G hG h
    obtain ⟨st, hs, h⟩ := h
    obtain ⟨y, hy, rl⟩ := hG.get hs
    have es : st.seen = y.seen := by
      rcases rl with ⟨rfl, _⟩ | ⟨_, z, _⟩
      · rfl
      · exact z
    refine ⟨y, hy, ?_⟩
    rw [← es]
    exact ih _ Q E p s G hG h
  | newGen c k ih =>
    intro Q E p s G hG h
    have k1 : Kp s.gens G (s.gens.push (.fresh c)) (G.push (.fresh c)) := .pushed hG
    have e := ih _ Q E p { s with gens := s.gens.push (.fresh c) } (G.push (.fresh c)) (hG.push (rl_self ng_fresh)) h
    have e2 : wp M Γ (k s.gens.size) (fun a p' s' => ∃ s0, SW s.gens G s0 s' ∧ Q a p' s0) (fun x p' s' => ∃ s0, SW s.gens G s0 s' ∧ E x p' s0) p { s with gens := G.push (.fresh c) } :=
      Sem.wp_mono M Γ _ (fun _ _ _ ⟨s0, w, q⟩ => ⟨s0, w.pre k1, q⟩) (fun _ _ _ ⟨s0, w, q⟩ => ⟨s0, w.pre k1, q⟩) p _ e
    show wp M Γ (k ({ s with gens := G } : Shared).gens.size) _ _ p _
    rw [show ({ s with gens := G } : Shared).gens.size = s.gens.size from hG.sz]
    exact e2
  | resume g r _ k ih =>
    intro Q E p s G hG h
    obtain ⟨res, s', hw, h⟩ := h
    obtain ⟨G1, r1, a1, a2⟩ := wakes_sw hw hG
    exact ⟨res, _, r1, Sem.wp_mono M Γ _ (fun _ _ _ ⟨s0, w, q⟩ => ⟨s0, w.pre a2, q⟩) (fun _ _ _ ⟨s0, w, q⟩ => ⟨s0, w.pre a2, q⟩) p _ (ih res Q E p s' G1 a1 h)⟩
  | yield _ _ _ _ => intro Q E p s G _ h; exact h
  | stack k ih => intro Q E p s G hG h; exact ih _ Q E p s G hG h
  | fork _ _ => intro Q E p s G _ h; exact h
  | thread k ih => intro Q E p s G hG h; exact ih _ Q E p s G hG h
  | await _ _ _ _ _ => intro Q E p s G _ h; exact h
/-- the sleepers cannot be woken -/
def lull : GenState → GenState
  | .suspended _ l c p fs cl => .suspended (fun _ => .unsupported "") l c p fs cl
  | x => x
theorem rl_lull (x : GenState) : Rl (lull x) x := by
  cases x with
  | suspended k l c p fs cl => exact .inr ⟨⟨_, _, _, _, _, _, rfl⟩, rfl, rfl⟩
  | fresh c => exact rl_self ng_fresh
  | running => exact rl_self ng_run
  | finished => exact rl_self ng_fin
def lulled (s : Shared) : Shared := { s with gens := s.gens.map lull }
theorem gr_lull (s : Shared) : GR (lulled s).gens s.gens := by
  refine ⟨by show s.gens.size = (s.gens.map lull).size; rw [Array.size_map], fun i x y e1 e2 => ?_⟩
  have e1 : (s.gens.map lull)[i]? = some x := e1
  rw [Array.getElem?_map, e2] at e1
  cases e1
  exact rl_lull y
theorem bare_lull (x : GenState) : (lull x).bare = x.bare := by cases x <;> rfl
theorem allBare_lull {s : Shared} (h : PyProof.Rows.AllBare s.gens) : PyProof.Rows.AllBare (lulled s).gens := fun y hy => by
  obtain ⟨x, hx, rfl⟩ := Array.mem_map.mp (show y ∈ s.gens.map lull from hy)
  rw [bare_lull]
  exact h x hx
/-- behind the run: the sleepers of before sleep on -/
structure Back (s s0 s' : Shared) : Prop where
  eq : ∃ G, s0 = { s' with gens := G }
  bare : PyProof.Rows.AllBare s0.gens → PyProof.Rows.AllBare s'.gens
  sleep : ∀ (i : Nat) k l c p fs cl, s.gens[i]? = some (.suspended k l c p fs cl) → s'.gens[i]? = s.gens[i]?
theorem Back.of {s s0 s' : Shared} (h : SW (lulled s).gens s.gens s0 s') : Back s s0 s' := by
  obtain ⟨G', rfl, r, k⟩ := h
  refine ⟨⟨s0.gens, rfl⟩, fun hb y hy => ?_, fun i kk l c p fs cl e => ?_⟩
  · obtain ⟨i, hi, rfl⟩ := Array.mem_iff_getElem.mp (show y ∈ G' from hy)
    have hi2 : i < s0.gens.size := by rw [← r.sz]; exact hi
    have rl := r.rl i s0.gens[i] G'[i] (Array.getElem?_eq_getElem hi2) (Array.getElem?_eq_getElem hi)
    have hb2 := hb _ (Array.getElem_mem hi2)
    rcases rl with ⟨z, _⟩ | ⟨_, _, z⟩
    · show (G'[i]).bare = true
      rw [← z]; exact hb2
    · show (G'[i]).bare = true
      rw [← z]; exact hb2
  · have e1 : (lulled s).gens[i]? = some (lull (.suspended kk l c p fs cl)) := by
      show (s.gens.map lull)[i]? = _
      rw [Array.getElem?_map, e]
      rfl
    exact (k.kp i _ e1 ⟨_, _, _, _, _, _, rfl⟩).2
/-- THE RULE -/
theorem wpAny_sw {α : Type} {M : Model} {A : Around} {t : Sem α} {Q : α → Shared → Prop} {E : Value → Shared → Prop} {s : Shared} (h : wpAny M A t Q E (lulled s)) :
    wpAny M A t (fun a s' => ∃ s0, Back s s0 s' ∧ Q a s0) (fun e s' => ∃ s0, Back s s0 s' ∧ E e s0) s := fun Γ p hΓ =>
  Sem.wp_mono M Γ t (fun _ _ _ ⟨s0, w, q⟩ => ⟨s0, .of w, q⟩) (fun _ _ _ ⟨s0, w, q⟩ => ⟨s0, .of w, q⟩) p s (wp_sw M Γ t _ _ p (lulled s) s.gens (gr_lull s) (h Γ p hΓ))
end Sw

/-! Gl: loops over a generator of the program's own that hands out what a zip gives. -/
namespace Gl
open PySem PySem.Spec PyProof.Rows L2 GenW
/-! ### a run up to its next stop, whatever is wanted there -/
def Sg (M : Model) (A : Around) (Φ : End → Shared → Prop) (c : Code) (t : Sem PySem.Fin) (fs : List Frame) (s : Shared) : Prop :=
  ∀ Γ p, Γ.code = c → Γ.Woken A → ∃ e s', Runs M Γ p t fs s e s' ∧ Φ e s'
section
variable {M : Model} {A : Around} {Φ : End → Shared → Prop} {c : Code} {fs : List Frame} {s : Shared}
theorem sg_wrap {α : Type} {m : Sem α} {K : α → Sem PySem.Fin} {J : Value → Sem PySem.Fin} {gd lv} (h : wpAny M (A.over c fs) m (fun a s' => Sg M A Φ c (K a) fs s') (fun x s' => Sg M A Φ c (J x) fs s') s) : Sg M A Φ c (m.wrap K J gd lv) fs s := by
  rintro Γ p rfl hΓ
  refine runs_wrap_of_wp K J gd lv m (h (Γ.over fs) p (hΓ.over fs)) ?_ ?_
  · intro a p' s' h'
    exact h' Γ p' rfl hΓ
  · intro x p' s' h'
    exact h' Γ p' rfl hΓ
theorem sg_bind {α : Type} {m : Sem α} {K : α → Sem PySem.Fin} (h : wpAny M (A.over c fs) m (fun a s' => Sg M A Φ c (K a) fs s') (fun x s' => Sg M A Φ c (.raise x) fs s') s) : Sg M A Φ c (m >>= K) fs s := by
  rw [Sem.bind_eq_wrap']
  exact sg_wrap h
theorem sg_at {p' : Pos} {k : Unit → Sem PySem.Fin} (h : Sg M A Φ c (k ()) fs s) : Sg M A Φ c (.at p' k) fs s :=
  sg_wrap (m := standAt p') (K := k) (J := .raise) (gd := id) (lv := id) (wpAny_standAt h)
theorem sg_point {l : List Value} {k : Unit → Sem PySem.Fin} (h : Sg M A Φ c (k ()) fs s) : Sg M A Φ c (.point l k) fs s :=
  sg_wrap (m := point) (K := k) (J := .raise) (gd := id) (lv := fun _ => l) (wpAny_point h)
theorem sg_call {c' : Code} {h g l} {k : Result → Sem PySem.Fin} (hc : ∀ p, Sg M A Φ c' (M.den c') (.ret k h g l c p [] :: fs) s) : Sg M A Φ c (.call c' h g l k) fs s := by
  rintro Γ p rfl hΓ
  obtain ⟨e, s', hr, he⟩ := hc p (Γ.goto c') p rfl (hΓ.goto c')
  exact ⟨e, s', runs_call_seg hr, he⟩
theorem sg_leaf {k h g l c₁ p₁ kp} (r : Result) (hk : Sg M A Φ c₁ (k r) fs s) : Sg M A Φ c (leafOf r) (.ret k h g l c₁ p₁ kp :: fs) s := by
  rintro Γ p rfl hΓ
  obtain ⟨e, s', hr, he⟩ := hk (Γ.goto c₁) p₁ rfl (hΓ.goto c₁)
  exact ⟨e, s', Runs.pop r hr, he⟩
theorem sg_again {c' : Code} (hq : c'.quiet = true) (hc : Sg M A Φ c' (M.den c') fs s) : Sg M A Φ c (.pure (.again c')) fs s := by
  rintro Γ p rfl hΓ
  obtain ⟨e, s', hr, he⟩ := hc (Γ.goto c') p rfl (hΓ.goto c')
  exact ⟨e, s', Runs.head (c₁ := c') (fun _ _ x => .again hq x) hr, he⟩
theorem sg_end (r : Result) (h : Φ (.ret r) s) : Sg M A Φ c (leafOf r) [] s := by
  rintro Γ p rfl _
  exact ⟨.ret r, s, Runs.leaf r, h⟩
theorem sg_yield {v g l} {k : Resume → Sem PySem.Fin} (hfs : splitAtGen fs = none) (h : ∀ p, Φ (.susp v g l k c p fs) s) : Sg M A Φ c (.yield v g l k) fs s := by
  rintro Γ p rfl _
  exact ⟨_, s, Runs.yield' fs hfs, h p⟩
end
/-! ### a heap up to L -/
def cut (h : Heap) (L : Nat) : Heap := ⟨h.objs.extract 0 L, h.life⟩
theorem cut_size {h : Heap} {L : Nat} (hl : L ≤ h.objs.size) : (cut h L).objs.size = L := by
  show (h.objs.extract 0 L).size = L
  rw [Array.size_extract]
  omega
theorem cut_lt {h : Heap} {L b : Nat} (hb : b < L) : (cut h L).get? b = h.get? b := by
  have e : (h.objs.extract 0 L)[b]? = h.objs[b]? := by
    rw [Array.getElem?_extract]
    by_cases hs : b < h.objs.size
    · rw [if_pos (by omega)]
      simp
    · rw [if_neg (by omega)]
      simp [hs]
  show (match (h.objs.extract 0 L)[b]? with | some ⟨_, _, .freed, _⟩ => none | o => o) = _
  rw [e]
  rfl
theorem cut_some {h : Heap} {L b : Nat} {o : Obj} (hl : L ≤ h.objs.size) (e : (cut h L).get? b = some o) : b < L ∧ h.get? b = some o := by
  have hb : b < L := by
    have := Heap.lt_size e
    rwa [cut_size hl] at this
  rw [cut_lt hb] at e
  exact ⟨hb, e⟩
theorem cut_funs {h base : Heap} {L : Nat} : ∀ {l : List Env}, h.FunFrames base l → (∀ b ∈ frs l, b < L) → (cut h L).FunFrames base l
  | [], _, _ => trivial
  | env :: l, ⟨hk, ⟨a, o, hf, hn, ho, hd⟩, hr⟩, hb => by
    have e : frs (env :: l) = a :: frs l := by
      show List.filterMap _ _ = _
      rw [List.filterMap_cons, hf]
      rfl
    rw [e] at hb
    exact ⟨hk, ⟨a, o, hf, hn, by rw [cut_lt (hb a List.mem_cons_self)]; exact ho, hd⟩, cut_funs hr fun b hm => hb b (List.mem_cons_of_mem _ hm)⟩
/-! ### all that stands, as it stands -/
/-- an object that is a list of these -/
def IsL (o : Obj) (xs : List V) : Prop := xs.length ≤ sizeLine ∧ ∃ (its : List Value) (n : Nat), Vals xs its ∧ o = { cls := .type "list", data := .seq its.toArray n }
def Fz (h base : Heap) (fs pr : List Addr) (ls : Addr → Option (List V)) : Hp := fun b =>
  if b ∈ pr then none else if b ∈ fs then none else if (base.get? b).isSome then none else
    match h.get? b with
    | none => none
    | some o => match ls b with
      | some xs => some (.frz o (.lst xs))
      | none => some (.frz o (.own 0))
section
variable {h base : Heap} {fs pr : List Addr} {ls : Addr → Option (List V)} {P : Program} {w : World}
theorem fz_pr {b : Addr} (hb : b ∈ pr) : Fz h base fs pr ls b = none := if_pos hb
theorem fz_fs {b : Addr} (hb : b ∈ fs) : Fz h base fs pr ls b = none := by
  unfold Fz
  by_cases hp : b ∈ pr
  · rw [if_pos hp]
  · rw [if_neg hp, if_pos hb]
theorem fz_base {b : Addr} {o : Obj} (hb : base.get? b = some o) : Fz h base fs pr ls b = none := by
  unfold Fz
  by_cases hp : b ∈ pr
  · rw [if_pos hp]
  by_cases hf : b ∈ fs
  · rw [if_neg hp, if_pos hf]
  · rw [if_neg hp, if_neg hf, if_pos (by rw [hb]; rfl)]
theorem fz_new {b : Addr} (hb : h.get? b = none) : Fz h base fs pr ls b = none := by
  unfold Fz
  by_cases hp : b ∈ pr
  · rw [if_pos hp]
  by_cases hf : b ∈ fs
  · rw [if_neg hp, if_pos hf]
  by_cases hz : (base.get? b).isSome = true
  · rw [if_neg hp, if_neg hf, if_pos hz]
  · rw [if_neg hp, if_neg hf, if_neg hz, hb]
/-- whatever else stands is locked -/
theorem fz_get {b : Addr} {o : Obj} (hb : h.get? b = some o) (h1 : b ∉ pr) (h2 : b ∉ fs) (h3 : base.get? b = none) : ∃ u, Fz h base fs pr ls b = some (.frz o u) := by
  unfold Fz
  rw [if_neg h1, if_neg h2, if_neg (by rw [h3]; exact Bool.false_ne_true), hb]
  cases ls b with
  | none => exact ⟨_, rfl⟩
  | some xs => exact ⟨_, rfl⟩
theorem fz_lst {b : Addr} {o : Obj} {xs : List V} (hb : h.get? b = some o) (h1 : b ∉ pr) (h2 : b ∉ fs) (h3 : base.get? b = none) (hl : ls b = some xs) : Fz h base fs pr ls b = some (.frz o (.lst xs)) := by
  unfold Fz
  rw [if_neg h1, if_neg h2, if_neg (by rw [h3]; exact Bool.false_ne_true), hb]
  simp only [hl]
theorem fz_inv {b : Addr} {u : HO} (e : Fz h base fs pr ls b = some u) : ∃ o, h.get? b = some o ∧ b ∉ pr ∧ b ∉ fs ∧ base.get? b = none ∧ ((∃ xs, ls b = some xs ∧ u = .frz o (.lst xs)) ∨ u = .frz o (.own 0)) := by
  unfold Fz at e
  by_cases hp : b ∈ pr
  · rw [if_pos hp] at e; cases e
  by_cases hf : b ∈ fs
  · rw [if_neg hp, if_pos hf] at e; cases e
  by_cases hz : (base.get? b).isSome = true
  · rw [if_neg hp, if_neg hf, if_pos hz] at e; cases e
  rw [if_neg hp, if_neg hf, if_neg hz] at e
  have hb : base.get? b = none := by
    cases q : base.get? b with
    | none => rfl
    | some o => rw [q] at hz; exact absurd rfl hz
  cases q : h.get? b with
  | none => rw [q] at e; cases e
  | some o =>
    rw [q] at e
    cases q2 : ls b with
    | none =>
      simp only [q2] at e
      cases e
      exact ⟨o, rfl, hp, hf, hb, .inr rfl⟩
    | some xs =>
      simp only [q2] at e
      cases e
      exact ⟨o, rfl, hp, hf, hb, .inl ⟨xs, rfl, rfl⟩⟩
theorem fz_hok (hl : ∀ b xs, ls b = some xs → ∃ o, h.get? b = some o ∧ IsL o xs) : HOk P w (Fz h base fs pr ls) h := fun b u e => by
  obtain ⟨o, ho, _, _, _, hu⟩ := fz_inv e
  rcases hu with ⟨xs, hx, rfl⟩ | rfl
  · obtain ⟨o', ho', z, its, n, r, eo⟩ := hl b xs hx
    rw [ho] at ho'
    cases ho'
    exact ⟨ho, z, its, n, r, by rw [ho, eo]⟩
  · exact ⟨ho, o, ho⟩
end
/-! ### the generator's own context -/
def gX (P : Program) (w : World) (K : PySem.W.Frag) (mg : Str → Option Value) (base : Heap) (N : List Str) (A : Around) (env : Env) (outer : List Env) (s0 : Shared) (H0 : Hp) : Cx where
  prog := P
  w := w
  K := K
  mg := mg
  base := base
  A := A
  N := N
  s_0 := s0
  H_0 := H0
  env := env
  outer := outer
  stack := env :: outer
  ex := []
  calm := true
  fn := fun _ => true
  pn := []
  xe := fun _ _ => False
/-- a generator def's frame, without cells -/
structure GEnv (env : Env) : Prop where
  kind : env.scope.kind = .function
  glob : env.globals = mainGlobals
  blt : env.builtins = builtinsNs
  fr : env.frame = some env.locals
  cells : env.cells = []
  nc : ∀ x, env.kindOf x ≠ some .cell ∧ env.kindOf x ≠ some .free
  co : env.scope.isCoroutine = false
section
variable {P : Program} {w : World} {K : PySem.W.Frag} {mg : Str → Option Value} {base : Heap} {N : List Str} {A : Around} {env : Env} {outer : List Env} {s : Shared} {H : Hp} {pr : List Addr} {ls : Addr → Option (List V)} {σ : L2.St}
/-- where a turn of the generator begins: all else is locked -/
abbrev Hz (env : Env) (base : Heap) (outer : List Env) (s : Shared) (pr : List Addr) (ls : Addr → Option (List V)) : Hp := Fz s.heap base (frs outer) (env.locals :: pr) ls
abbrev Xz (P : Program) (w : World) (K : PySem.W.Frag) (mg : Str → Option Value) (base : Heap) (N : List Str) (A : Around) (env : Env) (outer : List Env) (s : Shared) (pr : List Addr) (ls : Addr → Option (List V)) : Cx :=
  gX P w K mg base N A env outer { s with heap := cut s.heap env.locals } (Hz env base outer s pr ls)
theorem inv_fz (G : GEnv env) (e0 : Env0 P w K mg base A outer s H) (hfr : ∀ b ∈ frs outer, b < env.locals) (hbl : base.objs.size ≤ env.locals) (hd : A.handled = none) {A' : Around} (hA : A'.frames = some (env :: outer)) (hd' : A'.handled = none)
    (hls : ∀ b xs, ls b = some xs → ∃ o, s.heap.get? b = some o ∧ IsL o xs) (hlen : σ.length = N.length)
    (hns : ∃ m, s.heap.Ns env.locals m ∧ ∀ (i : Nat) (x : Str) (v : V), N[i]? = some x → σ[i]? = some (some v) → Vis env.scope x → ∃ u, RelV v u ∧ env.kindOf x = some .local ∧ m x = some u) :
    Inv (Xz P w K mg base N A' env outer s pr ls) [] σ (Hz env base outer s pr ls) s := by
  obtain ⟨m, hm, hv⟩ := hns
  have hL : env.locals < s.heap.objs.size := hm.lt
  have hL' : env.locals ≤ s.heap.objs.size := Nat.le_of_lt hL
  have ncl : ∀ y c, env.cells.lookup y ≠ some c := fun y c z => by rw [G.cells] at z; cases z
  refine ⟨⟨e0.mod, G.kind, G.glob, G.blt, ?_, fun x y c z => (ncl x c z).elim, fun x z => ?_, fun y c _ z => (ncl y c z).elim, fun _ => hd', hA, .inr ⟨rfl, G.fr⟩, fun b z => ?_, fun b o e => ?_, ?_, fun b _ _ z => ?_, fun b z => ?_, cut_funs e0.funs hfr, fun b hb => fz_fs hb⟩,
    rfl, e0.bare, ⟨fun b o e n _ _ => (cut_some hL' e).2, fun b o e _ _ _ => ⟨o.slots, (cut_some hL' e).2⟩, fun b o _ n _ => n, fun b o e _ => ⟨o, (cut_some hL' e).2⟩, fun b xs e => e, fun b o u e => e, fun b ps e => ⟨#[], by rw [Array.append_empty]; exact e⟩⟩,
    ⟨m, hm, fun i x v h1 h2 h3 => ?_⟩, fun y c z => (ncl y c z).elim, fz_pr List.mem_cons_self, fun y c z => (ncl y c z).elim, fun p hp => ?_, fz_hok hls, hlen⟩
  · show (cut s.heap env.locals).objs.size ≤ env.locals
    rw [cut_size hL']
    exact Nat.le_refl _
  · rcases z with z | z
    · exact absurd z (G.nc x).1
    · exact absurd z (G.nc x).2
  · exact absurd (show b ∈ ([] : List Addr) from z) (by simp)
  · obtain ⟨q1, _⟩ := e0.bs b o e
    exact ⟨by show (cut s.heap env.locals).get? b = _; rw [cut_lt (Nat.lt_of_lt_of_le (Heap.lt_size e) hbl)]; exact q1, fz_base e⟩
  · show base.objs.size ≤ (cut s.heap env.locals).objs.size
    rw [cut_size hL']
    exact hbl
  · exact absurd (show b ∈ ([] : List Addr) from z) (by simp)
  · exact absurd (show b ∈ ([] : List Addr) from z) (by simp)
  · obtain ⟨u, q1, q2, q3⟩ := hv i x v h1 h2 h3
    exact ⟨u, q1, .inl ⟨q2, q3⟩⟩
  · exact absurd (show p ∈ ([] : List (Addr × Obj)) from hp) (by simp)
/-- what a stretch of the generator's run leaves of the heap of before -/
structure Eff (base : Heap) (outer : List Env) (pr : List Addr) (s s' : Shared) : Prop where
  os : s'.os = s.os
  bare : AllBare s'.gens
  keep : ∀ b o, s.heap.get? b = some o → b ∉ pr → b ∉ frs outer → s'.heap.get? b = some o
  slot : ∀ b o, s.heap.get? b = some o → b ∈ frs outer → ∃ sl, s'.heap.get? b = some { o with slots := sl }
theorem eff_of {A' : Around} {pins : List (Addr × Obj)} {H1 : Hp} {s1 : Shared} (e0 : Env0 P w K mg base A outer s H) (hfr : ∀ b ∈ frs outer, b < env.locals) (hbl : base.objs.size ≤ env.locals)
    (I : Inv (Xz P w K mg base N A' env outer s pr ls) pins σ H1 s1) : Eff base outer (env.locals :: pr) s s1 := by
  refine ⟨I.os, I.bare, fun b o e n nf => ?_, fun b o e hb => ?_⟩
  · cases q : base.get? b with
    | some o' =>
      have hb : b < env.locals := Nat.lt_of_lt_of_le (Heap.lt_size q) hbl
      exact I.base.keep b o (by show (cut s.heap env.locals).get? b = _; rw [cut_lt hb]; exact e) (fz_base q) nf (fun z => by cases z)
    | none =>
      obtain ⟨u, hu⟩ := fz_get (base := base) (fs := frs outer) (pr := env.locals :: pr) (ls := ls) e n nf q
      exact (I.hok b _ (I.base.frzs b o u hu)).1
  · have hl := hfr b hb
    exact I.base.slot b o (by show (cut s.heap env.locals).get? b = _; rw [cut_lt hl]; exact e) (fz_fs hb) hb (fun z => by cases z)
end
end Gl
namespace Gl
open PySem PySem.Spec PyProof.Rows L2 GenW
section
variable {M : Model} {A : Around} {Φ : End → Shared → Prop} {c : Code} {fs : List Frame} {s : Shared}
theorem sg_bindw {α β : Type} {m : Sem α} {f : α → Sem β} {K : β → Sem PySem.Fin} {J : Value → Sem PySem.Fin} {gd : Bool → Bool} {lv : List Value → List Value}
    (h : wpAny M (A.over c fs) m (fun a s' => Sg M A Φ c ((f a).wrap K J gd lv) fs s') (fun x s' => Sg M A Φ c (J x) fs s') s) : Sg M A Φ c ((m >>= f).wrap K J gd lv) fs s := by
  rw [Sem.bind_eq_wrap' m f, Sem.wrap_wrap]
  exact sg_wrap h
/-- what a generator does when it is woken -/
def Wk (M : Model) (A : Around) (Φ : End → Shared → Prop) (gs : GenState) (s : Shared) : Prop :=
  match gs with
  | .fresh c => Sg M A Φ c (M.den c) [] s
  | .suspended k _ c _ fs _ => Sg M A Φ c (k (.send .none)) fs s
  | _ => False
theorem wpAny_wake {α : Type} {g : Nat} {gs : GenState} {E : Value → Shared → Prop} {l : List Value} {k : GenResult → Sem α} {Q : α → Shared → Prop} (hg : s.gens[g]? = some gs) (hgo : Wk M A Φ gs (s.setGen g .running))
    (hΦ : ∀ e s1, Φ e s1 → e.quiet = true ∧ wpAny M A (k e.result) Q E (s1.setGen g e.genState)) : wpAny M A (.resume g (.send .none) l k) Q E s := by
  intro Γ p hΓ
  rw [Sem.wp_resume]
  cases gs with
  | fresh c =>
    obtain ⟨e, s1, hr, he⟩ := hgo (Γ.wake c p) p rfl (hΓ.wake c p)
    obtain ⟨q1, q2⟩ := hΦ e s1 he
    refine ⟨_, _, ?_, q2 Γ p hΓ⟩
    unfold Wakes
    rw [hg]
    exact ⟨e, s1, hr, q1, rfl, rfl⟩
  | suspended k0 l0 c0 p0 fs0 cl =>
    obtain ⟨e, s1, hr, he⟩ := hgo (Γ.wake c0 p) p0 rfl (hΓ.wake c0 p)
    obtain ⟨q1, q2⟩ := hΦ e s1 he
    refine ⟨_, _, ?_, q2 Γ p hΓ⟩
    unfold Wakes
    rw [hg]
    exact ⟨e, s1, hr, q1, rfl, rfl⟩
  | running => exact hgo.elim
  | finished => exact hgo.elim
end
section
variable {P : Program} {w : World} {A : Around} {E : Value → Shared → Prop} {s : Shared}
/-- the next item of a generator: what it hands out, or its end without a value -/
theorem next_gl {a : Addr} {g : Nat} {gs : GenState} {Φ : End → Shared → Prop} {Q : Option Value → Shared → Prop} (hh : A.handled = none) (hl : s.heap.NoLimit) (hroom : A.depth < recursionLimit) (hg : s.heap.IsGen a g) (hgs : s.gens[g]? = some gs)
    (hgo : Wk (model P w) A.in1 Φ gs (s.setGen g .running))
    (hΦ : ∀ e s1, Φ e s1 → (∃ v l k c p fs, e = .susp v false l k c p fs ∧ fs.any Frame.guarded = false ∧ Q (some v) (s1.setGen g e.genState)) ∨
      (e = .ret (.ok (.ret .none)) ∧ ∀ h', (∀ b o, s1.heap.get? b = some o → h'.get? b = some o) → Q none { s1.setGen g .finished with heap := h' })) : wpAny (model P w) A (pyNext (.ref a)) Q E s := by
  unfold pyNext
  apply wpAny_bind
  apply wpAny_attempt
  refine wpAny_callSpecial?_slot (name := Str.ofString "__next__") hg.typeIs slot_gen_next ?_
  refine wpAny_call_entry slot_gen_next hg.typeIs entry_gen_next ?_ (args_gen_next _)
  show wpAny _ A.in1 (Builtin.Generator.genWake (.ref a) (.send .none)) _ _ s
  unfold Builtin.Generator.genWake
  refine wpAny_bind (wpAny_holding (wpAny_genNumber hg ?_))
  refine wpAny_bind (wpAny_genState hgs ?_)
  have fin : ∀ e s1, Φ e s1 → e.quiet = true := fun e s1 h => by
    rcases hΦ e s1 h with ⟨v, l, k, c, p, fs, rfl, hfs, _⟩ | ⟨rfl, _⟩
    · show (!(false || fs.any Frame.guarded)) = true
      rw [hfs]
      rfl
    · rfl
  cases gs with
  | running => exact hgo.elim
  | finished => exact hgo.elim
  | fresh c0 =>
    apply wpAny_bind
    refine wpAny_roomToWake hl hroom ?_
    show wpAny (model P w) A.in1 (.resume g (.send .none) [] _) _ _ s
    refine wpAny_wake hgs hgo fun e s1 he => ⟨fin e s1 he, ?_⟩
    rcases hΦ e s1 he with ⟨v, l, k, c, p, fs, rfl, _, q⟩ | ⟨rfl, q⟩
    · exact wpAny_pure ⟨v, rfl, wpAny_pure q⟩
    · show wpAny (model P w) A.in1 (newExc (.type "StopIteration") [] >>= _) _ _ _
      apply wpAny_bind
      simp only [newExc, newTuple]
      apply wpAny_bind
      refine wpAny_newObj_type ?_ (by size_fits)
      refine wpAny_bind (m := firstArgMember _ _) (wpAny_of_eq (a := Value.none) ?_ ?_)
      · first
          | rfl
          | (simp only [firstArgMember]; rfl)
      refine wpAny_newObj_type ?_ (by size_fits)
      simp only [raiseNew]
      refine wpAny_bind (wpAny_bind (wpAny_handled ?_))
      rw [show A.in1.handled = none from hh]
      refine wpAny_throw (wpAny_bind ?_)
      refine wpAny_isInstance (T := "StopIteration") (b := true) ⟨_, Heap.get?_push_size _ rfl, rfl⟩ isSubtype_stop ?_
      exact wpAny_pure (q _ fun b o hb => Heap.get?_push_of_some _ (Heap.get?_push_of_some _ hb))
  | suspended k0 l0 c0 p0 fs0 cl =>
    apply wpAny_bind
    refine wpAny_roomToWake hl hroom ?_
    show wpAny (model P w) A.in1 (.resume g (.send .none) [] _) _ _ s
    refine wpAny_wake hgs hgo fun e s1 he => ⟨fin e s1 he, ?_⟩
    rcases hΦ e s1 he with ⟨v, l, k, c, p, fs, rfl, _, q⟩ | ⟨rfl, q⟩
    · exact wpAny_pure ⟨v, rfl, wpAny_pure q⟩
    · show wpAny (model P w) A.in1 (newExc (.type "StopIteration") [] >>= _) _ _ _
      apply wpAny_bind
      simp only [newExc, newTuple]
      apply wpAny_bind
      refine wpAny_newObj_type ?_ (by size_fits)
      refine wpAny_bind (m := firstArgMember _ _) (wpAny_of_eq (a := Value.none) ?_ ?_)
      · first
          | rfl
          | (simp only [firstArgMember]; rfl)
      refine wpAny_newObj_type ?_ (by size_fits)
      simp only [raiseNew]
      refine wpAny_bind (wpAny_bind (wpAny_handled ?_))
      rw [show A.in1.handled = none from hh]
      refine wpAny_throw (wpAny_bind ?_)
      refine wpAny_isInstance (T := "StopIteration") (b := true) ⟨_, Heap.get?_push_size _ rfl, rfl⟩ isSubtype_stop ?_
      exact wpAny_pure (q _ fun b o hb => Heap.get?_push_of_some _ (Heap.get?_push_of_some _ hb))
end
end Gl

namespace Gl
open PySem PySem.Spec PyProof.Rows L2 GenW
section
variable {P : Program} {w : World} {K : PySem.W.Frag} {mg : Str → Option Value} {base : Heap} {N : List Str} {A A' : Around} {env : Env} {outer : List Env} {s : Shared} {pr : List Addr} {ls : Addr → Option (List V)} {σ : L2.St}
variable {tg e : Expr} {yp ypos : Pos} {it : Addr} {fp : List Addr} {tn : Nat → Heap → Prop} {J : It} {g : TG} {te : TE} {i : Nat} {Φ : End → Shared → Prop} {fs : List Frame}
abbrev gBody (e : Expr) (yp ypos : Pos) : List Stmt := [.Expr (.Yield (some e) yp) ypos]
abbrev gLoop (tg e : Expr) (yp ypos : Pos) (it : Addr) (env : Env) : Code := .forLoop tg (.ref it) (gBody e yp ypos) [] env
/-- woken, the loop goes on -/
def Again (P : Program) (w : World) (A : Around) (c : Code) (fs : List Frame) (k : Resume → Sem PySem.Fin) : Prop :=
  ∀ Φ s, Sg (model P w) A Φ c ((model P w).den c) fs s → Sg (model P w) A Φ c (k (.send .none)) fs s
/-- the loop's end is the generator's end -/
def Ends (P : Program) (w : World) (A : Around) (fs : List Frame) : Prop :=
  ∀ Φ c s, Φ (.ret (.ok (.ret .none))) s → Sg (model P w) A Φ c (.pure (.done .next)) fs s
theorem sg_item (hA : A.over (gLoop tg e yp ypos it env) fs = A') (hsp : splitAtGen fs = none) (hgu : fs.any Frame.guarded = false) (hco : env.scope.isCoroutine = false) (hi : interactive env = false)
    (hg : ∀ s0 H0, PG (gX P w K mg base N A' env outer s0 H0) tg g) (he : ∀ s0 H0, PE (gX P w K mg base N A' env outer s0 H0) e te) (T : Turn P w K tg J fp it tn)
    {s0 : Shared} {H0 H : Hp} (I : Inv (gX P w K mg base N A' env outer s0 H0) [] σ H s) (hf : ∀ b ∈ fp, FpOk (gX P w K mg base N A' env outer s0 H0) [] H b) (st : tn i s.heap) (go : J.go i H) {Post : V → Hp → Prop}
    (step : ∀ x H', J.yld i H x H' → g x σ H' fun σ2 H2 => te σ2 H2 fun y H3 => Post y H3)
    (hΦ : ∀ v y σ1 pins H3 s1, Inv (gX P w K mg base N A' env outer s0 H0) pins σ1 H3 s1 → tn (i + 1) s1.heap → (∀ b ∈ fp, H3 b = none) → RelV y v → Post y H3 → ∀ k l p, Again P w A (gLoop tg e yp ypos it env) fs k → Φ (.susp v false l k (gLoop tg e yp ypos it env) p fs) s1) :
    Sg (model P w) A Φ (gLoop tg e yp ypos it env) ((model P w).den (gLoop tg e yp ypos it env)) fs s := by
  show Sg _ A Φ _ ((forTurn tg (.ref it) (gBody e yp ypos) [] env).onRaise _) fs s
  rw [Sem.onRaise_eq_wrap]
  unfold forTurn
  refine sg_bindw (wpAny_standAt ?_)
  refine sg_bindw (wpAny_onRaise ?_)
  rw [hA]
  refine wpAny_mono (T.item _ rfl rfl rfl rfl i [] s σ H (fun _ _ => False) I hf st go) (fun r s1 hr => ?_) fun _ _ z => z.elim
  obtain ⟨u, rfl, hu⟩ := hr
  refine sg_bindw ?_
  rw [hA]
  refine wpAny_mono hu (fun _ s2 h2 => ?_) fun _ _ z => z.elim
  obtain ⟨x, H2, I2, rx, yx, st2, fr2⟩ := h2
  have I2' := I2.pinned (fun b hb => ⟨fr2 b hb, (hf b hb).2⟩) (T.obj _ _ st2)
  refine sg_bindw ?_
  rw [hA]
  refine wpAny_mono ((hg s0 H0).run _ s2 σ H2 x u _ I2' rx (step x H2 yx)) (fun _ s3 h3 => ?_) fun _ _ z => z.elim
  obtain ⟨σ3, H3, I3, q3⟩ := h3
  rw [Sem.bind_eq_wrap' (execs _ _) _, Sem.wrap_wrap]
  rw [execs_cons_wrap]
  rw [exec_Expr env _ ypos hi rfl]
  show Sg _ A Φ _ (.at ypos fun _ => Sem.wrap _ _ _ _ ((eval e env >>= fun v => standAt yp >>= fun _ => yieldOut env v) >>= fun x => dropValue (.Yield (some e) yp) ypos x)) fs s3
  refine sg_at ?_
  rw [Sem.bind_eq_wrap' (eval e env >>= _) _]
  rw [Sem.wrap_wrap]
  refine sg_bindw ?_
  rw [hA]
  refine wpAny_mono ((he s0 H0).run _ s3 σ3 H3 _ I3 q3) (fun v s4 h4 => ?_) fun _ _ z => z.elim
  obtain ⟨y, H4, I4, ry, q4⟩ := h4
  refine sg_bindw (wpAny_standAt ?_)
  have hy : yieldOut env v = yieldValue v := by
    simp only [yieldOut, hco]
    exact if_neg Bool.false_ne_true
  rw [hy]
  have keepT : tn (i + 1) s4.heap := T.keep _ _ _ st2 fun b hb o q => (I4.pin (b, o) (List.mem_append_right _ (List.mem_append_right _ (mem_pinsAt hb q)))).1
  have frT : ∀ b ∈ fp, H4 b = none := fun b hb => by
    obtain ⟨o, q, _⟩ := T.obj _ _ st2 b hb
    exact (I4.pin (b, o) (List.mem_append_right _ (List.mem_append_right _ (mem_pinsAt hb q)))).2.1
  refine sg_yield hsp fun p => ?_
  exact hΦ v y σ3 _ H4 s4 I4 keepT frT ry q4 _ _ p fun Φ' s' h' => sg_again rfl h'
/-- nothing is left -/
theorem sg_stop (hA : A.over (gLoop tg e yp ypos it env) fs = A') (T : Turn P w K tg J fp it tn)
    {s0 : Shared} {H0 H : Hp} (I : Inv (gX P w K mg base N A' env outer s0 H0) [] σ H s) (hf : ∀ b ∈ fp, FpOk (gX P w K mg base N A' env outer s0 H0) [] H b) (st : tn i s.heap) (stop : J.stop i H) (hE : Ends P w A fs)
    (hΦ : ∀ s1, Inv (gX P w K mg base N A' env outer s0 H0) [] σ H s1 → Φ (.ret (.ok (.ret .none))) s1) :
    Sg (model P w) A Φ (gLoop tg e yp ypos it env) ((model P w).den (gLoop tg e yp ypos it env)) fs s := by
  show Sg _ A Φ _ ((forTurn tg (.ref it) (gBody e yp ypos) [] env).onRaise _) fs s
  rw [Sem.onRaise_eq_wrap]
  unfold forTurn
  refine sg_bindw (wpAny_standAt ?_)
  refine sg_bindw (wpAny_onRaise ?_)
  rw [hA]
  refine wpAny_mono (T.done _ rfl rfl rfl rfl i [] s σ H (fun _ _ => False) I hf st stop) (fun r s1 hr => ?_) fun _ _ z => z.elim
  obtain ⟨rfl, I1⟩ := hr
  refine sg_again (c' := .block [] env) rfl ?_
  show Sg _ A Φ _ (.pure (.done .next)) fs s1
  exact hE Φ _ s1 (hΦ s1 I1)
theorem sg_first {iter : Expr} {fpos : Pos} {wi : TI} {s0 : Shared} {H0 H : Hp} {R : It → Hp → Prop} (hs : ∀ x, foldedSetIterable iter env x = pure x)
    (I : Inv (gX P w K mg base N (A.deeper env) env outer s0 H0) [] σ H s) (hi : PI (gX P w K mg base N (A.deeper env) env outer s0 H0) tg iter wi) (hw : wi σ H R)
    (hl : ∀ it fp tn J H1 s1, Inv (gX P w K mg base N (A.deeper env) env outer s0 H0) [] σ H1 s1 → Turn P w K tg J fp it tn → tn 0 s1.heap → (∀ b ∈ fp, FpOk (gX P w K mg base N (A.deeper env) env outer s0 H0) [] H1 b) → R J H1 →
      ∀ fs, splitAtGen fs = none → fs.any Frame.guarded = false → Ends P w A fs → A.over (gLoop tg e yp ypos it env) fs = A.deeper env → Sg (model P w) A Φ (gLoop tg e yp ypos it env) ((model P w).den (gLoop tg e yp ypos it env)) fs s1) :
    Sg (model P w) A Φ (.func [.For tg iter (gBody e yp ypos) [] fpos] env) ((model P w).den (.func [.For tg iter (gBody e yp ypos) [] fpos] env)) [] s := by
  have ov : A.over (.func [.For tg iter (gBody e yp ypos) [] fpos] env) [] = A.deeper env := over_func
  show Sg _ A Φ _ (.point [] fun _ => ((execs [.For tg iter (gBody e yp ypos) [] fpos] env).onRaise (leaving env)) >>= _) [] s
  refine sg_point ?_
  rw [Sem.onRaise_eq_wrap]
  rw [Sem.bind_eq_wrap' (Sem.wrap _ _ _ _ _) _]
  rw [Sem.wrap_wrap]
  rw [execs_cons_wrap]
  rw [arm_exec_For]
  refine sg_bindw (wpAny_standAt ?_)
  refine sg_bindw ?_
  rw [ov]
  refine wpAny_mono (hi.run [] s σ H R I hw) (fun v s1 h1 => ?_) fun _ _ z => z.elim
  refine sg_bindw ?_
  refine wpAny_of_eq (hs v) ?_
  refine sg_bindw (wpAny_standAt ?_)
  refine sg_bindw ?_
  refine wpAny_holding ?_
  rw [ov]
  refine wpAny_mono h1 (fun itv s2 h2 => ?_) fun _ _ z => z.elim
  obtain ⟨it, fp, tn, J, H2, rfl, I2, T, st, hf, q⟩ := h2
  refine sg_call fun p => ?_
  refine hl it fp tn J H2 s2 I2 T st hf q _ rfl rfl ?_ ?_
  · intro Φ' c s' h'
    refine sg_leaf (.ok .next) ?_
    exact sg_end (.ok (.ret .none)) h'
  · rw [← ov]
    exact over_loop rfl rfl
end
end Gl

namespace Gl
open PySem PySem.Spec PyProof.Rows L2 GenW
theorem cells_nil : ∀ {ns : List (Str × NameKind)} {n : Nat}, (∀ y ∈ ns, y.2 ≠ .cell ∧ y.2 ≠ .free) → cellsFrom n ns [] = []
  | [], _, _ => rfl
  | (x, k) :: ns, n, h => by
    have hk : k ≠ .cell ∧ k ≠ .free := h (x, k) List.mem_cons_self
    have ih : cellsFrom n ns [] = [] := cells_nil fun y hy => h y (List.mem_cons_of_mem _ hy)
    cases k with
    | cell => exact absurd rfl hk.1
    | free => exact absurd rfl hk.2
    | _ => exact ih
/-- a generator def of one parameter, its names all local -/
structure GDef (K : PySem.W.Frag) (x qual : Str) (st : Stmt) (f : Addr) (fd : FuncData) (N : List Str) (p0 : Str) : Prop where
  F : Fun K x qual st f fd
  kind : (defScope st).kind = .function
  co : (defScope st).isCoroutine = false
  gen : (defScope st).isGenerator = true
  nd : N.Nodup
  pre : N.take 1 = [p0]
  par : (defScope st).names.lookup p0 = some .local
  loc : ∀ y ∈ (defScope st).names, y.2 ≠ .cell ∧ y.2 ≠ .free
section
variable {x qual : Str} {st : Stmt} {f : Addr} {fd : FuncData} {N : List Str} {p0 : Str} {K : PySem.W.Frag}
theorem lookup_loc {ns : List (Str × NameKind)} (h : ∀ y ∈ ns, y.2 ≠ .cell ∧ y.2 ≠ .free) {y : Str} {k : NameKind} (e : ns.lookup y = some k) : k ≠ .cell ∧ k ≠ .free := h (y, k) (PySem.mem_of_lookup e)
theorem genv (D : GDef K x qual st f fd N p0) (L : Addr) (cd : Value) : GEnv (envOfC qual (defScope st) L f cd) where
  kind := D.kind
  glob := rfl
  blt := rfl
  fr := rfl
  cells := cells_nil D.loc
  nc := fun y => by
    refine ⟨fun z => ?_, fun z => ?_⟩
    · exact (lookup_loc D.loc (show (defScope st).names.lookup y = some .cell from z)).1 rfl
    · exact (lookup_loc D.loc (show (defScope st).names.lookup y = some .free from z)).2 rfl
  co := D.co
/-- what a call of the generator def leaves -/
structure New (qual : Str) (st : Stmt) (f : Addr) (cd : Value) (p0 : Str) (u : Value) (s : Shared) (a : Addr) (g : Nat) (s' : Shared) : Prop where
  gen : s'.heap.IsGen a g
  at_ : s'.gens[g]? = some (.fresh (.func (defBody st) (envOfC qual (defScope st) s.heap.objs.size f cd)))
  le : s.heap.objs.size < a
  os : s'.os = s.os
  bare : AllBare s'.gens
  keep : ∀ b o, s.heap.get? b = some o → s'.heap.get? b = some o
  ns : ∃ m, s'.heap.Ns s.heap.objs.size m ∧ m p0 = some u
theorem made {X : Cx} {k : Nat} {pins : List (Addr × Obj)} {σ : L2.St} {H : Hp} {s : Shared} {u : Value} {E : Value → Shared → Prop} (D : GDef X.K x qual st f fd N p0) (hr : Room k X.A) (I : Inv X pins σ H s) (hb : Binds X.K fd [p0] []) :
    wpAny (model X.prog X.w) X.A (call (.ref f) [u]) (fun r s' => ∃ a g cd, r = .ref a ∧ New qual st f cd p0 u s a g s') E s := by
  obtain ⟨oc, od, kV, doc, pm, an, cdv, ct, osl, rfl, lk, hcd⟩ := D.F.ex
  have KX := I.kIn
  have lim := I.nolimit
  have hkind : ∀ y ∈ [p0].zip [u], (defScope st).names.lookup y.1 = some .local ∨ ((defScope st).names.lookup y.1 = some .cell ∧ ((cellsFrom (s.heap.objs.size + 1) (defScope st).names []).lookup y.1).isSome = true) := fun y hy => by
    rw [List.mem_singleton.mp (show y ∈ [(p0, u)] from hy)]
    exact .inl D.par
  refine wpAny_call ?_
  refine codeAny_call_generator (by have := hr.dp; omega) (KX _ _ lk) rfl D.co D.gen rfl (PySem.W.codeRec_of KX hcd) (hb s [u] KX rfl _ _ _ _ ?_)
  refine wpAny_newFunctionEnv_cells D.kind hkind fun env he s1 q => ?_
  subst he
  refine ⟨lim.keeps q.toInCall.keep, ?_⟩
  obtain ⟨h1, tk, es1, hk1⟩ := q.done
  have gen1 : s1.gens = s.gens := by rw [es1]
  have lt1 : s.heap.objs.size < s1.heap.objs.size := q.toInCall.ns.lt
  refine ⟨s1.heap.objs.size, s1.gens.size, cdv, rfl, ⟨_, _, _, Heap.get?_push_size _ rfl, rfl, rfl, rfl⟩, Array.getElem?_push_size .., lt1, by rw [es1], ?_, fun b o e => Heap.get?_push_of_some _ (q.toInCall.keep b o e), ?_⟩
  · exact AllBare.push (by rw [gen1]; exact I.bare) rfl
  · obtain ⟨o, es, ep, ho, r⟩ := q.toInCall.ns
    refine ⟨_, ⟨o, es, ep, Heap.get?_push_of_some _ ho, r⟩, ?_⟩
    exact bindL_get (List.nodup_cons.mpr ⟨by simp, List.nodup_nil⟩) (show ([p0] : List Str)[0]? = some p0 from rfl) (show ([u] : List Value)[0]? = some u from rfl) D.par
end
end Gl

namespace Gl
open PySem PySem.Spec PyProof.Rows L2 GenW
section
variable {X : Cx} {pins : List (Addr × Obj)} {σ : L2.St} {H : Hp} {s : Shared}
theorem inv_gens {s0 s' : Shared} (I : Inv X pins σ H s0) (e : ∃ G, s0 = { s' with gens := G }) (hb : AllBare s'.gens) : Inv X pins σ H s' := by
  obtain ⟨G, rfl⟩ := e
  exact ⟨I.ok, I.os, hb, I.base, I.loc, I.cell, I.free, I.freeC, I.pin, I.hok, I.len⟩
/-- an address of the generator's own -/
structure Own (X : Cx) (pins : List (Addr × Obj)) (H : Hp) (b : Addr) : Prop where
  un : H b = none
  loc : b ≠ X.env.locals
  fs : b ∉ X.fs
  cell : ∀ x c, X.env.cells.lookup x = some c → c ≠ b
  pin : ∀ p ∈ X.pn ++ pins, p.1 ≠ b
theorem back_any {ch : List Addr} {s4 s5 : Shared} {H' : Hp} (I : Inv X pins σ H s) (Ef : Eff X.base X.stack ch s s4) (k5 : ∀ b o, s4.heap.get? b = some o → s5.heap.get? b = some o) (os5 : s5.os = s4.os) (b5 : AllBare s5.gens)
    (hch : ∀ b ∈ ch, Own X pins H b ∧ X.s_0.heap.objs.size ≤ b) (hH : ∀ b o, s.heap.get? b = some o → H' b = H b) (hsub : ∀ b u, H b = some u → H' b = some u)
    (new : ∀ b u, H' b = some u → H b = none → ObjOk X.prog X.w H' s5.heap b u) : Inv X pins σ H' s5 := by
  have nfr : ∀ b u, H b = some u → b ∉ frs X.stack := fun b u e hm => by
    have := I.stkFree b hm
    rw [e] at this; cases this
  have nch : ∀ b u, H b = some u → b ∉ ch := fun b u e hm => by
    have := (hch b hm).1.un
    rw [e] at this; cases this
  refine I.call' (ch := ch) (os5.trans Ef.os) ⟨fun b o e n nf nx => k5 b o (Ef.keep b o e nx nf), fun b o e n hb _ => ?_, fun b o e n _ => ?_, fun b o e nx => ?_, fun b ys e => hsub b _ e, fun b o u e => hsub b _ e, fun b ps e => ⟨#[], by rw [Array.append_empty]; exact hsub b _ e⟩⟩ (fun b u e => ?_) b5 fun b hb => ?_
  · obtain ⟨sl, q⟩ := Ef.slot b o e hb
    exact ⟨sl, k5 b _ q⟩
  · rw [hH b o e]; exact n
  · by_cases hf : b ∈ frs X.stack
    · obtain ⟨sl, q⟩ := Ef.slot b o e hf
      exact ⟨_, k5 b _ q⟩
    · exact ⟨o, k5 b o (Ef.keep b o e nx hf)⟩
  · cases q : H b with
    | none => exact new b u e q
    | some u' =>
      have e2 := hsub b u' q
      rw [e] at e2
      cases e2
      refine (I.hok b u q).stay (fun c v hc hv => ?_) (fun c hc => hsub c _ hc) fun c ys hc => hsub c _ hc
      have hu : ∃ u2, H c = some u2 := by
        rcases hc with rfl | hc
        · exact ⟨u, q⟩
        · exact ⟨_, hc⟩
      obtain ⟨u2, hu⟩ := hu
      exact k5 c v (Ef.keep c v hv (nch c u2 hu) (nfr c u2 hu))
  · obtain ⟨o1, o2⟩ := hch b hb
    exact ⟨.inr o2, o1.loc, o1.cell, o1.pin⟩
end
/-- the text of a generator def whose loop goes over zip(x, x[1:]) and hands out the pairs -/
structure GT (P : Program) (w : World) (K : PySem.W.Frag) (mg : Str → Option Value) (base : Heap) (x qual : Str) (st : Stmt) (f : Addr) (fd : FuncData) (N : List Str) (p0 : Str) (tg iter e : Expr) (yp ypos fpos : Pos) (g : TG) (te : TE) (wi : TI) : Prop where
  D : GDef K x qual st f fd N p0
  body : defBody st = [.For tg iter (gBody e yp ypos) [] fpos]
  hs : ∀ env v, foldedSetIterable iter env v = pure v
  int : ∀ L cd, interactive (envOfC qual (defScope st) L f cd) = false
  hg : ∀ A' L cd outer s0 H0, PG (gX P w K mg base N A' (envOfC qual (defScope st) L f cd) outer s0 H0) tg g
  he : ∀ A' L cd outer s0 H0, PE (gX P w K mg base N A' (envOfC qual (defScope st) L f cd) outer s0 H0) e te
  hi : ∀ A' L cd outer s0 H0, PI (gX P w K mg base N A' (envOfC qual (defScope st) L f cd) outer s0 H0) tg iter wi
  r1 : ∀ (H : Hp) (lo : Addr) (xs : List V) (R : It → Hp → Prop), SqL K H lo xs → (∀ sl, H sl = none → R (Itz K lo sl) (upd H sl (.lst (xs.drop 1)))) → wi (some (.ref lo) :: List.replicate (N.length - 1) none) H R
  r2 : ∀ (σ : L2.St) (H : Hp) (T : Addr) (a b : V) (R : VK), σ.length = N.length → H T = none → (∀ p, upd H T (.tup [a, b]) p = none → R (.ref p) (upd (upd H T (.tup [a, b])) p (.tup [a, b]))) → g (.ref T) σ (upd H T (.tup [a, b])) fun σ2 H2 => te σ2 H2 R
section
variable {P : Program} {w : World} {K : PySem.W.Frag} {mg : Str → Option Value} {base : Heap} {x qual : Str} {st : Stmt} {f : Addr} {fd : FuncData} {N : List Str} {p0 : Str} {tg iter e : Expr} {yp ypos fpos : Pos} {g : TG} {te : TE} {wi : TI}
/-- the generator asleep, i items handed out -/
structure Slp (P : Program) (w : World) (K : PySem.W.Frag) (base : Heap) (tg e : Expr) (yp ypos : Pos) (A : Around) (env : Env) (outer : List Env) (lo : Addr) (ys : List V) (i : Nat) (gs : GenState) (h : Heap) (fp : List Addr) (sl : Addr) : Prop where
  ex : ∃ (it : Addr) (tn : Nat → Heap → Prop) (fs : List Frame) (k : Resume → Sem PySem.Fin) (l : List Value) (p : Pos), gs = .suspended k l (gLoop tg e yp ypos it env) p fs false ∧ splitAtGen fs = none ∧ fs.any Frame.guarded = false ∧ Ends P w A fs ∧
    A.over (gLoop tg e yp ypos it env) fs = A.deeper env ∧ Again P w A (gLoop tg e yp ypos it env) fs k ∧ Turn P w K tg (Itz K lo sl) fp it tn ∧ tn i h
  fpo : ∀ b ∈ fp, b ≠ env.locals ∧ b ∉ frs outer ∧ env.locals ≤ b
  lst : ∃ o, h.get? sl = some o ∧ IsL o ys
  slfp : sl ∉ fp
  slL : sl ≠ env.locals
  slb : base.get? sl = none
  slfs : sl ∉ frs outer
  ns : ∃ m, h.Ns env.locals m
theorem Slp.keep {A : Around} {env : Env} {outer : List Env} {lo : Addr} {ys : List V} {i : Nat} {gs : GenState} {h h' : Heap} {fp : List Addr} {sl : Addr} (S : Slp P w K base tg e yp ypos A env outer lo ys i gs h fp sl)
    (k : ∀ b ∈ env.locals :: sl :: fp, ∀ o, h.get? b = some o → h'.get? b = some o) : Slp P w K base tg e yp ypos A env outer lo ys i gs h' fp sl := by
  obtain ⟨it, tn, fs, kk, l, p, e1, e2, e3, e4, e5, e6, T, st⟩ := S.ex
  obtain ⟨o, ho, q⟩ := S.lst
  obtain ⟨m, o2, es, ep, ho2, r⟩ := S.ns
  exact ⟨⟨it, tn, fs, kk, l, p, e1, e2, e3, e4, e5, e6, T, T.keep i h h' st fun b hb o q => k b (List.mem_cons_of_mem _ (List.mem_cons_of_mem _ hb)) o q⟩, S.fpo, ⟨o, k sl (by simp) o ho, q⟩, S.slfp, S.slL, S.slb, S.slfs, m, o2, es, ep, k _ (by simp) o2 ho2, r⟩
theorem Slp.obj {A : Around} {env : Env} {outer : List Env} {lo : Addr} {ys : List V} {i : Nat} {gs : GenState} {h : Heap} {fp : List Addr} {sl : Addr} (S : Slp P w K base tg e yp ypos A env outer lo ys i gs h fp sl) :
    ∀ b ∈ env.locals :: sl :: fp, ∃ o, h.get? b = some o ∧ ∀ v, o.data ≠ .cell v := by
  intro b hb
  obtain ⟨it, tn, fs, kk, l, p, e1, e2, e3, e4, e5, e6, T, st⟩ := S.ex
  rcases List.mem_cons.mp hb with rfl | hb
  · obtain ⟨m, o, es, ep, ho, hd, _⟩ := S.ns
    exact ⟨o, ho, fun v z => by rw [hd] at z; cases z⟩
  rcases List.mem_cons.mp hb with rfl | hb
  · obtain ⟨o, ho, _, its, n, _, rfl⟩ := S.lst
    exact ⟨_, ho, fun v z => by cases z⟩
  · exact T.obj i h st b hb
/-- what stands of the lists -/
def lsOf (lo : Addr) (xs : List V) (sl : Addr) (ys : List V) : Addr → Option (List V) := fun b => if b = lo then some xs else if b = sl then some ys else none
/-- a new tuple of two in the generator's context stands nowhere of before -/
theorem not_there {A' : Around} {env : Env} {outer : List Env} {s s1 : Shared} {pr : List Addr} {ls : Addr → Option (List V)} {pins : List (Addr × Obj)} {σ : L2.St} {H1 : Hp} {p : Addr} {u : HO}
    (I : Inv (Xz P w K mg base N A' env outer s pr ls) pins σ H1 s1) (hfr : ∀ b ∈ frs outer, b < env.locals) (hpr : ∀ b ∈ pr, H1 b = none) (e1 : H1 p = some u) (hu : ∀ o v, u ≠ .frz o v) : s.heap.get? p = none := by
  cases q : s.heap.get? p with
  | none => rfl
  | some o =>
    have h1 : p ∉ env.locals :: pr := fun hm => by
      rcases List.mem_cons.mp hm with rfl | hm
      · rw [show H1 env.locals = none from I.free] at e1; cases e1
      · rw [hpr p hm] at e1; cases e1
    have h2 : p ∉ frs outer := fun hm => by
      have := I.base.free p o (by show (cut s.heap env.locals).get? p = _; rw [cut_lt (hfr p hm)]; exact q) (fz_fs hm) (fun z => by cases z)
      rw [e1] at this; cases this
    have h3 : base.get? p = none := by
      cases qb : base.get? p with
      | none => rfl
      | some ob =>
        have := (I.bs p ob qb).2
        rw [e1] at this; cases this
    obtain ⟨v, hv⟩ := fz_get (ls := ls) q h1 h2 h3
    have := I.base.frzs p o v hv
    rw [e1] at this
    exact absurd (Option.some.inj this) (hu o v)
end
section
theorem ok_some {P : Program} {w : World} {H : Hp} {h : Heap} {a : Addr} {o : HO} (x : ObjOk P w H h a o) : ∃ ob, h.get? a = some ob := by
  cases o with
  | lst xs => obtain ⟨_, _, _, _, e⟩ := x; exact ⟨_, e⟩
  | tup xs => obtain ⟨_, _, _, ob, e, _⟩ := x; exact ⟨ob, e⟩
  | dK kvs => obtain ⟨_, _, _, _, ob, _, _, e, _⟩ := x; exact ⟨ob, e⟩
  | dT kvs => obtain ⟨_, _, _, _, ob, _, _, e, _⟩ := x; exact ⟨ob, e⟩
  | set S n => obtain ⟨ob, _, _, _, e, _⟩ := x; exact ⟨ob, e⟩
  | ins C dx fs => obtain ⟨_, _, _, e, _⟩ := x; exact ⟨_, e⟩
  | own y => obtain ⟨ob, e⟩ := x; exact ⟨ob, e⟩
  | xd fs => obtain ⟨_, ⟨ob, _, _, e, _⟩, _⟩ := x; exact ⟨ob, e⟩
  | rng lo hi => obtain ⟨_, _, _, e⟩ := x; exact ⟨_, e⟩
  | frz ob u => exact ⟨ob, x.1⟩
  | tbl ps => exact ⟨_, (show h.get? a = some _ from x)⟩
  | met f y => exact ⟨_, (show h.get? a = some _ from x)⟩
  | ext φ => exact x.2.1
variable {X : Cx} {pins : List (Addr × Obj)} {σ : L2.St} {H : Hp} {s : Shared}
theorem new_none {b : Addr} (I : Inv X pins σ H s) (h : s.heap.get? b = none) : H b = none := by
  cases q : H b with
  | none => rfl
  | some u =>
    obtain ⟨ob, e⟩ := ok_some (I.hok b u q)
    rw [h] at e; cases e
theorem own_new {b : Addr} (I : Inv X pins σ H s) (h : s.heap.get? b = none) : Own X pins H b where
  un := new_none I h
  loc := fun z => by
    obtain ⟨m, ⟨o, _, _, ho, _⟩, _⟩ := I.loc
    rw [← z, h] at ho; cases ho
  fs := fun z => by
    obtain ⟨_, o, ho, _⟩ := I.funs.mem z
    rw [h] at ho; cases ho
  cell := fun y c e z => by
    obtain ⟨v, o, ho, _⟩ := I.cell y c e
    rw [z, h] at ho; cases ho
  pin := fun p hp z => by
    have := (I.pin p hp).1
    rw [z, h] at this; cases this
theorem Own.up {b p : Addr} {o : HO} (h : Own X pins H b) (hb : b ≠ p) : Own X pins (upd H p o) b := ⟨by rw [upd_ne hb]; exact h.un, h.loc, h.fs, h.cell, h.pin⟩
end
section
variable {X : Cx} {pins : List (Addr × Obj)} {σ : L2.St} {H : Hp} {s : Shared} {k : Nat} {x qual : Str} {st : Stmt} {f : Addr} {fd : FuncData} {N : List Str} {p0 : Str} {tg iter e : Expr} {yp ypos fpos : Pos} {g : TG} {te : TE} {wi : TI}
/-- a turn's end: the next pair, or nothing -/
def Turned (X : Cx) (pins : List (Addr × Obj)) (σ : L2.St) (H : Hp) (tg e : Expr) (yp ypos : Pos) (env : Env) (a : Addr) (gn : Nat) (lo : Addr) (xs : List V) (i : Nat) (r : Option Value) (s1 : Shared) : Prop :=
  (∃ (u v : V) (p : Addr) (gs : GenState) (fp : List Addr) (sl : Addr), r = some (.ref p) ∧ xs[i]? = some u ∧ xs[i + 1]? = some v ∧ H p = none ∧ Inv X pins σ (upd H p (.tup [u, v])) s1 ∧ s1.heap.IsGen a gn ∧ s1.gens[gn]? = some gs ∧
    Slp X.prog X.w X.K X.base tg e yp ypos X.A.in1 env X.stack lo (xs.drop 1) (i + 1) gs s1.heap fp sl ∧ (∀ b ∈ a :: env.locals :: sl :: fp, Own X pins (upd H p (.tup [u, v])) b) ∧ a ∉ env.locals :: fp) ∨
  (r = none ∧ xs.length ≤ i + 1 ∧ Inv X pins σ H s1)
theorem drop1 {xs : List V} {i : Nat} : (xs.drop 1)[i]? = xs[i + 1]? := by
  rw [List.getElem?_drop, Nat.add_comm]
theorem itz_go {K : PySem.W.Frag} {H : Hp} {lo sl : Addr} {xs : List V} {i : Nat} (h1 : SqL K H lo xs) (h2 : SqL K H sl (xs.drop 1)) (h : i + 1 < xs.length) : (Itz K lo sl).go i H :=
  ⟨xs, xs.drop 1, xs[i], xs[i + 1], h1, h2, List.getElem?_eq_getElem _, by rw [drop1]; exact List.getElem?_eq_getElem h⟩
theorem itz_stop {K : PySem.W.Frag} {H : Hp} {lo sl : Addr} {xs : List V} {i : Nat} (h1 : SqL K H lo xs) (h2 : SqL K H sl (xs.drop 1)) (h : xs.length ≤ i + 1) : (Itz K lo sl).stop i H :=
  ⟨xs, xs.drop 1, h1, h2, .inr (by rw [List.length_drop]; omega)⟩
theorem same_of_new {H : Hp} {p : Addr} {o : HO} (h : H p = none) : Same H (upd H p o) := fun b u q => by
  rw [upd_ne (fun z => by rw [z, h] at q; cases q)]
  exact q
theorem env0_run {gn : Nat} (I : Inv X pins σ H s) : Env0 X.prog X.w X.K X.mg X.base X.A.in1 X.stack (s.setGen gn .running) H :=
  ⟨I.env0.frames, I.env0.mod, I.env0.bs, I.env0.bsz, I.env0.funs, I.env0.frf, I.env0.hok, allBare_setGen I.bare rfl⟩
theorem isl_of {lo : Addr} {xs : List V} (I : Inv X pins σ H s) (h : H lo = some (.lst xs)) : ∃ o, s.heap.get? lo = some o ∧ IsL o xs := by
  obtain ⟨z, its, n, r, e⟩ := I.hok lo _ h
  exact ⟨_, e, z, its, n, r, rfl⟩
theorem turned_back {L : Addr} {cd : Value} {a : Addr} {gn lo i : Nat} {xs : List V} {u v : V} {p : Addr} {fp : List Addr} {sl : Addr} {gs : GenState} {s1 : Shared} (I : Inv X pins σ H s) (Ef : Eff X.base X.stack (L :: fp) s s1) (hp : s.heap.get? p = none)
    (ht : ∃ its, Vals [u, v] its ∧ IsTup s1.heap p its.toArray) (hu : xs[i]? = some u) (hv : xs[i + 1]? = some v) (hch : ∀ b ∈ L :: fp, Own X pins H b ∧ X.s_0.heap.objs.size ≤ b) (hgen : s.heap.IsGen a gn) (hag : a ∉ L :: fp) (hafs : a ∉ frs X.stack)
    (hbare : gs.bare = true) (hsz : gn < s1.gens.size) (S : Slp X.prog X.w X.K X.base tg e yp ypos X.A.in1 (envOfC qual (defScope st) L f cd) X.stack lo (xs.drop 1) (i + 1) gs s1.heap fp sl) (hown : ∀ b ∈ a :: L :: sl :: fp, Own X pins H b ∧ b ≠ p) :
    Turned X pins σ H tg e yp ypos (envOfC qual (defScope st) L f cd) a gn lo xs i (some (.ref p)) (s1.setGen gn gs) := by
  have hpn := new_none I hp
  refine .inl ⟨u, v, p, gs, fp, sl, rfl, hu, hv, hpn, ?_, ?_, setGen_at hsz, S, fun b hb => (hown b hb).1.up (hown b hb).2, hag⟩
  · refine back_any (s4 := s1) I Ef (fun b o q => q) rfl (allBare_setGen Ef.bare hbare) hch (fun b o q => ?_) (fun b u q => ?_) fun b u' q n => ?_
    · rw [upd_ne (fun z => by rw [z, hp] at q; cases q)]
    · rw [upd_ne (fun z => by rw [z, hpn] at q; cases q)]
      exact q
    · by_cases hb : b = p
      · subst hb
        rw [upd_same] at q
        cases q
        obtain ⟨its, r, tt⟩ := ht
        exact ⟨by show 2 ≤ sizeLine; decide, its, r, tt⟩
      · rw [upd_ne hb, n] at q
        cases q
  · obtain ⟨o, nm, qn, ho, r⟩ := hgen
    exact ⟨o, nm, qn, Ef.keep a o ho hag hafs, r⟩
theorem next_slp {L : Addr} {cd : Value} {a : Addr} {gn lo i : Nat} {xs : List V} {fp : List Addr} {sl : Addr} {gs : GenState} {E : Value → Shared → Prop} (Tx : GT X.prog X.w X.K X.mg X.base x qual st f fd N p0 tg iter e yp ypos fpos g te wi) (hr : Room k X.A) (I : Inv X pins σ H s)
    (hlo : H lo = some (.lst xs)) (hL1 : ∀ b ∈ frs X.stack, b < L) (hL2 : X.base.objs.size ≤ L) (hL3 : X.s_0.heap.objs.size ≤ L) (hgen : s.heap.IsGen a gn) (hgs : s.gens[gn]? = some gs)
    (S : Slp X.prog X.w X.K X.base tg e yp ypos X.A.in1 (envOfC qual (defScope st) L f cd) X.stack lo (xs.drop 1) i gs s.heap fp sl) (hown : ∀ b ∈ a :: L :: sl :: fp, Own X pins H b) (hag : a ∉ L :: fp) (hafs : a ∉ frs X.stack) :
    wpAny (model X.prog X.w) X.A (pyNext (.ref a)) (Turned X pins σ H tg e yp ypos (envOfC qual (defScope st) L f cd) a gn lo xs i) E s := by
  obtain ⟨it, tn, fs, kk, l, pp, rfl, e2, e3, e4, e5, e6, T, stn⟩ := S.ex
  obtain ⟨m, hm⟩ := S.ns
  have e0 := env0_run (gn := gn) I
  have hgl : gn < s.gens.size := (Array.getElem?_eq_some_iff.mp hgs).1
  have hls : ∀ b ys, lsOf lo xs sl (xs.drop 1) b = some ys → ∃ o, (s.setGen gn .running).heap.get? b = some o ∧ IsL o ys := fun b ys q => by
    unfold lsOf at q
    by_cases h1 : b = lo
    · rw [if_pos h1] at q
      cases q
      rw [h1]
      have := isl_of I hlo
      exact this
    · rw [if_neg h1] at q
      by_cases h2 : b = sl
      · rw [if_pos h2] at q
        cases q
        rw [h2]
        exact S.lst
      · rw [if_neg h2] at q
        cases q
  have Ig := inv_fz (N := N) (σ := List.replicate N.length none) (pr := fp) (genv Tx.D L cd) e0 hL1 hL2 hr.hd (Around.frames_deeper (env := envOfC qual (defScope st) L f cd) e0.frames) hr.hd hls (by simp) ⟨m, hm, fun j y z h1 h2 _ => by
    rw [List.getElem?_replicate] at h2
    split at h2 <;> cases h2⟩
  have hlo0 : ∀ b ∈ L :: fp, b ≠ lo := fun b hb z => by
    have := (hown b (by rcases List.mem_cons.mp hb with q | q <;> simp [q])).un
    rw [z, hlo] at this; cases this
  obtain ⟨olo, hol, _⟩ := isl_of I hlo
  have hlob : X.base.get? lo = none := by
    cases q : X.base.get? lo with
    | none => rfl
    | some o =>
      have := (I.bs lo o q).2
      rw [hlo] at this; cases this
  have hlof : lo ∉ frs X.stack := fun z => by
    have := I.stkFree lo z
    rw [hlo] at this; cases this
  have slo : sl ≠ lo := fun z => by
    have := (hown sl (by simp)).un
    rw [z, hlo] at this; cases this
  obtain ⟨osl, hosl, _⟩ := S.lst
  have q1 : SqL X.K (Hz (envOfC qual (defScope st) L f cd) X.base X.stack (s.setGen gn .running) fp (lsOf lo xs sl (xs.drop 1))) lo xs :=
    .inl (.inr ⟨olo, fz_lst hol (fun z => hlo0 lo z rfl) hlof hlob (if_pos rfl)⟩)
  have q2 : SqL X.K (Hz (envOfC qual (defScope st) L f cd) X.base X.stack (s.setGen gn .running) fp (lsOf lo xs sl (xs.drop 1))) sl (xs.drop 1) := by
    refine .inl (.inr ⟨osl, fz_lst hosl (fun z => ?_) S.slfs S.slb ?_⟩)
    · rcases List.mem_cons.mp z with q | q
      · exact S.slL q
      · exact S.slfp q
    · unfold lsOf
      rw [if_neg slo, if_pos rfl]
  have hf : ∀ b ∈ fp, FpOk (Xz X.prog X.w X.K X.mg X.base N (X.A.in1.deeper (envOfC qual (defScope st) L f cd)) (envOfC qual (defScope st) L f cd) X.stack (s.setGen gn .running) fp (lsOf lo xs sl (xs.drop 1))) [] (Hz (envOfC qual (defScope st) L f cd) X.base X.stack (s.setGen gn .running) fp (lsOf lo xs sl (xs.drop 1))) b := fun b hb => by
    obtain ⟨z1, z2, z3⟩ := S.fpo b hb
    refine ⟨fz_pr (List.mem_cons_of_mem _ hb), z1, z2, .inr ?_, fun y c z => ?_, fun p hp => ?_⟩
    · show (cut s.heap L).objs.size ≤ b
      have ec : (cut s.heap L).objs.size = L := cut_size (Nat.le_of_lt hm.lt)
      rw [ec]
      exact z3
    · have z : (cellsFrom (L + 1) (defScope st).names []).lookup y = some c := z
      rw [cells_nil Tx.D.loc] at z
      cases z
    · exact absurd (show p ∈ ([] : List (Addr × Obj)) from hp) (by simp)
  have hch : ∀ b ∈ L :: fp, Own X pins H b ∧ X.s_0.heap.objs.size ≤ b := fun b hb => by
    refine ⟨hown b (by rcases List.mem_cons.mp hb with q | q <;> simp [q]), ?_⟩
    rcases List.mem_cons.mp hb with q | q
    · rw [q]; exact hL3
    · exact Nat.le_trans hL3 (S.fpo b q).2.2
  have efs : ∀ {s1 : Shared}, Eff X.base X.stack (L :: fp) (s.setGen gn .running) s1 → Eff X.base X.stack (L :: fp) s s1 := fun z => ⟨z.os, z.bare, z.keep, z.slot⟩
  refine wpAny_gsz (n := gn + 1) hgl ?_
  refine next_gl (Φ := fun ee s1 => (∃ ps k' l' pos u v, ee = .susp (.ref ps) false l' k' (gLoop tg e yp ypos it (envOfC qual (defScope st) L f cd)) pos fs ∧ xs[i]? = some u ∧ xs[i + 1]? = some v ∧ s.heap.get? ps = none ∧ Eff X.base X.stack (L :: fp) s s1 ∧
      (∃ its, Vals [u, v] its ∧ IsTup s1.heap ps its.toArray) ∧ tn (i + 1) s1.heap ∧ Again X.prog X.w X.A.in1 (gLoop tg e yp ypos it (envOfC qual (defScope st) L f cd)) fs k' ∧ ∃ m, s1.heap.Ns L m) ∨
    (ee = .ret (.ok (.ret .none)) ∧ xs.length ≤ i + 1 ∧ Eff X.base X.stack (L :: fp) s s1)) hr.hd I.nolimit (by have := hr.dp; omega) hgen hgs ?_ ?_
  · refine e6 _ _ ?_
    by_cases hlen : i + 1 < xs.length
    · refine sg_item (A' := X.A.in1.deeper (envOfC qual (defScope st) L f cd)) e5 e2 e3 Tx.D.co (Tx.int L cd) (fun s0 H0 => Tx.hg _ L cd _ s0 H0) (fun s0 H0 => Tx.he _ L cd _ s0 H0) T Ig hf stn (itz_go q1 q2 hlen)
        (Post := fun y H3 => ∃ TT a b p, y = .ref p ∧ H3 p = some (.tup [a, b]) ∧ xs[i]? = some a ∧ xs[i + 1]? = some b ∧ H3 = upd (upd (Hz (envOfC qual (defScope st) L f cd) X.base X.stack (s.setGen gn .running) fp (lsOf lo xs sl (xs.drop 1))) TT (.tup [a, b])) p (.tup [a, b])) ?_ ?_
      · rintro y H2 ⟨TT, a', b', rfl, ht, rfl, g1, g2⟩
        exact Tx.r2 _ _ TT a' b' _ (by simp) ht fun p hp => ⟨TT, a', b', p, rfl, upd_same, g1 xs q1, by rw [← drop1]; exact g2 _ q2, rfl⟩
      · rintro v y σ1 pins1 H3 s1 I1 st1 fr1 rv ⟨TT, a', b', p, rfl, hp3, g1, g2, rfl⟩ k' l' pos ag
        obtain rfl : v = Value.ref p := rv
        obtain ⟨_, its, r, tt⟩ := I1.hok p _ hp3
        obtain ⟨m1, hm1, _⟩ := I1.loc
        exact .inl ⟨p, k', l', pos, a', b', rfl, g1, g2, not_there (s := s.setGen gn .running) I1 hL1 fr1 hp3 (fun o v z => by cases z), efs (eff_of e0 hL1 hL2 I1), ⟨its, r, tt⟩, st1, ag, m1, hm1⟩
    · exact sg_stop e5 T Ig hf stn (itz_stop q1 q2 (by omega)) e4 fun s1 I1 => .inr ⟨rfl, by omega, efs (eff_of e0 hL1 hL2 I1)⟩
  · rintro ee s1 (⟨ps, k', l', pos, u, v, rfl, g1, g2, hps, Ef, ht, st1, ag, hns1⟩ | ⟨rfl, hlen, Ef⟩)
    · refine .inl ⟨.ref ps, l', k', _, pos, fs, rfl, e3, fun hsz => ?_⟩
      have egs : (End.susp (.ref ps) false l' k' (gLoop tg e yp ypos it (envOfC qual (defScope st) L f cd)) pos fs).genState = .suspended k' l' (gLoop tg e yp ypos it (envOfC qual (defScope st) L f cd)) pos fs false := by
        show GenState.suspended _ _ _ _ _ (false || fs.any Frame.guarded) = _
        rw [e3]
        rfl
      rw [egs] at hsz ⊢
      rw [setGen_size] at hsz
      have ksl : s1.heap.get? sl = some osl := Ef.keep sl osl hosl (fun z => by
        rcases List.mem_cons.mp z with q | q
        · exact S.slL q
        · exact S.slfp q) S.slfs
      obtain ⟨osl', hosl', isl'⟩ := S.lst
      rw [hosl] at hosl'
      cases hosl'
      refine turned_back I Ef hps ht g1 g2 hch hgen hag hafs rfl hsz ⟨⟨it, tn, fs, k', l', pos, rfl, e2, e3, e4, e5, ag, T, st1⟩, S.fpo, ⟨osl, ksl, isl'⟩, S.slfp, S.slL, S.slb, S.slfs, hns1⟩ fun b hb => ⟨hown b hb, fun z => ?_⟩
      rw [z] at hb
      rcases List.mem_cons.mp hb with q | hb
      · obtain ⟨o, _, _, ho, _⟩ := hgen
        rw [← q, hps] at ho; cases ho
      rcases List.mem_cons.mp hb with q | hb
      · obtain ⟨o, _, _, ho, _⟩ := hm
        have ho : s.heap.get? L = some o := ho
        rw [← q, hps] at ho; cases ho
      rcases List.mem_cons.mp hb with q | hb
      · rw [← q, hps] at hosl; cases hosl
      · obtain ⟨o, ho, _⟩ := T.obj i _ stn ps hb
        rw [hps] at ho; cases ho
    · refine .inr ⟨rfl, fun h' hk _ => .inr ⟨rfl, hlen, ?_⟩⟩
      exact back_any (s4 := s1) I Ef hk rfl (allBare_setGen Ef.bare rfl) hch (fun b o q => rfl) (fun b u q => q) fun b u q n => by rw [n] at q; cases q
theorem next_new {L : Addr} {cd : Value} {a : Addr} {gn lo : Nat} {xs : List V} {E : Value → Shared → Prop} (Tx : GT X.prog X.w X.K X.mg X.base x qual st f fd N p0 tg iter e yp ypos fpos g te wi) (hr : Room k X.A) (I : Inv X pins σ H s)
    (hlo : H lo = some (.lst xs)) (hL1 : ∀ b ∈ frs X.stack, b < L) (hL2 : X.base.objs.size ≤ L) (hL3 : X.s_0.heap.objs.size ≤ L) (hgen : s.heap.IsGen a gn)
    (hgs : s.gens[gn]? = some (.fresh (.func (defBody st) (envOfC qual (defScope st) L f cd)))) (hns : ∃ m, s.heap.Ns L m ∧ m p0 = some (.ref lo)) (hown : ∀ b ∈ [a, L], Own X pins H b) (haL : a ≠ L) (hafs : a ∉ frs X.stack) (hab : X.base.get? a = none) :
    wpAny (model X.prog X.w) X.A (pyNext (.ref a)) (Turned X pins σ H tg e yp ypos (envOfC qual (defScope st) L f cd) a gn lo xs 0) E s := by
  obtain ⟨m, hm, hmp⟩ := hns
  have e0 := env0_run (gn := gn) I
  have hgl : gn < s.gens.size := (Array.getElem?_eq_some_iff.mp hgs).1
  have hls : ∀ b ys, lsOf lo xs lo xs b = some ys → ∃ o, (s.setGen gn .running).heap.get? b = some o ∧ IsL o ys := fun b ys q => by
    unfold lsOf at q
    by_cases h1 : b = lo
    · rw [if_pos h1] at q
      cases q
      rw [h1]
      have := isl_of I hlo
      exact this
    · rw [if_neg h1, if_neg h1] at q
      cases q
  have hN : N = p0 :: N.drop 1 := by
    have := List.take_append_drop 1 N
    rw [Tx.D.pre] at this
    exact this.symm
  have Ig := inv_fz (N := N) (σ := some (.ref lo) :: List.replicate (N.length - 1) none) (pr := []) (genv Tx.D L cd) e0 hL1 hL2 hr.hd (Around.frames_deeper (env := envOfC qual (defScope st) L f cd) e0.frames) hr.hd hls (by
    rw [hN]
    simp) ⟨m, hm, fun j y z h1 h2 _ => by
    cases j with
    | zero =>
      rw [hN] at h1
      cases h1
      cases h2
      exact ⟨_, rfl, Tx.D.par, hmp⟩
    | succ j =>
      rw [List.getElem?_cons_succ, List.getElem?_replicate] at h2
      split at h2 <;> cases h2⟩
  obtain ⟨olo, hol, _⟩ := isl_of I hlo
  have hlob : X.base.get? lo = none := by
    cases q : X.base.get? lo with
    | none => rfl
    | some o =>
      have := (I.bs lo o q).2
      rw [hlo] at this; cases this
  have hlof : lo ∉ frs X.stack := fun z => by
    have := I.stkFree lo z
    rw [hlo] at this; cases this
  have hloL : lo ≠ L := fun z => by
    have := (hown L (by simp)).un
    rw [← z, hlo] at this; cases this
  have q1 : SqL X.K (Hz (envOfC qual (defScope st) L f cd) X.base X.stack (s.setGen gn .running) [] (lsOf lo xs lo xs)) lo xs :=
    .inl (.inr ⟨olo, fz_lst hol (fun z => hloL (List.mem_singleton.mp z)) hlof hlob (if_pos rfl)⟩)
  have efs : ∀ {s1 : Shared}, Eff X.base X.stack [L] (s.setGen gn .running) s1 → Eff X.base X.stack [L] s s1 := fun z => ⟨z.os, z.bare, z.keep, z.slot⟩
  have hch : ∀ b ∈ [L], Own X pins H b ∧ X.s_0.heap.objs.size ≤ b := fun b hb => by
    obtain rfl := List.mem_singleton.mp hb
    exact ⟨hown b (by simp), hL3⟩
  refine wpAny_gsz (n := gn + 1) hgl ?_
  refine next_gl (Φ := fun ee s1 => (∃ ps k' l' pos u v it fp tn sl fs, ee = .susp (.ref ps) false l' k' (gLoop tg e yp ypos it (envOfC qual (defScope st) L f cd)) pos fs ∧ splitAtGen fs = none ∧ fs.any Frame.guarded = false ∧ Ends X.prog X.w X.A.in1 fs ∧
      X.A.in1.over (gLoop tg e yp ypos it (envOfC qual (defScope st) L f cd)) fs = X.A.in1.deeper (envOfC qual (defScope st) L f cd) ∧ xs[0]? = some u ∧ xs[0 + 1]? = some v ∧ s.heap.get? ps = none ∧ Eff X.base X.stack [L] s s1 ∧
      (∃ its, Vals [u, v] its ∧ IsTup s1.heap ps its.toArray) ∧ Turn X.prog X.w X.K tg (Itz X.K lo sl) fp it tn ∧ tn (0 + 1) s1.heap ∧ Again X.prog X.w X.A.in1 (gLoop tg e yp ypos it (envOfC qual (defScope st) L f cd)) fs k' ∧ (∃ m, s1.heap.Ns L m) ∧
      (∀ b ∈ fp, b ≠ L ∧ L ≤ b ∧ s.heap.get? b = none ∧ b ∉ frs X.stack ∧ b ≠ ps) ∧ s.heap.get? sl = none ∧ sl ∉ fp ∧ sl ≠ ps ∧ ∃ o, s1.heap.get? sl = some o ∧ IsL o (xs.drop 1)) ∨
    (ee = .ret (.ok (.ret .none)) ∧ xs.length ≤ 0 + 1 ∧ Eff X.base X.stack [L] s s1)) hr.hd I.nolimit (by have := hr.dp; omega) hgen hgs ?_ ?_
  · show Sg _ X.A.in1 _ (.func (defBody st) _) _ [] _
    rw [Tx.body]
    refine sg_first (tg := tg) (e := e) (yp := yp) (ypos := ypos) (N := N) (R := fun J H1 => ∃ sl, J = Itz X.K lo sl ∧ (Hz (envOfC qual (defScope st) L f cd) X.base X.stack (s.setGen gn .running) [] (lsOf lo xs lo xs)) sl = none ∧
      H1 = upd (Hz (envOfC qual (defScope st) L f cd) X.base X.stack (s.setGen gn .running) [] (lsOf lo xs lo xs)) sl (.lst (xs.drop 1))) (Tx.hs _) Ig (Tx.hi _ L cd _ _ _) (Tx.r1 _ lo xs _ q1 fun sl hsl => ⟨sl, rfl, hsl, rfl⟩) ?_
    rintro it fp tn J H1 s1 I1 T stn hf ⟨sl, rfl, hsl, rfl⟩ fs e2 e3 e4 e5
    have q1' : SqL X.K (upd (Hz (envOfC qual (defScope st) L f cd) X.base X.stack (s.setGen gn .running) [] (lsOf lo xs lo xs)) sl (.lst (xs.drop 1))) lo xs := (same_of_new hsl).seq q1
    have q2' : SqL X.K (upd (Hz (envOfC qual (defScope st) L f cd) X.base X.stack (s.setGen gn .running) [] (lsOf lo xs lo xs)) sl (.lst (xs.drop 1))) sl (xs.drop 1) := .inl (.inl upd_same)
    have nth : ∀ {p u}, (upd (Hz (envOfC qual (defScope st) L f cd) X.base X.stack (s.setGen gn .running) [] (lsOf lo xs lo xs)) sl (.lst (xs.drop 1))) p = some u → (∀ o v, u ≠ .frz o v) → s.heap.get? p = none := fun {p u} z1 z2 =>
      not_there (s := s.setGen gn .running) I1 hL1 (fun b z => by cases z) z1 z2
    have hsln := nth upd_same (fun o v z => by cases z)
    by_cases hlen : 0 + 1 < xs.length
    · refine sg_item (A' := X.A.in1.deeper (envOfC qual (defScope st) L f cd)) e5 e2 e3 Tx.D.co (Tx.int L cd) (fun s0 H0 => Tx.hg _ L cd _ s0 H0) (fun s0 H0 => Tx.he _ L cd _ s0 H0) T I1 hf stn (itz_go q1' q2' hlen)
        (Post := fun y H3 => ∃ TT a b p, y = .ref p ∧ H3 p = some (.tup [a, b]) ∧ xs[0]? = some a ∧ xs[0 + 1]? = some b ∧ sl ≠ p ∧ H3 sl = some (.lst (xs.drop 1)) ∧
          H3 = upd (upd (upd (Hz (envOfC qual (defScope st) L f cd) X.base X.stack (s.setGen gn .running) [] (lsOf lo xs lo xs)) sl (.lst (xs.drop 1))) TT (.tup [a, b])) p (.tup [a, b])) ?_ ?_
      · rintro y H2 ⟨TT, a', b', rfl, ht, rfl, g1, g2⟩
        have nT : sl ≠ TT := fun z => by rw [← z, upd_same] at ht; cases ht
        refine Tx.r2 _ _ TT a' b' _ (by rw [hN]; simp) ht fun p hp => ?_
        have np : sl ≠ p := fun z => by
          rw [← z, upd_ne nT, upd_same] at hp
          cases hp
        exact ⟨TT, a', b', p, rfl, upd_same, g1 xs q1', by rw [← drop1]; exact g2 _ q2', np, by rw [upd_ne np, upd_ne nT, upd_same], rfl⟩
      · rintro v y σ1 pins1 H3 s2 I2 st2 fr2 rv ⟨TT, a', b', p, rfl, hp3, g1, g2, np, hs3, rfl⟩ k' l' pos ag
        obtain rfl : v = Value.ref p := rv
        obtain ⟨_, its, r, tt⟩ := I2.hok p _ hp3
        obtain ⟨z9, itl, nl, rl, el⟩ := I2.hok sl _ hs3
        obtain ⟨m1, hm1, _⟩ := I2.loc
        have nsl : sl ∉ fp := fun z => by
          have := (hf sl z).1
          rw [upd_same] at this; cases this
        refine .inl ⟨p, k', l', pos, a', b', it, fp, tn, sl, fs, rfl, e2, e3, e4, e5, g1, g2, not_there (s := s.setGen gn .running) I2 hL1 (fun b z => by cases z) hp3 (fun o v z => by cases z), efs (eff_of e0 hL1 hL2 I2), ⟨its, r, tt⟩, T, st2, ag, ⟨m1, hm1⟩, fun b hb => ?_, hsln, nsl, np, _, el, z9, itl, nl, rl, rfl⟩
        obtain ⟨z1, z2, z3, z4, _⟩ := hf b hb
        have hLb : L ≤ b := by
          rcases z4 with z | z
          · exact absurd (show b ∈ ([] : List Addr) from z) (by simp)
          · have ec : (cut s.heap L).objs.size = L := cut_size (Nat.le_of_lt hm.lt)
            have z : (cut s.heap L).objs.size ≤ b := z
            rwa [ec] at z
        refine ⟨z2, hLb, ?_, z3, fun z => ?_⟩
        · cases q : s.heap.get? b with
          | none => rfl
          | some o =>
            have hbb : X.base.get? b = none := by
              cases qb : X.base.get? b with
              | none => rfl
              | some ob =>
                have := Heap.lt_size qb
                exact absurd (Nat.lt_of_lt_of_le this (Nat.le_trans hL2 hLb)) (Nat.lt_irrefl _)
            obtain ⟨u', hu'⟩ := fz_get (h := s.heap) (base := X.base) (fs := frs X.stack) (pr := [L]) (ls := lsOf lo xs lo xs) q (fun z => z2 (List.mem_singleton.mp z)) z3 hbb
            have hu' : (Hz (envOfC qual (defScope st) L f cd) X.base X.stack (s.setGen gn .running) [] (lsOf lo xs lo xs)) b = some (.frz o u') := hu'
            have nb : b ≠ sl := fun z => nsl (by rw [← z]; exact hb)
            rw [upd_ne nb, hu'] at z1
            cases z1
        · have := fr2 b hb
          rw [z, upd_same] at this
          cases this
    · exact sg_stop e5 T I1 hf stn (itz_stop q1' q2' (by omega)) e4 fun s2 I2 => .inr ⟨rfl, by omega, efs (eff_of e0 hL1 hL2 I2)⟩
  · rintro ee s1 (⟨ps, k', l', pos, u, v, it, fp, tn, sl, fs, rfl, e2, e3, e4, e5, g1, g2, hps, Ef, ht, T, st1, ag, hns1, hfp, hsln, nsl, np, isl⟩ | ⟨rfl, hlen, Ef⟩)
    · refine .inl ⟨.ref ps, l', k', _, pos, fs, rfl, e3, fun hsz => ?_⟩
      have egs : (End.susp (.ref ps) false l' k' (gLoop tg e yp ypos it (envOfC qual (defScope st) L f cd)) pos fs).genState = .suspended k' l' (gLoop tg e yp ypos it (envOfC qual (defScope st) L f cd)) pos fs false := by
        show GenState.suspended _ _ _ _ _ (false || fs.any Frame.guarded) = _
        rw [e3]
        rfl
      rw [egs] at hsz ⊢
      rw [setGen_size] at hsz
      obtain ⟨oa, _, _, hoa, _⟩ := hgen
      obtain ⟨oL, _, _, hoL, _⟩ := hm
      have hoL : s.heap.get? L = some oL := hoL
      have Ef2 : Eff X.base X.stack (L :: fp) s s1 := ⟨Ef.os, Ef.bare, fun b o q n nf => Ef.keep b o q (fun z => n (by rw [List.mem_singleton.mp z]; exact List.mem_cons_self)) nf, Ef.slot⟩
      have hslb : X.base.get? sl = none := by
        cases qb : X.base.get? sl with
        | none => rfl
        | some ob =>
          have := (I.bs sl ob qb).1
          rw [hsln] at this; cases this
      have hslf : sl ∉ frs X.stack := fun z => by
        obtain ⟨_, o, ho, _⟩ := I.stack.mem z
        rw [hsln] at ho; cases ho
      have hslL : sl ≠ L := fun z => by rw [z, hoL] at hsln; cases hsln
      have hch2 : ∀ b ∈ L :: fp, Own X pins H b ∧ X.s_0.heap.objs.size ≤ b := fun b hb => by
        rcases List.mem_cons.mp hb with rfl | hb
        · exact ⟨hown b (by simp), hL3⟩
        · obtain ⟨_, z2, z3, _, _⟩ := hfp b hb
          exact ⟨own_new I z3, Nat.le_trans hL3 z2⟩
      refine turned_back I Ef2 hps ht g1 g2 hch2 ⟨oa, _, _, hoa, by assumption⟩ (fun z => ?_) hafs rfl hsz ⟨⟨it, tn, fs, k', l', pos, rfl, e2, e3, e4, e5, ag, T, st1⟩, fun b hb => ⟨(hfp b hb).1, (hfp b hb).2.2.2.1, (hfp b hb).2.1⟩, isl, nsl, hslL, hslb, hslf, hns1⟩ fun b hb => ?_
      · rcases List.mem_cons.mp z with z | z
        · exact haL z
        · rw [(hfp a z).2.2.1] at hoa; cases hoa
      · rcases List.mem_cons.mp hb with rfl | hb
        · exact ⟨hown b (by simp), fun z => by rw [z, hps] at hoa; cases hoa⟩
        rcases List.mem_cons.mp hb with rfl | hb
        · exact ⟨hown b (by simp), fun z => by rw [z, hps] at hoL; cases hoL⟩
        rcases List.mem_cons.mp hb with rfl | hb
        · exact ⟨own_new I hsln, np⟩
        · exact ⟨own_new I (hfp b hb).2.2.1, (hfp b hb).2.2.2.2⟩
    · refine .inr ⟨rfl, fun h' hk _ => .inr ⟨rfl, hlen, ?_⟩⟩
      exact back_any (s4 := s1) I Ef hk rfl (allBare_setGen Ef.bare rfl) hch (fun b o q => rfl) (fun b u q => q) fun b u q n => by rw [n] at q; cases q
end
end Gl

namespace Z
open PySem PySem.Spec PyProof.Rows L2

/-! ### operators -/
section
variable {X : Cx}
def CFd (_ j : Int) : Prop := j ≠ 0 ∧ j.natAbs.log2 < 9000
theorem op_fdivZ : OpR X (binaryOp .FloorDiv) (rI CFd fun i j => .int (i.fdiv j)) := opI fun i j _ _ _ _ _ hc q => floordiv_int hc.1 q (.inl (PyProof.noPylong_of_log2 hc.2))
theorem pe_globE {x : Str} {pos : Pos} {v : V} (h : ∃ u, X.mg x = some u ∧ RelV v u) (hg : Gl X x := by rfl) (hdb : (x == ("__debug__" : Str)) = false := by decide) : PE X (.Name x pos) (tC v) := by
  obtain ⟨u, h1, h2⟩ := h
  exact pe_glob hg h1 h2 hdb
theorem pe_globR {x : Str} {pos : Pos} {a : Addr} (h : X.mg x = some (.ref a)) (hg : Gl X x := by rfl) (hdb : (x == ("__debug__" : Str)) = false := by decide) : PE X (.Name x pos) (tC (.ref a)) := pe_glob hg h rfl hdb
end
/-- an own error class over ValueError -/
structure ExcX (K : PySem.W.Frag) (mg : Str → Option Value) (x : Str) (C : Addr) : Prop where
  g : mg x = some (.ref C)
  q : PySem.W.excIn K C [.type "ValueError", .type "Exception", .type "BaseException", .type "object"] "ValueError.__new__" = true
  k : PySem.W.keepIn K (.ref C) = true
  t : PySem.W.typeIn K (.ref C) = some (.type "type")
  c : ExcC K C
  v : PySem.W.subIn K (.ref C) (.type "ValueError") = some true
section
variable {X : Cx} {C D : Addr} {K : PySem.W.Frag} {mg : Str → Option Value} {x y : Str} {b : Bool}
theorem pmk {m : Str} {j : Nat} {p p2 pos : Pos} (E : ExcX X.K X.mg x C) (hg : Gl X x) (hdb : (x == ("__debug__" : Str)) = false := by decide) :
    PMk X (.Call (.Name x p) [.Constant (.str m) j p2] [] pos) (fun _ H Q => Q (.ref C) none H) := pmk_own PySem.F.excBase_ValueError E.q E.g E.k (raises_own E.c.hs E.t) hg hdb
theorem exm (E : ExcX K mg x C) (h : PySem.W.subIn K (.ref D) (.ref C) = some b) : PySem.W.exmOne K (.ref D) (.ref C) = some b := PySem.W.exm_ref E.c.hs E.c.hd E.t h
theorem kit_own (E : ExcX K mg x C) (h : PySem.W.subIn K (.ref D) (.ref C) = some b) (hs : PySem.W.subIn K (.ref C) (.ref C) = some true) : PySem.W.kitOne K (.ref D) (.ref C) = some b := by
  unfold PySem.W.kitOne
  by_cases e : D = C
  · subst e
    rw [hs] at h
    cases h
    rw [if_pos (by simp)]
  · rw [if_neg (by simpa using e)]
    unfold PySem.W.kitCls
    obtain ⟨cd, hc, _⟩ := PySem.W.any_some E.c.hd
    have e2 : ((PySem.W.clsIn K C).isSome && PySem.W.typeIn K (.ref C) == some (.type "type")) = true := by rw [hc, E.t] <;> rfl
    show (if _ then _ else _) = _
    rw [if_pos e2, h]
theorem kit_ve (E : ExcX K mg x D) : PySem.W.kitOne K (.ref D) (.type "ValueError") = some true := by
  unfold PySem.W.kitOne
  rw [if_neg (by simp)]
  unfold PySem.W.kitCls
  show (if _ then _ else _) = _
  rw [if_pos (by decide +kernel), E.v]
/-- isinstance of the error that a suite holds -/
def rIsEx (K : PySem.W.Frag) (cls : Value) (d : Option Addr) (a : Addr) : List V → Hp → VK → Prop := fun xs H Q => ∃ D, cls = .ref D ∧ d = none ∧ ExcC K D ∧ rIsE K D a xs H Q
theorem call_isE {a : Addr} {oe : Obj} {cls : Value} {d : Option Addr} {pn : List (Addr × Obj)} (hz : Zc cls d oe) (hf : ∃ vs, oe.data = .fields vs) : CallR (X.suite a ((a, oe) :: pn)) (.builtin "isinstance") (rIsEx X.K cls d a) := by
  intro pins s σ H xs us Q I r h
  obtain ⟨D, e1, e2, c, h⟩ := h
  subst e1
  subst e2
  exact L2.call_isE c hz hf pins s σ H xs us Q I r h
end

/-! ### heaps -/
theorem same_upd {H : Hp} {p : Addr} {o : HO} (h : H p = none) : Same H (upd H p o) := fun b x e => by
  rw [upd_ne (ne_of_none e h)]
  exact e
theorem Same.seqT {K : PySem.W.Frag} {H H' : Hp} {a : Addr} {xs : List V} (e : Same H H') (h : SqT K H a xs) : SqT K H' a xs := by
  rcases h with (h | ⟨o, h⟩) | h
  · exact .inl (.inl (e _ _ h))
  · exact .inl (.inr ⟨o, e _ _ h⟩)
  · exact .inr h
theorem seqT {K : PySem.W.Frag} {H H' : Hp} {a : Addr} {xs : List V} (e : Same H H') (h : SqT K H a xs) : SqT K H' a xs := Same.seqT e h
theorem sz {n : Nat} (h : n ≤ 1000) : n ≤ sizeLine := Nat.le_trans h (by decide)

/-! ### readings, step by step -/
def NewT (Q : VK) : List V → Hp → Prop := fun xs H1 => xs.length ≤ sizeLine ∧ ∀ p, H1 p = none → Q (.ref p) (upd H1 p (.tup xs))
def NewL (Q : VK) : List V → Hp → Prop := fun xs H1 => xs.length ≤ sizeLine ∧ ∀ p, H1 p = none → Q (.ref p) (upd H1 p (.lst xs))
section
variable {σ : L2.St} {H : Hp} {n : L2.St → Hp → Prop} {r : VK} {b c : L2.St → Hp → Prop} {t u : TS} {te ta tb : TE} {tt tu : TT} {Q : VK} {QB : Bool → Hp → Prop} {v w x y : V} {i j : Int} {K : PySem.W.Frag}
theorem z_seq (h : t ⟨u ⟨n, r, b, c⟩, r, b, c⟩ σ H) : tSeq t u ⟨n, r, b, c⟩ σ H := h
theorem z_asg {k : Nat} (h : te σ H fun x H1 => n (σ.set k (some x)) H1) : tAsg te (gName k) ⟨n, r, b, c⟩ σ H := h
theorem z_asgS {to ti : TE} {st : TSet} (h : te σ H fun v H0 => to σ H0 fun o H1 => ti σ H1 fun k H2 => st o k v H2 fun H3 => n σ H3) : tAsg te (gSub to ti st) ⟨n, r, b, c⟩ σ H := h
theorem z_drop (h : te σ H fun _ H1 => n σ H1) : tDrop te ⟨n, r, b, c⟩ σ H := h
theorem z_ret (h : te σ H r) : tRet te ⟨n, r, b, c⟩ σ H := h
theorem z_retN (h : r .non H) : tRetN ⟨n, r, b, c⟩ σ H := h
theorem z_next (h : n σ H) : tNext ⟨n, r, b, c⟩ σ H := h
theorem z_brk (h : b σ H) : tBreak ⟨n, r, b, c⟩ σ H := h
theorem z_cont (h : c σ H) : tCont ⟨n, r, b, c⟩ σ H := h
theorem z_ifs (h : tt σ H fun k H1 => if k = true then t ⟨n, r, b, c⟩ σ H1 else u ⟨n, r, b, c⟩ σ H1) : tIfS tt t u ⟨n, r, b, c⟩ σ H := h
theorem z_par {p q : Nat} {tl : TA} (h : tl σ H fun vs H1 => ∃ v w, vs = [v, w] ∧ n ((σ.set p (some v)).set q (some w)) H1) : tPar p q tl ⟨n, r, b, c⟩ σ H := h
theorem z_two {R : V → V → Prop} (h : R v w) : ∃ v' w', [v, w] = [v', w'] ∧ R v' w' := ⟨v, w, rfl, h⟩
theorem z_aug {k : Nat} {ti : TIp} (h : σ[k]? = some (some x)) (q : te σ H fun y H1 => ti x y H1 fun z H2 => n (σ.set k (some z)) H2) : tAug k te ti ⟨n, r, b, c⟩ σ H := ⟨x, h, q⟩
theorem z_ipI {f : Int → Int → Int} (q : Q (.int (f i j)) H) : ipI f (.int i) (.int j) H Q := ⟨i, j, rfl, rfl, q⟩
theorem z_var {k : Nat} (h : σ[k]? = some (some v)) (q : Q v H) : tVar k σ H Q := ⟨v, h, q⟩
theorem z_c (q : Q v H) : tC v σ H Q := q
theorem z_op {g : R2} (h : ta σ H fun x H1 => tb σ H1 fun y H2 => g x y H2 Q) : tOp g ta tb σ H Q := h
theorem z_un {g : V → Hp → VK → Prop} (h : ta σ H fun x H1 => g x H1 Q) : tUn g ta σ H Q := h
theorem z_I0 {g : Int → Int → V} (q : Q (g i j) H) : rI0 g (.int i) (.int j) H Q := ⟨i, j, rfl, rfl, q⟩
theorem z_I {C : Int → Int → Prop} {g : Int → Int → V} (hc : C i j) (q : Q (g i j) H) : rI C g (.int i) (.int j) H Q := ⟨i, j, rfl, rfl, hc, q⟩
theorem z_U {g : Int → V} (q : Q (g i) H) : rU g (.int i) H Q := ⟨i, rfl, q⟩
theorem z_eqI (q : Q (.bl (decide (i = j))) H) : rEq (.int i) (.int j) H Q := ⟨rfl, by rw [show decide (V.int i = V.int j) = decide (i = j) by simp]; exact q⟩
theorem z_neI (q : Q (.bl (decide (¬ i = j))) H) : rNe (.int i) (.int j) H Q := ⟨rfl, by rw [show (!decide (V.int i = V.int j)) = decide (¬ i = j) by simp]; exact q⟩
theorem z_eq (h : scal x y = true) (q : Q (.bl (decide (x = y))) H) : rEq x y H Q := ⟨h, q⟩
theorem z_test (h : te σ H fun x H1 => ∃ k, x = .bl k ∧ QB k H1) : tTest te σ H QB := h
theorem z_tB (h : te σ H fun x H1 => ∃ k, x = .bl k ∧ QB k H1) : tB te σ H QB := h
theorem z_bl {k : Bool} {R : Bool → Prop} (q : R k) : ∃ k', V.bl k = V.bl k' ∧ R k' := ⟨k, rfl, q⟩
theorem z_notT (h : tt σ H fun k H1 => QB (!k) H1) : tNot tt σ H QB := h
theorem z_andT (h : tt σ H fun k H1 => if k = true then tu σ H1 QB else QB false H1) : tAnd tt tu σ H QB := h
theorem z_orT (h : tt σ H fun k H1 => if k = true then QB true H1 else tu σ H1 QB) : tOr tt tu σ H QB := h
theorem z_andV (h : ta σ H fun x H1 => ∃ k, x = .bl k ∧ if k = true then tb σ H1 Q else Q (.bl false) H1) : tAndV ta tb σ H Q := h
theorem z_orV (h : ta σ H fun x H1 => ∃ k, x = .bl k ∧ if k = true then Q (.bl true) H1 else tb σ H1 Q) : tOrV ta tb σ H Q := h
theorem z_notV (h : ta σ H fun x H1 => ∃ k, x = .bl k ∧ Q (.bl (!k)) H1) : tNotV ta σ H Q := h
theorem z_ifE (h : tt σ H fun k H1 => if k = true then ta σ H1 Q else tb σ H1 Q) : tIf tt ta tb σ H Q := h
theorem z_chain {g g' : R2} {tc : TE} (h : ta σ H fun x H1 => tb σ H1 fun y H2 => g x y H2 fun z H3 => ∃ k, z = .bl k ∧ (if k = true then tc σ H3 fun w' H4 => g' y w' H4 Q else Q (.bl false) H3)) : tChain g g' ta tb tc σ H Q := h
theorem z_nil {R : List V → Hp → Prop} (q : R [] H) : tNil σ H R := q
theorem z_cons {tr : TA} {R : List V → Hp → Prop} (h : ta σ H fun x H1 => tr σ H1 fun xs H2 => R (x :: xs) H2) : tCons ta tr σ H R := h
theorem z_tup {tl : TA} (h : tl σ H (NewT Q)) : tTup tl σ H Q := h
theorem z_lst {tl : TA} (h : tl σ H (NewL Q)) : tLst tl σ H Q := h
theorem z_newT {xs : List V} (hl : xs.length ≤ 1000) (q : ∀ p H', H p = none → Same H H' → H' p = some (.tup xs) → Q (.ref p) H') : NewT Q xs H := ⟨sz hl, fun p hp => q p _ hp (same_upd hp) upd_same⟩
theorem z_newL {xs : List V} (hl : xs.length ≤ 1000) (q : ∀ p H', H p = none → Same H H' → H' p = some (.lst xs) → Q (.ref p) H') : NewL Q xs H := ⟨sz hl, fun p hp => q p _ hp (same_upd hp) upd_same⟩
theorem z_cb {g : List V → Hp → VK → Prop} {tl : TA} (h : tl σ H fun vs H1 => g vs H1 Q) : tCB g tl σ H Q := h
theorem z_call {sp : Sp} {E : XK} {tl : TA} (h : tl σ H fun vs H1 => sp vs H1 Q E) : tCall sp [] E tl σ H Q := by
  unfold tCall
  simpa only [List.append_nil] using h
theorem z_callS {sp : Sp} {E : L2.St → XK} {tl : TA} (h : tl σ H fun vs H1 => sp vs H1 Q (E σ)) : tCallS sp E tl σ H Q := h
theorem z_ixL {p : Addr} {xs : List V} (h : SqL K H p xs) (ha : atI xs i = some v) (q : Q v H) : rIxL K (.ref p) (.int i) H Q := ⟨p, xs, i, v, rfl, rfl, h, ha, q⟩
theorem z_ixT {p : Addr} {xs : List V} (h : SqT K H p xs) (ha : atI xs i = some v) (q : Q v H) : rIxT K (.ref p) (.int i) H Q := ⟨p, xs, i, v, rfl, rfl, h, ha, q⟩
theorem z_setL {p : Addr} {xs : List V} {k : Nat} {R : Hp → Prop} (h : H p = some (.lst xs)) (hk : ixN xs.length i = some k) (q : R (upd H p (.lst (xs.set k v)))) : rSetL (.ref p) (.int i) v H R := ⟨p, xs, i, k, rfl, rfl, h, hk, q⟩
theorem z_if {p : Prop} [Decidable p] {A B : Prop} (h1 : p → A) (h2 : ¬ p → B) : if decide p = true then A else B := by
  by_cases h : p
  · rw [if_pos (decide_eq_true h)]
    exact h1 h
  · rw [if_neg (by simpa using h)]
    exact h2 h
theorem z_ifB {k : Bool} {A B : Prop} (h1 : k = true → A) (h2 : k = false → B) : if k = true then A else B := by
  cases k with
  | true => exact h1 rfl
  | false => exact h2 rfl
/-- and, or, not of a test whose answer is known, the heap as it was -/
theorem z_andK {k k' : Bool} (h : k = true → ∀ R : Bool → Hp → Prop, R k' H → tu σ H R) (q : QB (k && k') H) : if k = true then tu σ H QB else QB false H := by
  cases k with
  | true => exact h rfl QB q
  | false => exact q
theorem z_orK {k k' : Bool} (h : k = false → ∀ R : Bool → Hp → Prop, R k' H → tu σ H R) (q : QB (k || k') H) : if k = true then QB true H else tu σ H QB := by
  cases k with
  | true => exact q
  | false => exact h rfl QB q
theorem z_andKV {k k' : Bool} (h : k = true → ∀ R : VK, R (.bl k') H → tb σ H R) (q : Q (.bl (k && k')) H) : if k = true then tb σ H Q else Q (.bl false) H := by
  cases k with
  | true => exact h rfl Q q
  | false => exact q
theorem z_orKV {k k' : Bool} (h : k = false → ∀ R : VK, R (.bl k') H → tb σ H R) (q : Q (.bl (k || k')) H) : if k = true then Q (.bl true) H else tb σ H Q := by
  cases k with
  | true => exact q
  | false => exact h rfl Q q
/-- the second comparison of a chain -/
theorem z_chK {k k' : Bool} {tc : TE} {g' : R2} (h : k = true → ∀ R : VK, R (.bl k') H → tc σ H fun w' H4 => g' y w' H4 R) (q : Q (.bl (k && k')) H) :
    if k = true then tc σ H fun w' H4 => g' y w' H4 Q else Q (.bl false) H := by
  cases k with
  | true => exact h rfl Q q
  | false => exact q
theorem z_ty {x : V} {t : String} {T : String} {k : Bool} {H : Hp} {Q : VK} (h : TyX K H x (.type t)) (e : kitB t T = some k) (q : Q (.bl k) H) : rIsi K [x, .ty T] H Q := ⟨x, .ty T, .type t, .type T, k, rfl, .ty T, h, kit_ty e, q⟩
end
end Z
namespace Z
open PySem PySem.Spec PyProof.Rows L2
theorem pe_powc {X : Cx} {a b v : Int} {j1 j2 : Nat} {p1 p2 pos : Pos} (h0 : CPow a b) (hv : a ^ b.toNat = v) : PE X (.BinOp (.Constant (.int a) j1 p1) .Pow (.Constant (.int b) j2 p2) pos) (tC (.int v)) := by
  subst hv
  exact ⟨fun pins s σ H Q I h => (pe_op op_pow pe_int pe_int).run pins s σ H Q I ⟨a, b, rfl, rfl, h0, h⟩⟩
def rInt1 : List V → Hp → VK → Prop := fun xs H Q => (∃ i, xs = [.int i] ∧ Q (.int i) H) ∨ ∃ k, xs = [.bl k] ∧ Q (.int (if k then 1 else 0)) H
def rAbs : List V → Hp → VK → Prop := fun xs H Q => ∃ i, xs = [.int i] ∧ Q (.int (if i < 0 then -i else i)) H
def rLen (K : PySem.W.Frag) : List V → Hp → VK → Prop := fun xs H Q => ∃ p ys, xs = [.ref p] ∧ (SqL K H p ys ∨ SqT K H p ys) ∧ Q (.int ys.length) H
theorem c_int {X : Cx} : CallR X (.type "int") rInt1 := call_int1
theorem c_abs {X : Cx} : CallR X (.builtin "abs") rAbs := call_abs
theorem c_len {X : Cx} : CallR X (.builtin "len") (rLen X.K) := call_len_seq
section
variable {H : Hp} {Q : VK} {i j : Int} {v : V} {R : Prop}
theorem z_int1 (q : Q (.int i) H) : rInt1 [.int i] H Q := .inl ⟨i, rfl, q⟩
theorem z_int1b {k : Bool} (q : Q (.int (if k then 1 else 0)) H) : rInt1 [.bl k] H Q := .inr ⟨k, rfl, q⟩
theorem z_abs (q : Q (.int (if i < 0 then -i else i)) H) : rAbs [.int i] H Q := ⟨i, rfl, q⟩
theorem z_gcd (q : Q (.int ((Nat.gcd i.natAbs j.natAbs : Nat) : Int)) H) : rGcd [.int i, .int j] H Q := ⟨i, j, rfl, q⟩
theorem z_lenL {K : PySem.W.Frag} {p : Addr} {xs : List V} (h : SqL K H p xs) (q : Q (.int (xs.length : Int)) H) : rLen K [.ref p] H Q := ⟨p, xs, rfl, .inl h, q⟩
theorem z_lenT {K : PySem.W.Frag} {p : Addr} {xs : List V} (h : SqT K H p xs) (q : Q (.int (xs.length : Int)) H) : rLen K [.ref p] H Q := ⟨p, xs, rfl, .inr h, q⟩
theorem z_isII {K : PySem.W.Frag} (q : Q (.bl true) H) : rIsi K [.int i, .ty "int"] H Q := z_ty (.base (.int i)) (by decide +kernel) q
theorem z_isIB {K : PySem.W.Frag} (q : Q (.bl false) H) : rIsi K [.int i, .ty "bool"] H Q := z_ty (.base (.int i)) (by decide +kernel) q
theorem z_isBB {K : PySem.W.Frag} {k : Bool} (q : Q (.bl true) H) : rIsi K [.bl k, .ty "bool"] H Q := z_ty (.base (.bl k)) (by decide +kernel) q
theorem z_isTT {K : PySem.W.Frag} {p : Addr} {xs : List V} (h : H p = some (.tup xs)) (q : Q (.bl true) H) : rIsi K [.ref p, .ty "tuple"] H Q := z_ty (.base (.tup h)) (by decide +kernel) q
theorem z_isLL {K : PySem.W.Frag} {p : Addr} {xs : List V} (h : H p = some (.lst xs)) (q : Q (.bl true) H) : rIsi K [.ref p, .ty "list"] H Q := z_ty (.base (.lst h)) (by decide +kernel) q
theorem z_new {xs : List V} {F : Addr → Prop} (h : xs.length ≤ 1000) (q : ∀ p, H p = none → F p) : xs.length ≤ sizeLine ∧ ∀ p, H p = none → F p := ⟨sz h, q⟩
end
end Z
namespace Z
open PySem PySem.Spec PyProof.Rows L2
section
variable {σ : L2.St} {H : Hp} {n : L2.St → Hp → Prop} {r : VK} {b c : L2.St → Hp → Prop} {tb : TS} {K : PySem.W.Frag}
/-- for k in range(m) -/
theorem z_forR1 {ta : TA} {k : Nat} (m : Nat) (hm : m < 2 ^ 62) (ha : ∀ R : List V → Hp → Prop, R [.int (m : Int)] H → ta σ H R) (Pv : Nat → L2.St → Hp → Prop) (h0 : Pv 0 σ H)
    (hs : ∀ i σ H, i < m → Pv i σ H → tb ⟨Pv (i + 1), r, n, Pv (i + 1)⟩ (σ.set k (some (.int (i : Int)))) H) (hd : ∀ σ H, Pv m σ H → n σ H) : tFor (iRng1 ta) (gName k) tb ⟨n, r, b, c⟩ σ H := by
  refine ha _ ⟨(m : Int), rfl, by omega, by omega, ?_⟩
  refine for_range (lo := 0) (n := (m : Int).toNat) Pv h0 (fun i σ' H' hi p => ?_) (fun σ' H' p => hd σ' H' (by simpa using p))
  have e : (0 : Int) + (i : Int) = (i : Int) := Int.zero_add _
  show tb _ (σ'.set k (some (.int ((0 : Int) + (i : Int))))) H'
  rw [e]
  exact hs i σ' H' (by simpa using hi) p
/-- for k in range(lo, hi) -/
theorem z_forR2 {ta : TA} {k : Nat} (lo : Int) (m : Nat) (hl : -(2 ^ 61) ≤ lo ∧ lo < 2 ^ 61) (hm : m < 2 ^ 61) (ha : ∀ R : List V → Hp → Prop, R [.int lo, .int (lo + (m : Int))] H → ta σ H R) (Pv : Nat → L2.St → Hp → Prop) (h0 : Pv 0 σ H)
    (hs : ∀ i σ H, i < m → Pv i σ H → tb ⟨Pv (i + 1), r, n, Pv (i + 1)⟩ (σ.set k (some (.int (lo + (i : Int))))) H) (hd : ∀ σ H, Pv m σ H → n σ H) : tFor (iRng2 ta) (gName k) tb ⟨n, r, b, c⟩ σ H := by
  refine ha _ ⟨lo, lo + (m : Int), rfl, by omega, ?_⟩
  have en : (lo + (m : Int) - lo).toNat = m := by omega
  rw [en]
  exact for_range (lo := lo) (n := m) Pv h0 hs hd
/-- for x in a list, in a tuple -/
theorem z_forL {tl : TE} {g : TG} {a : Addr} {xs : List V} (ha : ∀ R : VK, R (.ref a) H → tl σ H R) (hx : SqL K H a xs) (Pv : Nat → L2.St → Hp → Prop) (h0 : Pv 0 σ H) (hl : ∀ i σ H, i ≤ xs.length → Pv i σ H → SqL K H a xs)
    (hs : ∀ i x σ H, xs[i]? = some x → Pv i σ H → g x σ H fun σ2 H2 => tb ⟨Pv (i + 1), r, n, Pv (i + 1)⟩ σ2 H2) (hd : ∀ σ H, Pv xs.length σ H → n σ H) : tFor (iList K tl) g tb ⟨n, r, b, c⟩ σ H :=
  ha _ ⟨a, rfl, ⟨xs, hx⟩, for_list Pv h0 hl hs hd⟩
theorem z_forT {tl : TE} {g : TG} {a : Addr} {xs : List V} (ha : ∀ R : VK, R (.ref a) H → tl σ H R) (hx : SqT K H a xs) (Pv : Nat → L2.St → Hp → Prop) (h0 : Pv 0 σ H) (hl : ∀ i σ H, i ≤ xs.length → Pv i σ H → SqT K H a xs)
    (hs : ∀ i x σ H, xs[i]? = some x → Pv i σ H → g x σ H fun σ2 H2 => tb ⟨Pv (i + 1), r, n, Pv (i + 1)⟩ σ2 H2) (hd : ∀ σ H, Pv xs.length σ H → n σ H) : tFor (iTup K tl) g tb ⟨n, r, b, c⟩ σ H :=
  ha _ ⟨a, rfl, ⟨xs, hx⟩, for_tup Pv h0 hl hs hd⟩
theorem z_gName {k : Nat} {v : V} {R : L2.St → Hp → Prop} (q : R (σ.set k (some v)) H) : gName k v σ H R := q
end
end Z
namespace Z
section
variable {A B : Prop}
theorem z_ifT (q : A) : if true = true then A else B := by
  rw [if_pos rfl]
  exact q
theorem z_ifF (q : B) : if false = true then A else B := by
  rw [if_neg Bool.false_ne_true]
  exact q
theorem z_ifNF (q : A) : if (!false) = true then A else B := z_ifT q
theorem z_ifNT (q : B) : if (!true) = true then A else B := z_ifF q
theorem z_ifN {p : Prop} [Decidable p] (h1 : ¬ p → A) (h2 : p → B) : if (!decide p) = true then A else B := by
  by_cases h : p
  · rw [if_neg (by simpa using h)]
    exact h2 h
  · rw [if_pos (by simpa using h)]
    exact h1 h
end
end Z
namespace Z
theorem z_ifYes {A B : Prop} {k : Bool} (h : k = true) (q : A) : if k = true then A else B := by
  rw [if_pos h]
  exact q
theorem z_ifNo {A B : Prop} {k : Bool} (h : k = false) (q : B) : if k = true then A else B := by
  rw [if_neg (by rw [h]; exact Bool.false_ne_true)]
  exact q
end Z
namespace Z
open PySem PySem.Spec PyProof.Rows L2
theorem z_exc {K : PySem.W.Frag} {cv cls : Value} {i : Nat} {ts : Addr → Value → Option Addr → TS} {Wout : WX} {n : L2.St → Hp → Prop} {r : VK} {b c : L2.St → Hp → Prop} {d : Option Addr} {σ : L2.St} {H : Hp} (e : PySem.W.exmOne K cls cv = some true)
    (h : ∀ a, H a = none → ts a cls d ⟨fun σ' H' => n (σ'.set i none) H', r, fun σ' H' => b (σ'.set i none) H', fun σ' H' => c (σ'.set i none) H'⟩ (σ.set i (some (.ref a))) H) : WE (wAs K cv i ts Wout ⟨n, r, b, c⟩) σ cls d H :=
  ⟨true, e, fun _ a ha => h a ha, fun z => Bool.noConfusion z⟩
theorem z_excO {K : PySem.W.Frag} {cv cls : Value} {ts : Addr → Value → Option Addr → TS} {Wout : WX} {D : Ends} {d : Option Addr} {σ : L2.St} {H : Hp} (e : PySem.W.exmOne K cls cv = some true)
    (h : ∀ a, H a = none → ts a cls d D σ H) : WE (wOnly K cv ts Wout D) σ cls d H :=
  ⟨true, e, fun _ a ha => h a ha, fun z => Bool.noConfusion z⟩
theorem z_isEr {K : PySem.W.Frag} {a C D : Addr} {k : Bool} {H : Hp} {Q : VK} (x : ExcC K D) (e : PySem.W.kitOne K (.ref D) (.ref C) = some k) (q : Q (.bl k) H) : rIsEx K (.ref D) none a [.ref a, .ref C] H Q :=
  ⟨D, rfl, rfl, x, .ref C, .ref C, k, rfl, fun u h => h, e, q⟩
theorem z_isEt {K : PySem.W.Frag} {a D : Addr} {t : String} {k : Bool} {H : Hp} {Q : VK} (x : ExcC K D) (e : PySem.W.kitOne K (.ref D) (.type t) = some k) (q : Q (.bl k) H) : rIsEx K (.ref D) none a [.ref a, .ty t] H Q :=
  ⟨D, rfl, rfl, x, .ty t, .type t, k, rfl, fun u h => h, e, q⟩
/-- two lists, tuples of flat things compared -/
theorem z_eqD {K : PySem.W.Frag} {x y : V} {d e : PyData} {H : Hp} {Q : VK} (h1 : Dp K H x d) (h2 : Dp K H y e) (s1 : SeqAt.shaped d = true) (s2 : SeqAt.shaped e = true) (q : Q (.bl (PyData.eqv d e)) H) : rEqD K x y H Q := ⟨d, e, h1, h2, s1, s2, q⟩
end Z
namespace Z
open PySem PySem.Spec PyProof.Rows L2
theorem z_eqSame {K : PySem.W.Frag} {x y : V} {d : PyData} {H : Hp} {Q : VK} (h1 : Dp K H x d) (h2 : Dp K H y d) (s : SeqAt.shaped d = true) (q : Q (.bl true) H) : rEqD K x y H Q :=
  ⟨d, d, h1, h2, s, s, by rw [SeqAt.eqv_refl d (SeqAt.canLay_of_shaped s)]; exact q⟩
theorem dpT2 {K : PySem.W.Frag} {H : Hp} {p : Addr} {n d : Int} (h : H p = some (.tup [.int n, .int d])) : Dp K H (.ref p) (.tuple [.int n, .int d]) := .tup (.inl (.inl h)) (.cons (.int n) (.cons (.int d) .nil))
theorem dpB3 {K : PySem.W.Frag} {H : Hp} {p : Addr} {a b c : Bool} (h : H p = some (.lst [.bl a, .bl b, .bl c])) : Dp K H (.ref p) (.list [.bool a, .bool b, .bool c]) := .lst (.inl (.inl h)) (.cons (.bl a) (.cons (.bl b) (.cons (.bl c) .nil)))
end Z
namespace Z
open PySem PySem.Spec PyProof.Rows L2
theorem z_cut {t u : TS} {n : L2.St → Hp → Prop} {r : VK} {b c : L2.St → Hp → Prop} {σ : L2.St} {H : Hp} (Mid : L2.St → Hp → Prop) (h : t ⟨Mid, r, b, c⟩ σ H) (k : ∀ σ' H', Mid σ' H' → u ⟨n, r, b, c⟩ σ' H') : Evl.tCut t u ⟨n, r, b, c⟩ σ H := ⟨Mid, h, k⟩
end Z
namespace Z
open PySem PySem.Spec PyProof.Rows L2
section
variable {σ : L2.St} {H : Hp} {n : L2.St → Hp → Prop} {r : VK} {b c : L2.St → Hp → Prop} {te : TE} {K : PySem.W.Frag} {a : Addr} {xs : List V} {gs : TGs} {m : Nat} {v : V}
theorem z_asgT (h : te σ H fun x H1 => ∃ a xs, x = .ref a ∧ SqT K H1 a xs ∧ xs.length = m ∧ gs xs σ H1 n) : tAsg te (gTup K m gs) ⟨n, r, b, c⟩ σ H := h
theorem z_asgL (h : te σ H fun x H1 => ∃ a xs, x = .ref a ∧ SqL K H1 a xs ∧ xs.length = m ∧ gs xs σ H1 n) : tAsg te (gLst K m gs) ⟨n, r, b, c⟩ σ H := h
theorem z_up (h : SqT K H a xs) (hm : xs.length = m) (q : gs xs σ H n) : ∃ a' xs', V.ref a = .ref a' ∧ SqT K H a' xs' ∧ xs'.length = m ∧ gs xs' σ H n := ⟨a, xs, rfl, h, hm, q⟩
theorem z_upL (h : SqL K H a xs) (hm : xs.length = m) (q : gs xs σ H n) : ∃ a' xs', V.ref a = .ref a' ∧ SqL K H a' xs' ∧ xs'.length = m ∧ gs xs' σ H n := ⟨a, xs, rfl, h, hm, q⟩
theorem z_gT (h : SqT K H a xs) (hm : xs.length = m) (q : gs xs σ H n) : gTup K m gs (.ref a) σ H n := ⟨a, xs, rfl, h, hm, q⟩
theorem z_gcons {t : TG} {u : TGs} {R : L2.St → Hp → Prop} (h : t v σ H fun σ' H' => u xs σ' H' R) : gCons t u (v :: xs) σ H R := ⟨v, xs, rfl, h⟩
theorem z_gnil {R : L2.St → Hp → Prop} (h : R σ H) : gNil [] σ H R := ⟨rfl, h⟩
end
end Z
namespace Z
open PySem PySem.Spec PyProof.Rows L2
section
variable {K : PySem.W.Frag} {Wout : WX} {D : Ends} {c cls : Value} {ts : Addr → Value → Option Addr → TS} {l : List (Value × (Addr → Value → Option Addr → TS))} {σ : L2.St} {H : Hp} {d : Option Addr}
theorem z_many1 (e : PySem.W.exmOne K cls c = some true) (h : ∀ a, H a = none → ts a cls d D σ H) : WE (wMany K Wout D ((c, ts) :: l)) σ cls d H := ⟨true, e, fun _ a ha => h a ha, fun z => Bool.noConfusion z⟩
theorem z_many0 (e : PySem.W.exmOne K cls c = some false) (h : WE (wMany K Wout D l) σ cls d H) : WE (wMany K Wout D ((c, ts) :: l)) σ cls d H := ⟨false, e, fun z => Bool.noConfusion z, fun _ => h⟩
theorem z_eqS {x : Str} {Q : VK} (q : Q (.bl true) H) : rEq (.str x) (.str x) H Q := ⟨rfl, by rw [decide_eq_true rfl]; exact q⟩
end
end Z
/-! ### data: what a value stands for -/
namespace Z
open PySem PySem.Spec PyProof.Rows L2
section
variable {K : PySem.W.Frag} {H H' : Hp} {v : V} {d d1 d2 d3 d4 d5 d6 : PyData}
mutual
theorem dp_mono (s : Same H H') : ∀ {d : PyData} {v : V}, Dp K H v d → Dp K H' v d
  | _, _, .non => .non
  | _, _, .bl b => .bl b
  | _, _, .int i => .int i
  | _, _, .str x => .str x
  | _, _, .lst h a => .lst (s.seq h) (dp_monoA s a)
  | _, _, .tup h a => .tup (seqT s h) (dp_monoA s a)
theorem dp_monoA (s : Same H H') : ∀ {ds : List PyData} {vs : List V}, DpAll K H vs ds → DpAll K H' vs ds
  | _, _, .nil => .nil
  | _, _, .cons h a => .cons (dp_mono s h) (dp_monoA s a)
end
mutual
def tupOnly : PyData → Bool
  | .list _ => false
  | .dict _ => false
  | .tuple ds => tupOnlyA ds
  | .none => true
  | .bool _ => true
  | .int _ => true
  | .str _ => true
def tupOnlyA : List PyData → Bool
  | [] => true
  | d :: ds => tupOnly d && tupOnlyA ds
end
def Kp (p : Addr) (H H' : Hp) : Prop := ∀ b o, b ≠ p → H b = some o → H' b = some o
theorem seqT_kp {p a : Addr} {xs ys : List V} (k : Kp p H H') (hp : H p = some (.lst xs)) (h : SqT K H a ys) : SqT K H' a ys := by
  rcases h with (h | ⟨o, h⟩) | h
  · exact .inl (.inl (k _ _ (ne_of h hp (by intro z; cases z)) h))
  · exact .inl (.inr ⟨o, k _ _ (ne_of h hp (by intro z; cases z)) h⟩)
  · exact .inr h
mutual
theorem dp_kp {p : Addr} {xs : List V} (k : Kp p H H') (hp : H p = some (.lst xs)) : ∀ {d : PyData} {v : V}, tupOnly d = true → Dp K H v d → Dp K H' v d
  | _, _, _, .non => .non
  | _, _, _, .bl b => .bl b
  | _, _, _, .int i => .int i
  | _, _, _, .str x => .str x
  | _, _, t, .lst h a => by simp [tupOnly] at t
  | _, _, t, .tup h a => .tup (seqT_kp k hp h) (dp_kpA k hp (by simpa [tupOnly] using t) a)
theorem dp_kpA {p : Addr} {xs : List V} (k : Kp p H H') (hp : H p = some (.lst xs)) : ∀ {ds : List PyData} {vs : List V}, tupOnlyA ds = true → DpAll K H vs ds → DpAll K H' vs ds
  | _, _, _, .nil => .nil
  | _, _, t, .cons h a => by
    have t' : (tupOnly _ && tupOnlyA _) = true := t
    rw [Bool.and_eq_true] at t'
    exact .cons (dp_kp k hp t'.1 h) (dp_kpA k hp t'.2 a)
end
theorem dp_int {i : Int} (h : Dp K H v (.int i)) : v = .int i := by
  cases h
  rfl
theorem dp_non (h : Dp K H v .none) : v = .non := by
  cases h
  rfl
theorem dp_bool {b : Bool} (h : Dp K H v (.bool b)) : v = .bl b := by
  cases h
  rfl
theorem dp_str {b : Str} (h : Dp K H v (.str b)) : v = .str b := by
  cases h
  rfl
theorem dp_tup {ds : List PyData} (h : Dp K H v (.tuple ds)) : ∃ p vs, v = .ref p ∧ SqT K H p vs ∧ DpAll K H vs ds := by
  cases h with
  | tup h a => exact ⟨_, _, rfl, h, a⟩
theorem dpa_nil {vs : List V} (h : DpAll K H vs []) : vs = [] := by
  cases h
  rfl
theorem dpa_cons {vs : List V} {ds : List PyData} (h : DpAll K H vs (d :: ds)) : ∃ v r, vs = v :: r ∧ Dp K H v d ∧ DpAll K H r ds := by
  cases h with
  | cons a b => exact ⟨_, _, rfl, a, b⟩
theorem dp_t1 (h : Dp K H v (.tuple [d1])) : ∃ p v1, v = .ref p ∧ SqT K H p [v1] ∧ Dp K H v1 d1 := by
  obtain ⟨p, vs, e, hS, a⟩ := dp_tup h
  obtain ⟨v1, _, rfl, h1, a⟩ := dpa_cons a
  obtain rfl := dpa_nil a
  exact ⟨p, v1, e, hS, h1⟩
theorem dp_t2 (h : Dp K H v (.tuple [d1, d2])) : ∃ p v1 v2, v = .ref p ∧ SqT K H p [v1, v2] ∧ Dp K H v1 d1 ∧ Dp K H v2 d2 := by
  obtain ⟨p, vs, e, hS, a⟩ := dp_tup h
  obtain ⟨v1, _, rfl, h1, a⟩ := dpa_cons a
  obtain ⟨v2, _, rfl, h2, a⟩ := dpa_cons a
  obtain rfl := dpa_nil a
  exact ⟨p, v1, v2, e, hS, h1, h2⟩
theorem dp_t3 (h : Dp K H v (.tuple [d1, d2, d3])) : ∃ p v1 v2 v3, v = .ref p ∧ SqT K H p [v1, v2, v3] ∧ Dp K H v1 d1 ∧ Dp K H v2 d2 ∧ Dp K H v3 d3 := by
  obtain ⟨p, vs, e, hS, a⟩ := dp_tup h
  obtain ⟨v1, _, rfl, h1, a⟩ := dpa_cons a
  obtain ⟨v2, _, rfl, h2, a⟩ := dpa_cons a
  obtain ⟨v3, _, rfl, h3, a⟩ := dpa_cons a
  obtain rfl := dpa_nil a
  exact ⟨p, v1, v2, v3, e, hS, h1, h2, h3⟩
theorem dp_t6 (h : Dp K H v (.tuple [d1, d2, d3, d4, d5, d6])) : ∃ p v1 v2 v3 v4 v5 v6, v = .ref p ∧ SqT K H p [v1, v2, v3, v4, v5, v6] ∧ Dp K H v1 d1 ∧ Dp K H v2 d2 ∧ Dp K H v3 d3 ∧ Dp K H v4 d4 ∧ Dp K H v5 d5 ∧ Dp K H v6 d6 := by
  obtain ⟨p, vs, e, hS, a⟩ := dp_tup h
  obtain ⟨v1, _, rfl, h1, a⟩ := dpa_cons a
  obtain ⟨v2, _, rfl, h2, a⟩ := dpa_cons a
  obtain ⟨v3, _, rfl, h3, a⟩ := dpa_cons a
  obtain ⟨v4, _, rfl, h4, a⟩ := dpa_cons a
  obtain ⟨v5, _, rfl, h5, a⟩ := dpa_cons a
  obtain ⟨v6, _, rfl, h6, a⟩ := dpa_cons a
  obtain rfl := dpa_nil a
  exact ⟨p, v1, v2, v3, v4, v5, v6, e, hS, h1, h2, h3, h4, h5, h6⟩
theorem dp_mk {p : Addr} {vs : List V} {ds : List PyData} (h : H p = some (.tup vs)) (a : DpAll K H vs ds) : Dp K H (.ref p) (.tuple ds) := .tup (.inl (.inl h)) a
end
/-! ### numbers -/
def qD (r : Rat) : PyData := .tuple [.int r.num, .int (r.den : Int)]
theorem dp_q {K : PySem.W.Frag} {H : Hp} {v : V} {r : Rat} (h : Dp K H v (qD r)) : ∃ p, v = .ref p ∧ SqT K H p [.int r.num, .int (r.den : Int)] := by
  obtain ⟨p, v1, v2, e, hS, h1, h2⟩ := dp_t2 h
  rw [dp_int h1, dp_int h2] at hS
  exact ⟨p, e, hS⟩
theorem dp_mkq {K : PySem.W.Frag} {H : Hp} {p : Addr} {r : Rat} (h : H p = some (.tup [.int r.num, .int (r.den : Int)])) : Dp K H (.ref p) (qD r) := dp_mk h (.cons (.int _) (.cons (.int _) .nil))
theorem dp_seqq {K : PySem.W.Frag} {H : Hp} {p : Addr} {r : Rat} (h : SqT K H p [.int r.num, .int (r.den : Int)]) : Dp K H (.ref p) (qD r) := .tup h (.cons (.int _) (.cons (.int _) .nil))
/-- numerator and denominator at most so great -/
def Bd (r : Rat) (p q : Nat) : Prop := r.num.natAbs ≤ p ∧ r.den ≤ q
theorem bd_divInt {n d : Int} (h : d ≠ 0) : Bd (Rat.divInt n d) n.natAbs d.natAbs := by
  unfold Bd
  rw [Rat.num_divInt, Rat.den_divInt, if_neg h]
  refine ⟨Nat.le_trans (Int.natAbs_ediv_le_natAbs _ _) ?_, Nat.div_le_self _ _⟩
  rw [Int.natAbs_mul]
  have : d.sign.natAbs ≤ 1 := by
    rcases Int.lt_trichotomy d 0 with z | z | z
    · rw [Int.sign_eq_neg_one_of_neg z]; decide
    · exact absurd z h
    · rw [Int.sign_eq_one_of_pos z]; decide
  calc d.sign.natAbs * n.natAbs ≤ 1 * n.natAbs := Nat.mul_le_mul_right _ this
    _ = n.natAbs := Nat.one_mul _
theorem q_self (r : Rat) : Rat.divInt r.num (r.den : Int) = r := Rat.num_divInt_den r
end Z
namespace Z
open PySem PySem.Spec PyProof.Rows L2
def gd (n d : Int) : Int := ((Nat.gcd n.natAbs d.natAbs : Nat) : Int)
def rn (n d : Int) : Int := (if d < 0 then -n else n) / gd n d
def rd (n d : Int) : Int := (if d < 0 then -d else d) / gd n d
theorem rn_q {n d : Int} (h : d ≠ 0) : rn n d = (Rat.divInt n d).num := by
  rw [Rat.num_divInt]
  unfold rn gd
  have e : d.gcd n = Nat.gcd n.natAbs d.natAbs := Nat.gcd_comm _ _
  rw [e]
  congr 1
  split
  · rename_i z
    rw [Int.sign_eq_neg_one_of_neg z]
    omega
  · rename_i z
    rw [Int.sign_eq_one_of_pos (by omega)]
    omega
theorem rd_q {n d : Int} (h : d ≠ 0) : rd n d = ((Rat.divInt n d).den : Int) := by
  rw [Rat.den_divInt, if_neg h]
  unfold rd gd
  have e : d.gcd n = Nat.gcd n.natAbs d.natAbs := Nat.gcd_comm _ _
  rw [e]
  rw [Int.natCast_ediv]
  congr 1
  split <;> omega
def lim : Int := 1000000000000000000
def fitsQ (r : Rat) : Prop := -lim ≤ r.num ∧ r.num ≤ lim ∧ (r.den : Int) ≤ lim
theorem bd_add {a b : Rat} {p q p' q' : Nat} (h : Bd a p q) (h' : Bd b p' q') : Bd (a + b) (p * q' + p' * q) (q * q') := by
  have ha := a.den_nz
  have hb := b.den_nz
  have e : a + b = Rat.divInt (a.num * b.den + b.num * a.den) ((a.den : Int) * b.den) := by
    rw [← Rat.divInt_add_divInt _ _ (by omega) (by omega), Rat.num_divInt_den, Rat.num_divInt_den]
  rw [e]
  have hd : ((a.den : Int) * b.den) ≠ 0 := Int.mul_ne_zero (by omega) (by omega)
  have k := bd_divInt (n := a.num * b.den + b.num * a.den) hd
  refine ⟨Nat.le_trans k.1 (Nat.le_trans (Int.natAbs_add_le _ _) ?_), Nat.le_trans k.2 ?_⟩
  · rw [Int.natAbs_mul, Int.natAbs_mul]
    exact Nat.add_le_add (Nat.mul_le_mul h.1 h'.2) (Nat.mul_le_mul h'.1 h.2)
  · rw [Int.natAbs_mul]
    exact Nat.mul_le_mul h.2 h'.2
theorem bd_mul {a b : Rat} {p q p' q' : Nat} (h : Bd a p q) (h' : Bd b p' q') : Bd (a * b) (p * p') (q * q') := by
  have ha := a.den_nz
  have hb := b.den_nz
  have e : a * b = Rat.divInt (a.num * b.num) ((a.den : Int) * b.den) := by
    rw [← Rat.divInt_mul_divInt, Rat.num_divInt_den, Rat.num_divInt_den]
  rw [e]
  have hd : ((a.den : Int) * b.den) ≠ 0 := Int.mul_ne_zero (by omega) (by omega)
  have k := bd_divInt (n := a.num * b.num) hd
  refine ⟨Nat.le_trans k.1 ?_, Nat.le_trans k.2 ?_⟩
  · rw [Int.natAbs_mul]
    exact Nat.mul_le_mul h.1 h'.1
  · rw [Int.natAbs_mul]
    exact Nat.mul_le_mul h.2 h'.2
theorem bd_neg {a : Rat} {p q : Nat} (h : Bd a p q) : Bd (-a) p q := by
  unfold Bd
  rw [Rat.neg_num, Rat.neg_den, Int.natAbs_neg]
  exact h
theorem bd_sub {a b : Rat} {p q p' q' : Nat} (h : Bd a p q) (h' : Bd b p' q') : Bd (a - b) (p * q' + p' * q) (q * q') := by
  rw [Rat.sub_eq_add_neg]
  exact bd_add h (bd_neg h')
theorem q_div (a b : Rat) (h : b ≠ 0) : a / b = Rat.divInt (a.num * b.den) ((a.den : Int) * b.num) := by
  rw [Rat.div_def, ← Rat.num_divInt_den b, Rat.inv_divInt]
  conv => lhs; lhs; rw [← Rat.num_divInt_den a]
  rw [Rat.divInt_mul_divInt, Rat.num_divInt_den]
theorem bd_div {a b : Rat} {p q p' q' : Nat} (hb : b ≠ 0) (h : Bd a p q) (h' : Bd b p' q') : Bd (a / b) (p * q') (q * p') := by
  have ha := a.den_nz
  rw [q_div a b hb]
  have hn : b.num ≠ 0 := fun z => hb (Rat.num_eq_zero.mp z)
  have hd : ((a.den : Int) * b.num) ≠ 0 := Int.mul_ne_zero (by omega) hn
  have k := bd_divInt (n := a.num * b.den) hd
  refine ⟨Nat.le_trans k.1 ?_, Nat.le_trans k.2 ?_⟩
  · rw [Int.natAbs_mul]
    exact Nat.mul_le_mul h.1 h'.2
  · rw [Int.natAbs_mul]
    exact Nat.mul_le_mul h.2 h'.1
theorem Bd.le {a : Rat} {p q p' q' : Nat} (h : Bd a p q) (h1 : p ≤ p') (h2 : q ≤ q') : Bd a p' q' := ⟨Nat.le_trans h.1 h1, Nat.le_trans h.2 h2⟩
theorem Bd.fits {a : Rat} {p q : Nat} (h : Bd a p q) (h1 : p ≤ 1000000000000000000) (h2 : q ≤ 1000000000000000000) : fitsQ a := by
  have a1 := h.1
  have a2 := h.2
  unfold fitsQ lim
  omega
theorem q_add (a b : Rat) : a + b = Rat.divInt (a.num * b.den + b.num * a.den) ((a.den : Int) * b.den) := by
  have ha := a.den_nz
  have hb := b.den_nz
  rw [← Rat.divInt_add_divInt _ _ (by omega) (by omega), Rat.num_divInt_den, Rat.num_divInt_den]
theorem q_sub (a b : Rat) : a - b = Rat.divInt (a.num * b.den - b.num * a.den) ((a.den : Int) * b.den) := by
  have ha := a.den_nz
  have hb := b.den_nz
  rw [← Rat.divInt_sub_divInt _ _ (by omega) (by omega), Rat.num_divInt_den, Rat.num_divInt_den]
theorem q_mul (a b : Rat) : a * b = Rat.divInt (a.num * b.num) ((a.den : Int) * b.den) := by
  rw [← Rat.divInt_mul_divInt, Rat.num_divInt_den, Rat.num_divInt_den]
theorem q_dd (a b : Rat) : ((a.den : Int) * b.den) ≠ 0 := by
  have ha := a.den_nz
  have hb := b.den_nz
  exact Int.mul_ne_zero (by omega) (by omega)
end Z
namespace Z
open PySem PySem.Spec PyProof.Rows L2
theorem tyx_T {K : PySem.W.Frag} {H : Hp} {a : Addr} {xs : List V} (h : SqT K H a xs) : TyX K H (.ref a) (.type "tuple") := by
  rcases h with (h | ⟨o, h⟩) | ⟨o, its, n, h, c, _⟩
  · exact .base (.tup h)
  · exact .fTuple h
  · exact .kTuple h c
theorem z_isT {K : PySem.W.Frag} {H : Hp} {Q : VK} {p : Addr} {xs : List V} (h : SqT K H p xs) (q : Q (.bl true) H) : rIsi K [.ref p, .ty "tuple"] H Q := z_ty (tyx_T h) (by decide +kernel) q
end Z
namespace Z
open PySem PySem.Spec PyProof.Rows L2
/-- a tuple of the module's own -/
theorem dpk {K : PySem.W.Frag} {H : Hp} {a : Addr} {od : Option Addr} {its : List Value} {n : Nat} {sl : Array (Option Value)} {vs : List V} {ds : List PyData} (h : K.lookup a = some ⟨.type "tuple", od, .seq its.toArray n, sl⟩)
    (hs : its.length ≤ 1000) (r : Vals vs its) (d : DpAll K H vs ds) : Dp K H (.ref a) (.tuple ds) :=
  .tup (.inr ⟨_, its.toArray, n, h, rfl, rfl, by rw [List.size_toArray]; exact sz hs, by simpa using r⟩) d
/-- a tuple and a tuple -/
theorem z_catT {K : PySem.W.Frag} {H : Hp} {Q : VK} {p q : Addr} {xs ys : List V} (h1 : SqT K H p xs) (h2 : SqT K H q ys) (hx : xs ≠ []) (hl : xs.length + ys.length ≤ 1000) (hy : ys ≠ [])
    (k : ∀ p H', H p = none → Same H H' → H' p = some (.tup (xs ++ ys)) → Q (.ref p) H') : rCatT K (.ref p) (.ref q) H Q := by
  refine ⟨p, q, xs, ys, rfl, rfl, h1, h2, hx, sz hl, fun z => absurd z hy, fun _ a ha => k a _ ha (same_upd ha) upd_same⟩
end Z
namespace Z
open PySem PySem.Spec PyProof.Rows L2
def rTupOf (K : PySem.W.Frag) : List V → Hp → VK → Prop := fun xs H Q => ∃ p ys, xs = [.ref p] ∧ ((SqL K H p ys ∧ ∀ l, H l = none → Q (.ref l) (upd H l (.tup ys))) ∨ (SqT K H p ys ∧ Q (.ref p) H))
def rListOf (K : PySem.W.Frag) : List V → Hp → VK → Prop := fun xs H Q => ∃ p ys, xs = [.ref p] ∧ (SqL K H p ys ∨ SqT K H p ys) ∧ ∀ l, H l = none → Q (.ref l) (upd H l (.lst ys))
theorem c_tupOf {X : Cx} : CallR X (.type "tuple") (rTupOf X.K) := call_tuple_of
theorem c_listOf {X : Cx} : CallR X (.type "list") (rListOf X.K) := call_list_of
section
variable {K : PySem.W.Frag} {H : Hp} {Q : VK} {p : Addr} {xs : List V} {σ : L2.St}
theorem z_tupOf (h : SqL K H p xs) (q : ∀ a H', H a = none → Same H H' → H' a = some (.tup xs) → Q (.ref a) H') : rTupOf K [.ref p] H Q := ⟨p, xs, rfl, .inl ⟨h, fun l hl => q l _ hl (same_upd hl) upd_same⟩⟩
theorem z_tupOfT (h : SqT K H p xs) (q : Q (.ref p) H) : rTupOf K [.ref p] H Q := ⟨p, xs, rfl, .inr ⟨h, q⟩⟩
theorem z_listOf (h : SqL K H p xs) (q : ∀ a H', H a = none → Same H H' → H' a = some (.lst xs) → Q (.ref a) H') : rListOf K [.ref p] H Q := ⟨p, xs, rfl, .inl h, fun l hl => q l _ hl (same_upd hl) upd_same⟩
theorem z_listOfT (h : SqT K H p xs) (q : ∀ a H', H a = none → Same H H' → H' a = some (.lst xs) → Q (.ref a) H') : rListOf K [.ref p] H Q := ⟨p, xs, rfl, .inr h, fun l hl => q l _ hl (same_upd hl) upd_same⟩
theorem z_yes {QB : Bool → Hp → Prop} (q : QB true H) : tYes σ H QB := q
/-- [e for k in range(m)] -/
theorem z_lcR1 {ta : TA} {k : Nat} {te : TE} {vs : List Nat} (m : Nat) (hm : m ≤ 1000) (ha : ∀ R : List V → Hp → Prop, R [.int (m : Int)] H → ta σ H R) (hw : ∀ x, wipe ((wipe σ vs).set k (some x)) vs = wipe σ vs) (Pv : Nat → Addr → List V → Hp → Prop)
    (h0 : ∀ D H', H D = none → Same H H' → H' D = some (.lst []) → Pv 0 D [] H')
    (hs : ∀ i D acc H', i < m → acc.length = i → H' D = some (.lst acc) → Pv i D acc H' → te ((wipe σ vs).set k (some (.int (i : Int)))) H' fun y H4 => H4 D = some (.lst acc) ∧ Pv (i + 1) D (acc ++ [y]) (upd H4 D (.lst (acc ++ [y]))))
    (mono : ∀ σ' H' Q Q', (∀ y H4, Q y H4 → Q' y H4) → te σ' H' Q → te σ' H' Q')
    (hd : ∀ D acc H', acc.length = m → H' D = some (.lst acc) → Pv m D acc H' → Q (.ref D) H') : tLc (iRng1 ta) (gName k) tYes te vs σ H Q := by
  refine ha _ ⟨(m : Int), rfl, by omega, by omega, fun D hD => ?_⟩
  refine lc_range (lo := 0) (n := (m : Int).toNat) (fun i H' => ∃ acc, acc.length = i ∧ H' D = some (.lst acc) ∧ Pv i D acc H') ⟨[], rfl, upd_same, h0 D _ hD (same_upd hD) upd_same⟩ (fun i H' hi ⟨acc, hl, hH, p⟩ => ?_) (fun H' ⟨acc, hl, hH, p⟩ => hd D acc H' (by simpa using hl) hH (by simpa using p))
  have e : (0 : Int) + (i : Int) = (i : Int) := Int.zero_add _
  show wipe ((wipe σ vs).set k (some (.int ((0 : Int) + (i : Int))))) vs = wipe σ vs ∧ _
  refine ⟨hw _, ?_⟩
  refine z_yes ?_
  refine z_ifT ?_
  rw [e]
  have hi' : i < m := by simpa using hi
  exact mono _ _ _ _ (fun y H4 ⟨e1, e2⟩ => ⟨acc, e1, Nat.lt_of_lt_of_le (show acc.length < 1000 by omega) (by decide), acc ++ [y], by simp [hl], upd_same, e2⟩) (hs i D acc H' (by simpa using hi) hl hH p)
end
end Z
namespace Z
open PySem PySem.Spec PyProof.Rows L2
section
variable {K : PySem.W.Frag} {H : Hp} {Q : VK} {p : Addr} {xs : List V} {σ : L2.St} {i : Int} {RO : Option Int → Hp → Prop} {te : TE} {tl th : TO}
theorem z_sl {g : V → Option Int → Option Int → Hp → VK → Prop} (h : te σ H fun x H1 => tl σ H1 fun l H2 => th σ H2 fun u H3 => g x l u H3 Q) : tSl g te tl th σ H Q := h
theorem z_noPart (q : RO none H) : tNoPart σ H RO := q
theorem z_part (h : te σ H fun x H1 => ∃ i, x = .int i ∧ RO (some i) H1) : tPart te σ H RO := h
theorem z_partI (q : RO (some i) H) : ∃ i', V.int i = .int i' ∧ RO (some i') H := ⟨i, rfl, q⟩
theorem z_slL {lo hi : Option Int} {ys : List V} (h : SqL K H p xs) (e : cutV xs lo hi = ys) (q : ∀ a H', H a = none → Same H H' → H' a = some (.lst ys) → Q (.ref a) H') : rSlL K (.ref p) lo hi H Q := by
  subst e
  exact ⟨p, xs, rfl, h, fun a ha => q a _ ha (same_upd ha) upd_same⟩
end
end Z
namespace Z
open PySem PySem.Spec PyProof.Rows L2
theorem z_slT {K : PySem.W.Frag} {H : Hp} {Q : VK} {p : Addr} {xs ys : List V} {lo hi : Option Int} (h : SqT K H p xs) (hn : ¬ (HT.sIx xs.length 0 lo = 0 ∧ HT.sIx xs.length xs.length hi = xs.length)) (e : cutV xs lo hi = ys)
    (q : ∀ a H', H a = none → Same H H' → H' a = some (.tup ys) → Q (.ref a) H') : rSlT K (.ref p) lo hi H Q := by
  subst e
  exact ⟨p, xs, rfl, h, hn, fun a ha => q a _ ha (same_upd ha) upd_same⟩
theorem eqv_q (a b : Rat) : PyData.eqv (qD a) (qD b) = decide (a = b) := by
  show (a.num == b.num && ((a.den : Int) == (b.den : Int) && true)) = decide (a = b)
  by_cases h : a = b
  · subst h
    simp
  · rw [decide_eq_false h]
    by_cases h1 : a.num = b.num
    · have h2 : ¬ (a.den : Int) = b.den := fun z => h (Rat.ext h1 (by omega))
      simp [h2]
    · simp [h1]
theorem shaped_q (a : Rat) : SeqAt.shaped (qD a) = true := rfl
theorem z_eqQ {K : PySem.W.Frag} {x y : V} {a b : Rat} {H : Hp} {Q : VK} (h1 : Dp K H x (qD a)) (h2 : Dp K H y (qD b)) (q : Q (.bl (decide (a = b))) H) : rEqD K x y H Q := ⟨qD a, qD b, h1, h2, shaped_q a, shaped_q b, by rw [eqv_q]; exact q⟩
theorem z_neQ {K : PySem.W.Frag} {x y : V} {a b : Rat} {H : Hp} {Q : VK} (h1 : Dp K H x (qD a)) (h2 : Dp K H y (qD b)) (q : Q (.bl (decide (¬ a = b))) H) : rNeD K x y H Q := ⟨qD a, qD b, h1, h2, shaped_q a, shaped_q b, by
  rw [eqv_q, show (!decide (a = b)) = decide (¬ a = b) by simp]
  exact q⟩
theorem z_neSame {K : PySem.W.Frag} {x y : V} {d : PyData} {H : Hp} {Q : VK} (h1 : Dp K H x d) (h2 : Dp K H y d) (s : SeqAt.shaped d = true) (q : Q (.bl false) H) : rNeD K x y H Q :=
  ⟨d, d, h1, h2, s, s, by rw [SeqAt.eqv_refl d (SeqAt.canLay_of_shaped s)]; exact q⟩
end Z
namespace Z
open PySem PySem.Spec PyProof.Rows L2
def rIsN : R2 := fun x y H Q => y = .non ∧ Q (.bl (decide (x = .non))) H
def rNotN : R2 := fun x y H Q => y = .non ∧ Q (.bl (!decide (x = .non))) H
theorem op_isN1 {X : Cx} : OpR X (compareOp .Is) rIsN := op_isN
theorem op_notN1 {X : Cx} : OpR X (compareOp .IsNot) rNotN := op_notN
section
variable {σ : L2.St} {H : Hp} {n : L2.St → Hp → Prop} {r : VK} {b c : L2.St → Hp → Prop} {tb : TS} {K : PySem.W.Frag} {Q : VK} {p : Addr} {v y : V} {xs : List V}
theorem z_isNN (q : Q (.bl true) H) : rIsN .non .non H Q := ⟨rfl, by simpa using q⟩
theorem z_isNR (q : Q (.bl false) H) : rIsN (.ref p) .non H Q := ⟨rfl, by simpa using q⟩
theorem z_notNN (q : Q (.bl false) H) : rNotN .non .non H Q := ⟨rfl, by simpa using q⟩
theorem z_notNR (q : Q (.bl true) H) : rNotN (.ref p) .non H Q := ⟨rfl, by simpa using q⟩
theorem z_bmL {r : V → List V → Hp → VK → Prop} {to : TE} {t : TA} (ho : ∀ R : VK, R (.ref p) H → to σ H R) (hp : H p = some (.lst xs)) (h : t σ H fun vs H2 => r (.ref p) vs H2 Q) : tBM K "list" r to t σ H Q :=
  ho _ ⟨.inl ⟨rfl, _, .inl (.inl hp)⟩, h⟩
theorem z_append (hp : H p = some (.lst xs)) (hl : xs.length < 1000) (q : Q .non (upd H p (.lst (xs ++ [y])))) : rAppend (.ref p) [y] H Q := ⟨p, xs, y, rfl, rfl, hp, Nat.lt_of_lt_of_le hl (by decide), q⟩
/-- the list that a for goes over, made on the way -/
def ForL (K : PySem.W.Frag) (g : TG) (tb : TS) (n : L2.St → Hp → Prop) (r : VK) (b c : L2.St → Hp → Prop) (σ : L2.St) : VK := fun x H1 => tFor (iList K (tC x)) g tb ⟨n, r, b, c⟩ σ H1
theorem z_forE {tl : TE} {g : TG} (h : tl σ H (ForL K g tb n r b c σ)) : tFor (iList K tl) g tb ⟨n, r, b, c⟩ σ H := h
/-- [e for x in l], where e answers at once -/
theorem z_lcM {tl : TE} {k : Nat} {te : TE} {vs : List Nat} {a : Addr} {xs ws : List V} (hlen : ws.length = xs.length) (hm : xs.length ≤ 1000) (ha : ∀ R : VK, R (.ref a) H → tl σ H R) (hx : H a = some (.lst xs)) (hw : ∀ x, wipe ((wipe σ vs).set k (some x)) vs = wipe σ vs)
    (body : ∀ (i : Nat) (x w : V) (H' : Hp), xs[i]? = some x → ws[i]? = some w → Same H H' → ∀ R : VK, R w H' → te ((wipe σ vs).set k (some x)) H' R)
    (hd : ∀ D H', H D = none → Same H H' → H' D = some (.lst ws) → Q (.ref D) H') : tLc (iList K tl) (gName k) tYes te vs σ H Q := by
  refine ha _ ⟨a, rfl, ⟨xs, .inl (.inl hx)⟩, fun D hD => ?_⟩
  have hDa : a ≠ D := ne_of_none hx hD
  refine lc_list (xs := xs) (fun i H' => Same H H' ∧ H' D = some (.lst (ws.take i)) ∧ H' a = some (.lst xs)) ⟨same_upd hD, upd_same, by rw [upd_ne hDa]; exact hx⟩ (fun i H' _ h => .inl (.inl h.2.2)) (fun i x H' hi ⟨s, hH, h3⟩ => ?_) (fun H' ⟨s, hH, _⟩ => hd D H' hD s (by rw [hH, ← hlen, List.take_length]))
  show wipe ((wipe σ vs).set k (some x)) vs = wipe σ vs ∧ _
  refine ⟨hw _, ?_⟩
  refine z_yes ?_
  refine z_ifT ?_
  have hi' : i < xs.length := by
    rcases Nat.lt_or_ge i xs.length with h | h
    · exact h
    · rw [List.getElem?_eq_none h] at hi
      cases hi
  have hiw : i < ws.length := by omega
  have hw' : ws[i]? = some ws[i] := List.getElem?_eq_getElem hiw
  refine body i x _ H' hi hw' s _ ?_
  refine ⟨_, hH, Nat.lt_of_lt_of_le (show (ws.take i).length < 1000 by rw [List.length_take]; omega) (by decide), fun q x' e => ?_, ?_, ?_⟩
  · have hq : q ≠ D := ne_of_none e hD
    rw [upd_ne hq]
    exact s _ _ e
  · rw [upd_same, List.take_add_one, hw']
    rfl
  · rw [upd_ne hDa]
    exact h3
end
/-! ### numbers over a common denominator -/
def Zb (r : Rat) (N M : Nat) : Prop := ∃ k : Int, r * (N : Rat) = (k : Rat) ∧ k.natAbs ≤ M
theorem zb_add {a b : Rat} {N M M' : Nat} (h : Zb a N M) (h' : Zb b N M') : Zb (a + b) N (M + M') := by
  obtain ⟨k, e, l⟩ := h
  obtain ⟨k', e', l'⟩ := h'
  exact ⟨k + k', by rw [Rat.add_mul, e, e', Rat.intCast_add], by omega⟩
theorem zb_neg {a : Rat} {N M : Nat} (h : Zb a N M) : Zb (-a) N M := by
  obtain ⟨k, e, l⟩ := h
  exact ⟨-k, by rw [Rat.neg_mul, e, Rat.intCast_neg], by omega⟩
theorem zb_sub {a b : Rat} {N M M' : Nat} (h : Zb a N M) (h' : Zb b N M') : Zb (a - b) N (M + M') := by
  rw [Rat.sub_eq_add_neg]
  exact zb_add h (zb_neg h')
theorem zb_mul {a b : Rat} {N N' M M' : Nat} (h : Zb a N M) (h' : Zb b N' M') : Zb (a * b) (N * N') (M * M') := by
  obtain ⟨k, e, l⟩ := h
  obtain ⟨k', e', l'⟩ := h'
  refine ⟨k * k', ?_, by rw [Int.natAbs_mul]; exact Nat.mul_le_mul l l'⟩
  rw [Rat.natCast_mul, Rat.intCast_mul, ← e, ← e']
  grind
theorem zb_up {a : Rat} {N M : Nat} (c : Nat) (h : Zb a N M) : Zb a (N * c) (M * c) := by
  obtain ⟨k, e, l⟩ := h
  refine ⟨k * (c : Int), ?_, by rw [Int.natAbs_mul]; exact Nat.mul_le_mul l (by omega)⟩
  rw [Rat.natCast_mul, Rat.intCast_mul, ← e, Rat.intCast_natCast]
  grind
theorem Zb.le {a : Rat} {N M M' : Nat} (h : Zb a N M) (l : M ≤ M') : Zb a N M' := by
  obtain ⟨k, e, l'⟩ := h
  exact ⟨k, e, Nat.le_trans l' l⟩
theorem Zb.bd {a : Rat} {N M : Nat} (h : Zb a N M) (h0 : N ≠ 0) : Bd a M N := by
  obtain ⟨k, e, l⟩ := h
  have hN : (N : Rat) ≠ 0 := fun z => h0 (by exact_mod_cast z)
  have e2 : a = Rat.divInt k (N : Int) := by
    rw [Rat.divInt_eq_div, ← e, Rat.intCast_natCast]
    grind
  rw [e2]
  exact (bd_divInt (by omega)).le l (by omega)
theorem zb_divInt {n d : Int} {N M c : Nat} (hd : d ≠ 0) (hN : (N : Int) = d * (c : Int)) (hl : n.natAbs * c ≤ M) : Zb (Rat.divInt n d) N M := by
  refine ⟨n * (c : Int), ?_, by rw [Int.natAbs_mul]; exact hl⟩
  have hd' : (d : Rat) ≠ 0 := fun z => hd (by exact_mod_cast z)
  have e : (N : Rat) = (d : Rat) * (c : Rat) := by
    rw [← Rat.intCast_natCast N, hN, Rat.intCast_mul, Rat.intCast_natCast]
  rw [Rat.divInt_eq_div, e, Rat.intCast_mul, Rat.intCast_natCast]
  grind
theorem zb_of {r : Rat} {p q N M : Nat} (h : Bd r p q) (hN : ∀ d, d ≤ q → d ≠ 0 → d ∣ N) (hl : p * N ≤ M) : Zb r N M := by
  obtain ⟨c, hc⟩ := hN r.den h.2 r.den_nz
  have hd := r.den_nz
  have e := zb_divInt (n := r.num) (d := (r.den : Int)) (N := N) (M := M) (c := c) (by omega) (by exact_mod_cast hc) (Nat.le_trans (Nat.mul_le_mul h.1 (show c ≤ N by rw [hc]; exact Nat.le_mul_of_pos_left _ (by omega))) hl)
  rwa [Rat.num_divInt_den] at e
end Z

namespace Z
open PySem PySem.Spec PyProof.Rows L2
def RevQ (K : PySem.W.Frag) (Q : VK) : VK := fun x H1 => ∃ a xs, x = .ref a ∧ SqL K H1 a xs ∧ ∀ p, H1 p = none → Q (.ref p) (upd H1 p (.lst xs.reverse))
section
variable {K : PySem.W.Frag} {H : Hp} {Q : VK} {p q : Addr} {xs ys : List V} {y : V} {σ : L2.St}
theorem z_revL {te : TE} (h : te σ H (RevQ K Q)) : tRevL K te σ H Q := h
theorem z_revE (h : SqL K H p xs) (k : ∀ a H', H a = none → Same H H' → H' a = some (.lst xs.reverse) → Q (.ref a) H') : RevQ K Q (.ref p) H :=
  ⟨p, xs, rfl, h, fun l hl => k l _ hl (same_upd hl) upd_same⟩
theorem z_pop (hp : H p = some (.lst (xs ++ [y]))) (k : Q y (upd H p (.lst xs))) : rPop (.ref p) [] H Q :=
  ⟨p, xs ++ [y], y, rfl, rfl, hp, by simp, by simpa using k⟩
theorem z_cat (h1 : H p = some (.lst xs)) (h2 : H q = some (.lst ys)) (hl : xs.length + ys.length ≤ 1000) (k : ∀ a H', H a = none → Same H H' → H' a = some (.lst (xs ++ ys)) → Q (.ref a) H') : rCat (.ref p) (.ref q) H Q :=
  ⟨p, q, xs, ys, rfl, rfl, h1, h2, sz hl, fun a ha => k a _ ha (same_upd ha) upd_same⟩
theorem z_extend (h1 : H p = some (.lst xs)) (h2 : H q = some (.lst ys)) (hl : xs.length + ys.length ≤ 1000) (k : Q .non (upd H p (.lst (xs ++ ys)))) : rExtend (.ref p) [.ref q] H Q :=
  ⟨p, q, xs, ys, rfl, rfl, h1, h2, sz hl, k⟩
theorem z_bm0L {r : V → List V → Hp → VK → Prop} {to : TE} (ho : ∀ R : VK, R (.ref p) H → to σ H R) (hp : H p = some (.lst xs)) (h : r (.ref p) [] H Q) : tBM0 K "list" r to σ H Q :=
  ho _ ⟨.inl ⟨rfl, _, .inl (.inl hp)⟩, h⟩
end
end Z

/-! set comprehensions, whatever the members are: `r` says what set.add asks, `fr` what the empty set is -/
namespace Sc
open PySem PySem.Spec PyProof.Rows L2 PpSet
abbrev AddR := V → List V → Hp → VK → Prop
/-- one turn's end: the member is added, or left out -/
def Keep (r : AddR) (D : Addr) (te : TE) (Nx : Hp → Prop) (σ2 : L2.St) (b : Bool) (H3 : Hp) : Prop := if b = true then te σ2 H3 fun y H4 => r (.ref D) [y] H4 fun _ H5 => Nx H5 else Nx H3
def tSet (r : AddR) (fr : Addr → HO) (wi : TI) (g : TG) (tt : TT) (te : TE) (vs : List Nat) : TE := fun σ H Q => wi σ H fun J H1 => ∀ D, H1 D = none → ∃ W : Nat → Nat → Hp → Prop,
  (∃ m, W 0 m (upd H1 D (fr D))) ∧ ∀ i m H, W i m H → (J.stop i H ∧ Q (.ref D) H) ∨ (J.go i H ∧ ∃ Nx : Hp → Prop, (∀ H', Nx H' → ∃ m', m' < m ∧ W (i + 1) m' H') ∧
    ∀ x H', J.yld i H x H' → g x (wipe σ vs) H' fun σ2 H2 => wipe σ2 vs = wipe σ vs ∧ tt σ2 H2 (Keep r D te Nx σ2))
abbrev freshSet (w : World) : Obj := { cls := .type "set", dict := none, data := .set #[] 0 (.fresh 0 0 (!w.params.followText "set-order")) }
section
variable {X : Cx}
theorem run_set {pins : List (Addr × Obj)} {s : Shared} {σ : L2.St} {H : Hp} {Q : VK} {r : AddR} {fr : Addr → HO} {elt tg iter : Expr} {ifs : List Expr} {scope : Scope} {own : List (PySem.Str × Nat)} {pos pos' : Pos} {wi : TI} {g : TG} {tt : TT} {te : TE} {use : Option (Value → Sem Unit)} {Qf : Value → Shared → Prop}
    (hfr : ∀ (H : Hp) (h : Heap) (a : Addr), a = h.objs.size → ObjOk X.prog X.w H (h.push (freshSet X.w)) a (fr a))
    (hr : ∀ (s : Shared) (H : Hp) (e : Env) (fp : List Addr), MtR (X.blk s H scope e fp) "set.add" r)
    (hc : X.calm = true) (hN : X.N.Nodup) (I : Inv X pins σ H s) (hi : PI X tg iter wi) (ok : BlkOk X.N X.env.scope scope own)
    (hg : ∀ (s : Shared) (H : Hp) (C : Addr) (cl : List (PySem.Str × Addr)) (fp : List Addr), PG (X.blk s H scope (compEnvC scope cl C X.env) fp) tg g)
    (ht : ∀ (s : Shared) (H : Hp) (C : Addr) (cl : List (PySem.Str × Addr)) (fp : List Addr), PTs (X.blk s H scope (compEnvC scope cl C X.env) fp) ifs tt)
    (he : ∀ (s : Shared) (H : Hp) (C : Addr) (cl : List (PySem.Str × Addr)) (fp : List Addr), PE (X.blk s H scope (compEnvC scope cl C X.env) fp) elt te)
    (hs : ∀ x, foldedSetIterable iter X.env x = pure x) (h : tSet r fr wi g tt te (own.map (·.2)) σ H Q)
    (hend : ∀ D C s' m H', Inv X pins σ H' s' → Q (.ref D) H' → s'.heap.Ns C m → FpOk X pins H' C → compPost (model X.prog X.w) X.A X.xe use Qf (.ref D) C (.ok .next) s') :
    wpAny (model X.prog X.w) X.A (comprehension (.SetComp elt [⟨tg, iter, ifs, 0⟩] scope pos) scope X.env pos' (newSet (.type "set")) false (eval iter X.env) use) Qf X.xe s := by
  have free0 : ∀ y ∈ scope.names, y.2 = .free → ∃ c, X.env.cells.lookup y.1 = some c := fun y hy e => (ok.free y hy e).elim (fun k => I.ok.has _ (.inl k)) fun k => I.ok.has _ (.inr k)
  refine wpAny_comprehension_free (use := use) rfl hs (closure_ok free0) ok.kind (fun y hy e => by rw [ok.uniq y hy, e]) ?_
  refine thn (hi.run pins s σ H _ I h) fun xv s1 hx => thn hx fun itv s2 h2 => ?_
  obtain ⟨it, fp, tn, J, H2, e, I2, T, st2, f2, q⟩ := h2
  subst e
  refine newSet_ok (newEnv_comp ?_)
  have hDn : H2 s2.heap.objs.size = none := I2.hok.fresh (Nat.le_refl _)
  obtain ⟨W, ⟨m0, w0⟩, turn⟩ := q _ hDn
  generalize hs3 : ({ s2 with heap := s2.heap.push (freshSet X.w) } : Shared) = s3
  have h3 : s3.heap = s2.heap.push (freshSet X.w) := by rw [← hs3]
  have I3 : Inv X pins σ (upd H2 s2.heap.objs.size (fr s2.heap.objs.size)) s3 := by
    rw [← hs3]
    exact I2.laid (t' := s2.toks) (fun b o e => Heap.get?_push_of_some _ e) (Nat.le_refl _) (hfr _ _ _ rfl)
  generalize hD : s2.heap.objs.size = D at *
  have old : ∀ b ∈ fp, b < D := fun b hb => by
    obtain ⟨o, e, _⟩ := T.obj _ _ st2 b hb
    rw [← hD]
    exact Heap.lt_size e
  have f3 : ∀ b ∈ fp, FpOk X pins (upd H2 D (fr D)) b ∧ b < s3.heap.objs.size := fun b hb => by
    have l := old b hb
    refine ⟨⟨?_, (f2 b hb).2⟩, ?_⟩
    · rw [upd_ne (Nat.ne_of_lt l)]
      exact (f2 b hb).1
    · rw [h3, Heap.size_push, hD]
      exact Nat.lt_succ_of_lt l
  have st3 : tn 0 s3.heap := T.keep _ _ _ st2 fun b _ o e => by
    rw [h3]
    exact Heap.get?_push_of_some _ e
  have I4 := block_start I3 ok hN f3
  generalize hH3 : upd H2 D (fr D) = H3 at I3 I4 w0 f3
  have pg := hg s3 H3 s3.heap.objs.size (cellsFrom (s3.heap.objs.size + 1) scope.names (cloFrom X.env.cells scope.names [])) fp
  have pt := ht s3 H3 s3.heap.objs.size (cellsFrom (s3.heap.objs.size + 1) scope.names (cloFrom X.env.cells scope.names [])) fp
  have pe := he s3 H3 s3.heap.objs.size (cellsFrom (s3.heap.objs.size + 1) scope.names (cloFrom X.env.cells scope.names [])) fp
  show codeAny _ _ (.compStart (.SetComp elt [⟨tg, iter, ifs, 0⟩] scope pos) 0 (.ref it) (.ref D) (compEnvC scope (cellsFrom (s3.heap.objs.size + 1) scope.names (cloFrom X.env.cells scope.names [])) s3.heap.objs.size X.env)) (compPost (model X.prog X.w) X.A X.xe use Qf (.ref D) s3.heap.objs.size) { s3 with heap := pushCells (s3.heap.push { cls := .type "dict", data := .dict #[] }) scope.names }
  generalize hce : compEnvC scope (cellsFrom (s3.heap.objs.size + 1) scope.names (cloFrom X.env.cells scope.names [])) s3.heap.objs.size X.env = ce at I4 pg pt pe ⊢
  have cL : ce.locals = s3.heap.objs.size := by rw [← hce] <;> rfl
  have ad := hr s3 H3 ce fp
  have nfp : ∀ b ∈ fp, H3 b = none := fun b hb => (f3 b hb).1.1
  generalize hs4 : ({ s3 with heap := pushCells (s3.heap.push { cls := .type "dict", data := .dict #[] }) scope.names } : Shared) = s4 at I4 ⊢
  have st4 : tn 0 s4.heap := T.keep _ _ _ st3 fun b _ o e => by
    rw [← hs4]
    exact pushCells_keeps _ _ _ _ (Heap.get?_push_of_some _ e)
  have stat : ∀ {σ' : L2.St} {H' : Hp} {s' : Shared}, Inv (X.blk s3 H3 scope ce fp) [] σ' H' s' → (∀ b ∈ fp, H' b = none) → ∀ b ∈ fp, FpOk (X.blk s3 H3 scope ce fp) [] H' b := fun I' hn b hb =>
    ⟨hn b hb, (I'.ok.exf b hb).1, I'.ok.exfs b hb, .inl hb, fun x c e => (I'.ok.exf b hb).2 x c e, fun p hp => nomatch (show p ∈ ([] : List (Addr × Obj)) from hp)⟩
  have loop : codeAny (model X.prog X.w) X.A (.compLoop (.SetComp elt [⟨tg, iter, ifs, 0⟩] scope pos) 0 (.ref it) (.ref D) ce) (compPost (model X.prog X.w) X.A X.xe use Qf (.ref D) s3.heap.objs.size) s4 := by
    refine compLoopS_any (fun n s' => ∃ i H', Inv (X.blk s3 H3 scope ce fp) [] (wipe σ (own.map (·.2))) H' s' ∧ tn i s'.heap ∧ (∀ b ∈ fp, H' b = none) ∧ W i n H') ?_ m0 ⟨0, H3, I4, st4, nfp, w0⟩
    rintro n s5 ⟨i, H5, I5, st5, n5, w5⟩
    rcases turn i n H5 w5 with ⟨stop, qq⟩ | ⟨go, Nx, hNx, step⟩
    · refine thnF (T.done (X.blk s3 H3 scope ce fp) rfl rfl rfl hc i [] s5 _ H5 (fun _ _ => False) I5 (stat I5 n5) st5 stop) fun r6 s6 ⟨hr6, I6⟩ => ?_
      subst hr6
      have I7 : Inv X pins σ H5 s6 := I3.call' (ch := fp) I6.os I6.base I6.hok I6.bare fun b hb => by
        obtain ⟨⟨_, a2, _, a4, a5, a6⟩, _⟩ := f3 b hb
        exact ⟨a4, a2, a5, a6⟩
      obtain ⟨m, hn, _⟩ := I6.loc
      have nC : H5 ce.locals = none := I6.free
      have hn : s6.heap.Ns ce.locals m := hn
      rw [cL] at hn nC
      exact hend D _ s6 m H5 I7 qq hn (I3.fpOk (Nat.le_refl _) nC)
    · refine thnF (T.item (X.blk s3 H3 scope ce fp) rfl rfl rfl hc i [] s5 _ H5 (fun _ _ => False) I5 (stat I5 n5) st5 go) fun r6 s6 ⟨u, hr6, h6⟩ => ?_
      subst hr6
      refine thnF h6 fun _ s7 ⟨x, H7, I7, r7, y7, st7, n7⟩ => ?_
      refine thnF (pg.run _ s7 _ H7 x u _ (I7.pinned (stat I7 n7) (T.obj _ _ st7)) r7 (step x H7 y7)) fun _ s8 ⟨σ8, H8, I8, hw8, q8⟩ => ?_
      refine thnF (pt.run _ s8 σ8 H8 _ I8 q8) fun b s9 ⟨H9, I9, q9⟩ => ?_
      have fin : ∀ {s' : Shared} {H' : Hp}, Inv (X.blk s3 H3 scope ce fp) ([] ++ pinsAt fp s7.heap) σ8 H' s' → Nx H' → ∃ m, m < n ∧ ∃ i H', Inv (X.blk s3 H3 scope ce fp) [] (wipe σ (own.map (·.2))) H' s' ∧ tn i s'.heap ∧ (∀ b ∈ fp, H' b = none) ∧ W i m H' := fun {s' H'} I' nx => by
        obtain ⟨m', hm, w'⟩ := hNx H' nx
        have keep : ∀ b ∈ fp, ∀ o, s7.heap.get? b = some o → s'.heap.get? b = some o ∧ H' b = none := fun b hb o e => by
          have z := I'.pin (b, o) (List.mem_append_right _ (List.mem_append_right _ (mem_pinsAt hb e)))
          exact ⟨z.1, z.2.1⟩
        refine ⟨m', hm, i + 1, H', (I'.unpinned (pins := [])).weak (by rw [← hw8, wipe_length]) (fun j v e => ?_), T.keep _ _ _ st7 fun b hb o e => (keep b hb o e).1, fun b hb => ?_, w'⟩
        · rw [← hw8] at e
          exact (wipe_some e).1
        · obtain ⟨o, e, _⟩ := T.obj _ _ st7 b hb
          exact (keep b hb o e).2
      have q9 : Keep r D te Nx σ8 b H9 := q9
      unfold Keep at q9
      cases b with
      | false =>
        rw [if_neg (by decide)] at q9
        exact fin I9 q9
      | true =>
        rw [if_pos rfl] at q9
        refine thnF (pe.run _ s9 σ8 H9 _ I9 q9) fun z s10 ⟨yv, H10, I10, r10, q10⟩ => ?_
        refine thnF (ad _ s10 σ8 H10 (.ref D) [yv] (.ref D) [z] _ I10 rfl (.cons r10 .nil) q10) fun _ s11 ⟨_, H11, I11, _, q11⟩ => fin I11 q11
  exact codeAny_compStart_set loop (T.self X.A 0 _ _ _ st4 loop)
theorem pe_set {r : AddR} {fr : Addr → HO} {elt tg iter : Expr} {ifs : List Expr} {scope : Scope} {own : List (PySem.Str × Nat)} {pos : Pos} {wi : TI} {g : TG} {tt : TT} {te : TE}
    (hfr : ∀ (H : Hp) (h : Heap) (a : Addr), a = h.objs.size → ObjOk X.prog X.w H (h.push (freshSet X.w)) a (fr a)) (hr : ∀ (s : Shared) (H : Hp) (e : Env) (fp : List Addr), MtR (X.blk s H scope e fp) "set.add" r)
    (hc : X.calm = true) (hN : X.N.Nodup) (hi : PI X tg iter wi) (ok : BlkOk X.N X.env.scope scope own)
    (hg : ∀ (s : Shared) (H : Hp) (C : Addr) (cl : List (PySem.Str × Addr)) (fp : List Addr), PG (X.blk s H scope (compEnvC scope cl C X.env) fp) tg g)
    (ht : ∀ (s : Shared) (H : Hp) (C : Addr) (cl : List (PySem.Str × Addr)) (fp : List Addr), PTs (X.blk s H scope (compEnvC scope cl C X.env) fp) ifs tt)
    (he : ∀ (s : Shared) (H : Hp) (C : Addr) (cl : List (PySem.Str × Addr)) (fp : List Addr), PE (X.blk s H scope (compEnvC scope cl C X.env) fp) elt te)
    (hs : ∀ x, foldedSetIterable iter X.env x = pure x := by intro _; rfl) : PE X (.SetComp elt [⟨tg, iter, ifs, 0⟩] scope pos) (tSet r fr wi g tt te (own.map (·.2))) := by
  constructor
  intro pins s σ H Q I h
  rw [eval_SetComp]
  refine run_set hfr hr hc hN I hi ok hg ht he hs h fun D C s' m H' I' q hn ⟨f0, f1, f2, f3, f4, f5⟩ => ⟨m, hn, fun h'' sb => ?_⟩
  exact ⟨.ref D, H', I'.turned (t' := s'.toks) (fun b o hb e => (sb.2 b hb).trans e) f0 f1 f3 f4 f5, rfl, q⟩
/-- sets of whole numbers -/
def frI (w : World) : Addr → HO := fun a => SetO w a (fun _ => false) 0
theorem pe_setI {elt tg iter : Expr} {ifs : List Expr} {scope : Scope} {own : List (PySem.Str × Nat)} {pos : Pos} {wi : TI} {g : TG} {tt : TT} {te : TE}
    (hc : X.calm = true) (hN : X.N.Nodup) (hi : PI X tg iter wi) (ok : BlkOk X.N X.env.scope scope own)
    (hg : ∀ (s : Shared) (H : Hp) (C : Addr) (cl : List (PySem.Str × Addr)) (fp : List Addr), PG (X.blk s H scope (compEnvC scope cl C X.env) fp) tg g)
    (ht : ∀ (s : Shared) (H : Hp) (C : Addr) (cl : List (PySem.Str × Addr)) (fp : List Addr), PTs (X.blk s H scope (compEnvC scope cl C X.env) fp) ifs tt)
    (he : ∀ (s : Shared) (H : Hp) (C : Addr) (cl : List (PySem.Str × Addr)) (fp : List Addr), PE (X.blk s H scope (compEnvC scope cl C X.env) fp) elt te)
    (hs : ∀ x, foldedSetIterable iter X.env x = pure x := by intro _; rfl) : PE X (.SetComp elt [⟨tg, iter, ifs, 0⟩] scope pos) (tSet (rSAdd X.w) (frI X.w) wi g tt te (own.map (·.2))) :=
  pe_set (fun H h a e => by subst e; exact setO_new (setR_fresh X.w)) (fun s H e fp => mt_sadd) hc hN hi ok hg ht he hs
end
/-! ### readings: the set of the numbers of a list that a test lets in -/
open Z
def tSetE (r : AddR) (fr : Addr → HO) (K : PySem.W.Frag) (g : TG) (tt : TT) (te : TE) (vs : List Nat) (σ : L2.St) (Q : VK) : VK := fun x H1 => tSet r fr (iList K (tC x)) g tt te vs σ H1 Q
section
variable {K : PySem.W.Frag} {H : Hp} {Q : VK} {σ : L2.St} {r : AddR} {fr : Addr → HO} {w : World}
theorem z_setE {tl : TE} {g : TG} {tt : TT} {te : TE} {vs : List Nat} (h : tl σ H (tSetE r fr K g tt te vs σ Q)) : tSet r fr (iList K tl) g tt te vs σ H Q := h
/-- the ints of ns that p lets in -/
def inI (p : Int → Bool) (ns : List Int) (S : Int → Bool) : Prop := ∀ k, S k = true ↔ k ∈ ns ∧ p k = true
theorem z_setI {k : Nat} {tt : TT} {vs : List Nat} {a : Addr} {ns : List Int} {te : TE} (p : Int → Bool) (hl : ns.length ≤ 1000) (hx : H a = some (.lst (ns.map V.int)))
    (hw : ∀ x, wipe ((wipe σ vs).set k (some x)) vs = wipe σ vs)
    (ht : ∀ (x : Int) (H' : Hp) (R : Bool → Hp → Prop), x ∈ ns → R (p x) H' → tt ((wipe σ vs).set k (some (.int x))) H' R)
    (he : ∀ (x : Int) (H' : Hp) (R : VK), x ∈ ns → R (.int x) H' → te ((wipe σ vs).set k (some (.int x))) H' R)
    (q : ∀ D H' S n, H D = none → Same H H' → H' D = some (SetO w D S n) → inI p ns S → n ≤ ns.length → Q (.ref D) H') :
    tSetE (rSAdd w) (frI w) K (gName k) tt te vs σ Q (.ref a) H := by
  refine ⟨a, rfl, ⟨_, .inl (.inl hx)⟩, fun D hD => ?_⟩
  have hDa : a ≠ D := ne_of_none hx hD
  let Pv : Nat → Hp → Prop := fun i H' => Same H H' ∧ ∃ S n, H' D = some (SetO w D S n) ∧ inI p (ns.take i) S ∧ n ≤ i
  refine ⟨fun i m H' => m = ns.length - i ∧ i ≤ ns.length ∧ Pv i H', ⟨ns.length, by simp, Nat.zero_le _, same_upd hD, _, 0, upd_same, fun k => by simp, Nat.le_refl _⟩, ?_⟩
  rintro i m H' ⟨rfl, hi, sm, S, n, hS, hin, hn⟩
  have ha := sm _ _ hx
  by_cases hlt : i < ns.length
  · refine .inr ⟨⟨_, .int ns[i], .inl (.inl ha), by simp [hlt]⟩, Pv (i + 1), fun H2 p2 => ⟨ns.length - (i + 1), by omega, rfl, hlt, p2⟩, fun x H2 y => ?_⟩
    obtain ⟨e, y⟩ := y
    subst e
    have e := y _ (.inl (.inl ha))
    have ex : x = .int ns[i] := by
      have e2 : (ns.map V.int)[i]? = some (.int ns[i]) := by simp [hlt]
      rw [e2] at e
      exact (Option.some.inj e).symm
    subst ex
    refine ⟨hw _, ht _ _ _ (List.getElem_mem hlt) ?_⟩
    have tk : ns.take (i + 1) = ns.take i ++ [ns[i]] := by rw [List.take_add_one, List.getElem?_eq_getElem hlt] <;> rfl
    unfold Keep
    by_cases c : p ns[i] = true
    · rw [if_pos c]
      refine he _ _ _ (List.getElem_mem hlt) ?_
      refine ⟨D, ns[i], S, n, rfl, rfl, hS, Nat.lt_of_le_of_lt (show n + 1 ≤ 1001 by omega) (by decide), ?_, _, _, upd_same, ?_, ?_⟩
      · exact fun b o e => by
          rw [upd_ne (ne_of_none e hD)]
          exact sm _ _ e
      · intro k
        rw [tk, List.mem_append, List.mem_singleton, Bool.or_eq_true, hin k, decide_eq_true_eq]
        constructor
        · rintro (⟨z1, z2⟩ | rfl)
          · exact ⟨.inl z1, z2⟩
          · exact ⟨.inr rfl, c⟩
        · rintro ⟨z1 | rfl, z2⟩
          · exact .inl ⟨z1, z2⟩
          · exact .inr rfl
      · split <;> omega
    · rw [if_neg c]
      refine ⟨sm, S, n, hS, fun k => ?_, by omega⟩
      rw [tk, List.mem_append, List.mem_singleton, hin k]
      constructor
      · rintro ⟨z1, z2⟩
        exact ⟨.inl z1, z2⟩
      · rintro ⟨z1 | rfl, z2⟩
        · exact ⟨z1, z2⟩
        · exact absurd z2 c
  · have e : i = ns.length := by omega
    subst e
    refine .inl ⟨⟨_, .inl (.inl ha), by simp⟩, q D H' S n hD sm hS (by rwa [List.take_length] at hin) hn⟩
/-- sorted(set of ints) -/
theorem z_sortedSet {a : Addr} {S : Int → Bool} {n : Nat} (h : H a = some (SetO w a S n)) (hn : n < 64) (q : ∀ (ns : List Int) (p : Addr) (H' : Hp), ns.Pairwise (· < ·) → (∀ k, k ∈ ns ↔ S k = true) → ns.length = n → H p = none → Same H H' → H' p = some (.lst (ns.map V.int)) → Q (.ref p) H') :
    rSortedSet w [.ref a] H Q := ⟨a, S, n, rfl, h, hn, fun ns p h1 h2 h3 hp => q ns p _ h1 h2 h3 hp (same_upd hp) upd_same⟩
end
end Sc

namespace Z
open PySem PySem.Spec PyProof.Rows L2
def rMax2 : List V → Hp → VK → Prop := fun xs H Q => ∃ i j, xs = [.int i, .int j] ∧ Q (.int (if j > i then j else i)) H
def rMin2 : List V → Hp → VK → Prop := fun xs H Q => ∃ i j, xs = [.int i, .int j] ∧ Q (.int (if j < i then j else i)) H
theorem c_max2 {X : Cx} (hc : X.calm = true) : CallR X (.builtin "max") rMax2 := call_max2 hc
theorem c_min2 {X : Cx} (hc : X.calm = true) : CallR X (.builtin "min") rMin2 := call_min2 hc
def rDivmod : List V → Hp → VK → Prop := fun xs H Q => ∃ i j, xs = [.int i, .int j] ∧ CDiv i j ∧ ∀ p, H p = none → Q (.ref p) (upd H p (.tup [.int (i / j), .int (i % j)]))
theorem c_divmod {X : Cx} : CallR X (.builtin "divmod") rDivmod := call_divmod
def TruQ (K : PySem.W.Frag) (QB : Bool → Hp → Prop) : VK := fun x H' => ∃ k, TruV K x H' k ∧ QB k H'
def tTru (K : PySem.W.Frag) (te : TE) : TT := fun σ H QB => te σ H (TruQ K QB)
theorem pt_tru {X : Cx} {a : Expr} {ta : TE} (ha : PE X a ta) (he : ∀ whole, isTrue a X.env whole = (do let v ← whole; standAt a.pos; holding [v] (truthy v))) : PT X a (tTru X.K ta) := pt_truth ha he
section
variable {K : PySem.W.Frag} {σ : L2.St} {H : Hp} {Q : VK} {QB : Bool → Hp → Prop} {i j : Int} {v x y : V} {p q l : Addr} {xs ys : List V} {te : TE}
theorem z_max2 (h : Q (.int (if j > i then j else i)) H) : rMax2 [.int i, .int j] H Q := ⟨i, j, rfl, h⟩
theorem z_min2 (h : Q (.int (if j < i then j else i)) H) : rMin2 [.int i, .int j] H Q := ⟨i, j, rfl, h⟩
theorem z_divmod (c : 0 < j ∧ j < 1073741824) (h : ∀ p H', H p = none → Same H H' → H' p = some (.tup [.int (i / j), .int (i % j)]) → Q (.ref p) H') : rDivmod [.int i, .int j] H Q :=
  ⟨i, j, rfl, c, fun a ha => h a _ ha (same_upd ha) upd_same⟩
theorem z_tru (h : te σ H (TruQ K QB)) : tTru K te σ H QB := h
/-- a test whose answer is known -/
theorem z_known {tt : TT} (k : Bool) (h : ∀ R : Bool → Hp → Prop, R k H → tt σ H R) (q : QB k H) : tt σ H QB := h QB q
/-- a test that is known to fail -/
theorem z_skip {n : L2.St → Hp → Prop} {r : VK} {b c : L2.St → Hp → Prop} {tt : TT} {t : TS} (h : ∀ R : Bool → Hp → Prop, R false H → tt σ H R) (q : n σ H) : tIfS tt t tNext ⟨n, r, b, c⟩ σ H := by
  refine h _ ?_
  rw [if_neg (by decide)]
  exact q
theorem z_truL (h : H p = some (.lst xs)) (q : QB (!xs.isEmpty) H) : TruQ K QB (.ref p) H := ⟨_, .inl ⟨xs, .inl (.inl h), rfl⟩, q⟩
theorem z_truT (h : SqT K H p xs) (q : QB (!xs.isEmpty) H) : TruQ K QB (.ref p) H := ⟨_, .inr (.inl ⟨xs, h, rfl⟩), q⟩
theorem z_truI (q : QB (i != 0) H) : TruQ K QB (.int i) H := ⟨_, rfl, q⟩
theorem rep_one (v : V) : ∀ m : Nat, (List.replicate m [v]).flatten = List.replicate m v
  | 0 => rfl
  | m + 1 => by
    rw [List.replicate_succ, List.flatten_cons, rep_one v m, List.replicate_succ]
    rfl
theorem z_rep (m : Nat) (h : H l = some (.lst [v])) (hj : j = (m : Int)) (hm : m ≤ 1000) (q : ∀ a H', H a = none → Same H H' → H' a = some (.lst (List.replicate m v)) → Q (.ref a) H') : rRep (.ref l) (.int j) H Q := by
  subst hj
  refine ⟨l, (m : Int), [v], rfl, rfl, h, by omega, by omega, Nat.le_trans (show [v].length * (m : Int).toNat ≤ 1000 by simpa using hm) (by decide), fun a ha => ?_⟩
  rw [Int.toNat_natCast, rep_one v m]
  exact q a _ ha (same_upd ha) upd_same
/-! while -/
/-- the number in slot k, as a measure -/
def muI (k : Nat) : L2.St → Hp → Nat := fun σ _ => match (σ[k]? : Option (Option V)) with
  | some (some (V.int m)) => m.toNat
  | _ => 0
def WB (Pv : L2.St → Hp → Prop) (μ : L2.St → Hp → Nat) (m : Nat) (tb : TS) (n : L2.St → Hp → Prop) (r : VK) (σ : L2.St) : Bool → Hp → Prop := fun b H1 =>
  if b = true then ∃ N : L2.St → Hp → Prop, (∀ σ' H', N σ' H' → ∃ m', m' < m ∧ m' = μ σ' H' ∧ Pv σ' H') ∧ tb ⟨N, r, n, N⟩ σ H1 else n σ H1
section
variable {Pv : L2.St → Hp → Prop} {μ : L2.St → Hp → Nat} {m : Nat} {tb : TS} {n : L2.St → Hp → Prop} {r : VK} {b c : L2.St → Hp → Prop}
theorem z_wbT (h : tb ⟨fun σ' H' => Pv σ' H' ∧ μ σ' H' < m, r, n, fun σ' H' => Pv σ' H' ∧ μ σ' H' < m⟩ σ H) : WB Pv μ m tb n r σ true H := by
  unfold WB
  rw [if_pos rfl]
  exact ⟨_, fun σ' H' z => ⟨_, z.2, rfl, z.1⟩, h⟩
theorem z_wbF (h : n σ H) : WB Pv μ m tb n r σ false H := by
  unfold WB
  rw [if_neg (by decide)]
  exact h
theorem z_wb {p : Prop} [Decidable p] (h1 : p → tb ⟨fun σ' H' => Pv σ' H' ∧ μ σ' H' < m, r, n, fun σ' H' => Pv σ' H' ∧ μ σ' H' < m⟩ σ H) (h2 : ¬ p → n σ H) : WB Pv μ m tb n r σ (decide p) H := by
  by_cases h : p
  · rw [decide_eq_true h]
    exact z_wbT (h1 h)
  · rw [decide_eq_false h]
    exact z_wbF (h2 h)
theorem z_while {tt : TT} (Pv : L2.St → Hp → Prop) (μ : L2.St → Hp → Nat) (h0 : Pv σ H) (hs : ∀ σ H, Pv σ H → tt σ H (WB Pv μ (μ σ H) tb n r σ)) : tWhile tt tb ⟨n, r, b, c⟩ σ H := by
  refine ⟨fun m σ H => m = μ σ H ∧ Pv σ H, ⟨_, rfl, h0⟩, ?_⟩
  rintro m σ H ⟨rfl, p⟩
  exact hs σ H p
end
/-! comprehensions over a range, over a list: the list at D grows -/
def LcB (D : Addr) (i : Nat) (Pv : Nat → Addr → List V → Hp → Prop) (Nx : Hp → Prop) : VK := fun y H4 => ∃ acc, H4 D = some (.lst acc) ∧ acc.length < sizeLine ∧ Nx (upd H4 D (.lst (acc ++ [y])))
theorem z_lcB {D : Addr} {i : Nat} {Pv : Nat → Addr → List V → Hp → Prop} {acc : List V} (h : H D = some (.lst acc)) (hl : acc.length = i) (hi : i < 1000) (q : ∀ H', H' D = some (.lst (acc ++ [y])) → Kp D H H' → (∀ b, b ≠ D → H' b = H b) → Pv (i + 1) D (acc ++ [y]) H') :
    LcB D i Pv (fun H' => ∃ acc', acc'.length = i + 1 ∧ H' D = some (.lst acc') ∧ Pv (i + 1) D acc' H') y H :=
  ⟨acc, h, Nat.lt_of_lt_of_le (show acc.length < 1000 by omega) (by decide), acc ++ [y], by simp [hl], upd_same, q _ upd_same (fun b o hb e => by rw [upd_ne hb]; exact e) fun b hb => upd_ne hb⟩
abbrev LcN (D : Addr) (i : Nat) (Pv : Nat → Addr → List V → Hp → Prop) : VK := LcB D i Pv (fun H' => ∃ acc', acc'.length = i + 1 ∧ H' D = some (.lst acc') ∧ Pv (i + 1) D acc' H')
theorem z_lcR {ta : TA} {k : Nat} {te : TE} {vs : List Nat} (m : Nat) (hm : m ≤ 1000) (ha : ∀ R : List V → Hp → Prop, R [.int (m : Int)] H → ta σ H R) (hw : ∀ x, wipe ((wipe σ vs).set k (some x)) vs = wipe σ vs) (Pv : Nat → Addr → List V → Hp → Prop)
    (h0 : ∀ D H', H D = none → Same H H' → H' D = some (.lst []) → Pv 0 D [] H')
    (hs : ∀ i D acc H', i < m → acc.length = i → H' D = some (.lst acc) → Pv i D acc H' → te ((wipe σ vs).set k (some (.int (i : Int)))) H' (LcN D i Pv))
    (hd : ∀ D acc H', H D = none → acc.length = m → H' D = some (.lst acc) → Pv m D acc H' → Q (.ref D) H') : tLc (iRng1 ta) (gName k) tYes te vs σ H Q := by
  refine ha _ ⟨(m : Int), rfl, by omega, by omega, fun D hD => ?_⟩
  refine lc_range (lo := 0) (n := (m : Int).toNat) (fun i H' => ∃ acc, acc.length = i ∧ H' D = some (.lst acc) ∧ Pv i D acc H') ⟨[], rfl, upd_same, h0 D _ hD (same_upd hD) upd_same⟩ (fun i H' hi ⟨acc, hl, hH, pv⟩ => ?_) (fun H' ⟨acc, hl, hH, pv⟩ => hd D acc H' hD (by simpa using hl) hH (by simpa using pv))
  have e : (0 : Int) + (i : Int) = (i : Int) := Int.zero_add _
  show wipe ((wipe σ vs).set k (some (.int ((0 : Int) + (i : Int))))) vs = wipe σ vs ∧ _
  refine ⟨hw _, z_yes (z_ifT ?_)⟩
  rw [e]
  exact hs i D acc H' (by simpa using hi) hl hH pv
def LcE (K : PySem.W.Frag) (g : TG) (tt : TT) (te : TE) (vs : List Nat) (σ : L2.St) (Q : VK) : VK := fun x H1 => tLc (iList K (tC x)) g tt te vs σ H1 Q
theorem z_lcE {tl : TE} {g : TG} {tt : TT} {vs : List Nat} (h : tl σ H (LcE K g tt te vs σ Q)) : tLc (iList K tl) g tt te vs σ H Q := h
def LcRE (g : TG) (tt : TT) (te : TE) (vs : List Nat) (σ : L2.St) (Q : VK) : List V → Hp → Prop := fun xs H1 => tLc (iRng1 fun _ H R => R xs H) g tt te vs σ H1 Q
theorem z_lcRE {ta : TA} {g : TG} {tt : TT} {vs : List Nat} (h : ta σ H (LcRE g tt te vs σ Q)) : tLc (iRng1 ta) g tt te vs σ H Q := h
theorem z_lcRr {k : Nat} {vs : List Nat} (m : Nat) (hm : m ≤ 1000) (hw : ∀ x, wipe ((wipe σ vs).set k (some x)) vs = wipe σ vs) (Pv : Nat → Addr → List V → Hp → Prop)
    (h0 : ∀ D H', H D = none → Same H H' → H' D = some (.lst []) → Pv 0 D [] H')
    (hs : ∀ i D acc H', i < m → acc.length = i → H' D = some (.lst acc) → Pv i D acc H' → te ((wipe σ vs).set k (some (.int (i : Int)))) H' (LcN D i Pv))
    (hd : ∀ D acc H', H D = none → acc.length = m → H' D = some (.lst acc) → Pv m D acc H' → Q (.ref D) H') : LcRE (gName k) tYes te vs σ Q [.int (m : Int)] H := z_lcR m hm (fun R q => q) hw Pv h0 hs hd
/-- over a list that stands as long as Pv -/
theorem z_lcLs {k : Nat} {vs : List Nat} {a : Addr} (hm : xs.length ≤ 1000) (hx : SqL K H a xs) (hw : ∀ x, wipe ((wipe σ vs).set k (some x)) vs = wipe σ vs) (Pv : Nat → Addr → List V → Hp → Prop)
    (h0 : ∀ D H', H D = none → Same H H' → H' D = some (.lst []) → Pv 0 D [] H') (hl : ∀ i D acc H', Pv i D acc H' → SqL K H' a xs)
    (hs : ∀ i x D acc H', xs[i]? = some x → acc.length = i → H' D = some (.lst acc) → Pv i D acc H' → te ((wipe σ vs).set k (some x)) H' (LcN D i Pv))
    (hd : ∀ D acc H', H D = none → acc.length = xs.length → H' D = some (.lst acc) → Pv xs.length D acc H' → Q (.ref D) H') : LcE K (gName k) tYes te vs σ Q (.ref a) H := by
  refine ⟨a, rfl, ⟨xs, hx⟩, fun D hD => ?_⟩
  refine lc_list (xs := xs) (fun i H' => ∃ acc, acc.length = i ∧ H' D = some (.lst acc) ∧ Pv i D acc H') ⟨[], rfl, upd_same, h0 D _ hD (same_upd hD) upd_same⟩ (fun i H' _ ⟨acc, _, _, pv⟩ => hl _ _ _ _ pv) (fun i x H' hi ⟨acc, hl, hH, pv⟩ => ?_) (fun H' ⟨acc, hl, hH, pv⟩ => hd D acc H' hD hl hH pv)
  show wipe ((wipe σ vs).set k (some x)) vs = wipe σ vs ∧ _
  exact ⟨hw _, z_yes (z_ifT (hs i x D acc H' hi hl hH pv))⟩
/-- any target -/
theorem z_lcG {g : TG} {vs : List Nat} {a : Addr} (hm : xs.length ≤ 1000) (hx : SqL K H a xs) (Pv : Nat → Addr → List V → Hp → Prop)
    (h0 : ∀ D H', H D = none → Same H H' → H' D = some (.lst []) → Pv 0 D [] H') (hl : ∀ i D acc H', Pv i D acc H' → SqL K H' a xs)
    (hs : ∀ i x D acc H', xs[i]? = some x → acc.length = i → H' D = some (.lst acc) → Pv i D acc H' → g x (wipe σ vs) H' fun σ2 H2 => wipe σ2 vs = wipe σ vs ∧ te σ2 H2 (LcN D i Pv))
    (hd : ∀ D acc H', H D = none → acc.length = xs.length → H' D = some (.lst acc) → Pv xs.length D acc H' → Q (.ref D) H') : LcE K g tYes te vs σ Q (.ref a) H := by
  refine ⟨a, rfl, ⟨xs, hx⟩, fun D hD => ?_⟩
  refine lc_list (xs := xs) (fun i H' => ∃ acc, acc.length = i ∧ H' D = some (.lst acc) ∧ Pv i D acc H') ⟨[], rfl, upd_same, h0 D _ hD (same_upd hD) upd_same⟩ (fun i H' _ ⟨acc, _, _, pv⟩ => hl _ _ _ _ pv) (fun i x H' hi ⟨acc, hl, hH, pv⟩ => ?_) (fun H' ⟨acc, hl, hH, pv⟩ => hd D acc H' hD hl hH pv)
  have h := hs i x D acc H' hi hl hH pv
  have e : (fun σ2 H2 => wipe σ2 vs = wipe σ vs ∧ te σ2 H2 (LcN D i Pv)) = (fun (σ2 : L2.St) (H2 : Hp) => wipe σ2 vs = wipe σ vs ∧ tYes σ2 H2 fun b H3 => if b = true then te σ2 H3 (LcN D i Pv) else ∃ acc', acc'.length = i + 1 ∧ H3 D = some (.lst acc') ∧ Pv (i + 1) D acc' H3) := by
    funext σ2 H2
    show _ = (wipe σ2 vs = wipe σ vs ∧ if true = true then te σ2 H2 (LcN D i Pv) else ∃ acc', acc'.length = i + 1 ∧ H2 D = some (.lst acc') ∧ Pv (i + 1) D acc' H2)
    rw [if_pos rfl]
  rw [e] at h
  exact h
/-- where the item answers at once -/
theorem z_lcS {k : Nat} {vs : List Nat} {a : Addr} (ws : List V) (hlen : ws.length = xs.length) (hm : xs.length ≤ 1000) (hx : H a = some (.lst xs)) (hw : ∀ x, wipe ((wipe σ vs).set k (some x)) vs = wipe σ vs)
    (body : ∀ (i : Nat) (x w : V) (H' : Hp), xs[i]? = some x → ws[i]? = some w → Same H H' → ∀ R : VK, R w H' → te ((wipe σ vs).set k (some x)) H' R)
    (hd : ∀ D H', H D = none → Same H H' → H' D = some (.lst ws) → Q (.ref D) H') : LcE K (gName k) tYes te vs σ Q (.ref a) H :=
  z_lcM (tl := tC (.ref a)) hlen hm (fun R q => q) hx hw body hd
end
/-! ### data: numbers, lists of numbers -/
def Fl (n : Nat) (d : PyData) : Prop := PyData.canLay0 d = true ∧ PyData.depth d ≤ n
theorem fl_all {n : Nat} : ∀ {ds : List PyData}, (∀ d ∈ ds, Fl n d) → PyData.canLayAll0 ds = true ∧ PyData.depthAll ds ≤ n
  | [], _ => ⟨rfl, Nat.zero_le _⟩
  | d :: ds, h => by
    have h1 := h d (.head _)
    have h2 := fl_all (ds := ds) fun x hx => h x (.tail _ hx)
    refine ⟨?_, ?_⟩
    · show (PyData.canLay0 d && PyData.canLayAll0 ds) = true
      rw [h1.1, h2.1]
      rfl
    · show max (PyData.depth d) (PyData.depthAll ds) ≤ n
      have := h1.2
      have := h2.2
      omega
theorem fl_list {n : Nat} {ds : List PyData} (h : ∀ d ∈ ds, Fl n d) : Fl (n + 1) (.list ds) := ⟨(fl_all h).1, Nat.succ_le_succ (fl_all h).2⟩
theorem fl_tup {n : Nat} {ds : List PyData} (h : ∀ d ∈ ds, Fl n d) : Fl (n + 1) (.tuple ds) := ⟨(fl_all h).1, Nat.succ_le_succ (fl_all h).2⟩
theorem fl_int (i : Int) : Fl 0 (.int i) := ⟨rfl, Nat.le_refl 0⟩
theorem shaped_fl {n : Nat} {d : PyData} (h : Fl n d) (hn : n ≤ 64 := by decide) : SeqAt.shaped d = true := by
  unfold SeqAt.shaped
  rw [Bool.and_eq_true]
  exact ⟨h.1, decide_eq_true (Nat.le_trans h.2 hn)⟩
theorem fl_ints (ns : List Int) : Fl 1 (.list (ns.map .int)) := fl_list fun d hd => by
  obtain ⟨i, _, rfl⟩ := List.mem_map.mp hd
  exact fl_int i
section
variable {K : PySem.W.Frag} {H : Hp} {Q : VK} {p q : Addr}
theorem dpa_ints : ∀ (ns : List Int), DpAll K H (ns.map V.int) (ns.map PyData.int)
  | [] => .nil
  | n :: ns => .cons (.int n) (dpa_ints ns)
theorem dp_ints {ns : List Int} (h : H p = some (.lst (ns.map V.int))) : Dp K H (.ref p) (.list (ns.map .int)) := .lst (.inl (.inl h)) (dpa_ints ns)
theorem eqv_intsA : ∀ (ns ms : List Int), PyData.eqv (.list (ns.map .int)) (.list (ms.map .int)) = decide (ns = ms)
  | [], [] => rfl
  | [], m :: ms => rfl
  | n :: ns, [] => rfl
  | n :: ns, m :: ms => by
    have ih := eqv_intsA ns ms
    show ((n == m) && PyData.eqv (.list (ns.map .int)) (.list (ms.map .int))) = _
    rw [ih]
    by_cases h : n = m
    · subst h
      by_cases h2 : ns = ms
      · simp [h2]
      · simp [h2]
    · simp [h]
theorem z_eqInts {ns ms : List Int} (h1 : H p = some (.lst (ns.map V.int))) (h2 : H q = some (.lst (ms.map V.int))) (k : Q (.bl (decide (ns = ms))) H) : rEqD K (.ref p) (.ref q) H Q :=
  ⟨_, _, dp_ints h1, dp_ints h2, shaped_fl (fl_ints ns), shaped_fl (fl_ints ms), by rw [eqv_intsA]; exact k⟩
theorem z_neInts {ns ms : List Int} (h1 : H p = some (.lst (ns.map V.int))) (h2 : H q = some (.lst (ms.map V.int))) (k : Q (.bl (decide (¬ ns = ms))) H) : rNeD K (.ref p) (.ref q) H Q :=
  ⟨_, _, dp_ints h1, dp_ints h2, shaped_fl (fl_ints ns), shaped_fl (fl_ints ms), by
    rw [eqv_intsA, show (!decide (ns = ms)) = decide (¬ ns = ms) by simp]
    exact k⟩
theorem inV_int (i : Int) : ∀ (ns : List Int), inV (.int i) (ns.map V.int) = decide (i ∈ ns)
  | [] => rfl
  | n :: ns => by
    have ih := inV_int i ns
    show (eqV (.int n) (.int i) || inV (.int i) (ns.map V.int)) = _
    rw [ih, show eqV (.int n) (.int i) = decide (n = i) by first | rfl | simp [eqV]]
    by_cases h : n = i
    · subst h
      simp
    · have h' : ¬ i = n := fun z => h z.symm
      simp [h, h']
theorem flat_ints (ns : List Int) : (ns.map V.int).all flatV = true := by
  rw [List.all_eq_true]
  intro v hv
  obtain ⟨i, _, rfl⟩ := List.mem_map.mp hv
  rfl
theorem z_inI {i : Int} {ns : List Int} (h : H p = some (.lst (ns.map V.int))) (k : Q (.bl (decide (i ∈ ns))) H) : rIn K false (.int i) (.ref p) H Q :=
  ⟨p, _, rfl, .inl (.inl (.inl h)), rfl, flat_ints ns, by rw [inV_int]; exact k⟩
theorem z_notInI {i : Int} {ns : List Int} (h : H p = some (.lst (ns.map V.int))) (k : Q (.bl (decide (¬ i ∈ ns))) H) : rIn K true (.int i) (.ref p) H Q :=
  ⟨p, _, rfl, .inl (.inl (.inl h)), rfl, flat_ints ns, by
    rw [inV_int, show (if true = true then !decide (i ∈ ns) else decide (i ∈ ns)) = decide (¬ i ∈ ns) by simp]
    exact k⟩
theorem z_sortedI {ns : List Int} (h : H p = some (.lst (ns.map V.int))) (k : ∀ (ms : List Int) (a : Addr) (H' : Hp), ms.Perm ns → ms.Pairwise (· ≤ ·) → H a = none → Same H H' → H' a = some (.lst (ms.map V.int)) → Q (.ref a) H') : rSortedI K [.ref p] H Q :=
  ⟨p, ns, rfl, .inl (.inl h), fun ms a h1 h2 ha => k ms a _ h1 h2 ha (same_upd ha) upd_same⟩
/-- truth values -/
theorem inV_bl (i : Bool) : ∀ (ns : List Bool), inV (.bl i) (ns.map V.bl) = decide (i ∈ ns)
  | [] => rfl
  | n :: ns => by
    have ih := inV_bl i ns
    show (eqV (.bl n) (.bl i) || inV (.bl i) (ns.map V.bl)) = _
    rw [ih]
    cases n <;> cases i <;> simp [eqV]
theorem flat_bls (ns : List Bool) : (ns.map V.bl).all flatV = true := by
  rw [List.all_eq_true]
  intro v hv
  obtain ⟨i, _, rfl⟩ := List.mem_map.mp hv
  rfl
theorem z_inB {i : Bool} {ns : List Bool} (h : H p = some (.lst (ns.map V.bl))) (k : Q (.bl (decide (i ∈ ns))) H) : rIn K false (.bl i) (.ref p) H Q :=
  ⟨p, _, rfl, .inl (.inl (.inl h)), rfl, flat_bls ns, by rw [inV_bl]; exact k⟩
theorem z_notInB {i : Bool} {ns : List Bool} (h : H p = some (.lst (ns.map V.bl))) (k : Q (.bl (decide (¬ i ∈ ns))) H) : rIn K true (.bl i) (.ref p) H Q :=
  ⟨p, _, rfl, .inl (.inl (.inl h)), rfl, flat_bls ns, by
    rw [inV_bl, show (if true = true then !decide (i ∈ ns) else decide (i ∈ ns)) = decide (¬ i ∈ ns) by simp]
    exact k⟩
theorem z_notNI {i : Int} (q : Q (.bl true) H) : rNotN (.int i) .non H Q := ⟨rfl, by simpa using q⟩
theorem z_isNI {i : Int} (q : Q (.bl false) H) : rIsN (.int i) .non H Q := ⟨rfl, by simpa using q⟩
theorem fresh_of {H H' : Hp} {a : Addr} (s : Same H H') (h : H' a = none) : H a = none := by
  cases z : H a with
  | none => rfl
  | some o =>
    have := s _ _ z
    rw [h] at this
    cases this
/-- sorted(ints) -/
theorem z_sorted {ns : List Int} (h : H p = some (.lst (ns.map V.int))) (hl : ns.length < 64) (k : ∀ (ms : List Int) (a : Addr) (H' : Hp), ms.Perm ns → ms.Pairwise (· ≤ ·) → H a = none → Same H H' → H' a = some (.lst (ms.map V.int)) → Q (.ref a) H') : rSorted K [.ref p] H Q :=
  ⟨p, ns, rfl, .inl (.inl h), hl, fun ms a h1 h2 ha => k ms a _ h1 h2 ha (same_upd ha) upd_same⟩
end
end Z

namespace Z
open PySem PySem.Spec PyProof PyProof.Rows L2
theorem get_list {X : Cx} : PGet X (rIxL X.K) := by
  intro pins s σ H o i ov iv Q I ro ri h
  obtain ⟨p, xs, k, z, rfl, rfl, hq, he, q⟩ := h
  cases ro
  obtain ⟨t, rfl⟩ := ri
  obtain ⟨its, r, pl, hz⟩ := I.list hq
  obtain ⟨j, h1, h2, h3, h4, h5⟩ := atI_get he
  obtain ⟨w, ew, rw'⟩ := r.get h2
  have hl := r.length
  have hn := line63
  by_cases h0 : 0 ≤ k
  · have hj : k.toNat = j := by
      rw [seqIndex_of h0 h5] at h1
      exact Option.some.inj h1
    exact wpAny_getItem_list pl.isList h0 (by omega) (by rw [hj]; simpa using ew) ⟨z, H, I, rw', q⟩
  · have hj : (k + (its.toArray.size : Int)).toNat = j := by
      rw [seqIndex_neg (by omega) h4] at h1
      rw [List.size_toArray, ← hl]
      exact Option.some.inj h1
    exact wpAny_getItem_list_neg pl.isList (by omega) (by rw [List.size_toArray, ← hl]; omega) (by omega) (by rw [hj]; simpa using ew) ⟨z, H, I, rw', q⟩
section
variable {K : PySem.W.Frag} {σ : L2.St} {H H' : Hp} {Q : VK} {p q : Addr} {xs ys : List V} {v y : V} {n : L2.St → Hp → Prop} {r : VK} {b c : L2.St → Hp → Prop} {tb : TS}
theorem z_augS {to ti te : TE} {tip : TIp} {st : TSet} {tget : V → V → Hp → VK → Prop} (h : to σ H fun o H1 => ti σ H1 fun i H2 => tget o i H2 fun x H3 => te σ H3 fun y H4 => tip x y H4 fun z H5 => st o i z H5 fun H6 => n σ H6) : tAugS to ti te tget tip st ⟨n, r, b, c⟩ σ H := h
/-- for k in range(lo, hi), whatever the two are -/
theorem z_forR2g {ta : TA} {k : Nat} (lo hi : Int) (hl : -(2 ^ 61) ≤ lo ∧ lo < 2 ^ 61) (hh : -(2 ^ 61) ≤ hi ∧ hi < 2 ^ 61) (ha : ∀ R : List V → Hp → Prop, R [.int lo, .int hi] H → ta σ H R) (Pv : Nat → L2.St → Hp → Prop) (h0 : Pv 0 σ H)
    (hs : ∀ i σ H, i < (hi - lo).toNat → Pv i σ H → tb ⟨Pv (i + 1), r, n, Pv (i + 1)⟩ (σ.set k (some (.int (lo + (i : Int))))) H) (hd : ∀ σ H, Pv (hi - lo).toNat σ H → n σ H) : tFor (iRng2 ta) (gName k) tb ⟨n, r, b, c⟩ σ H :=
  ha _ ⟨lo, hi, rfl, by omega, for_range (lo := lo) (n := (hi - lo).toNat) Pv h0 hs hd⟩
theorem z_extendW (h1 : H p = some (.lst xs)) (h2 : H q = some (.lst ys)) (hl : xs.length + ys.length ≤ 1000000) (k : Q .non (upd H p (.lst (xs ++ ys)))) : rExtend (.ref p) [.ref q] H Q :=
  ⟨p, q, xs, ys, rfl, rfl, h1, h2, Nat.le_trans hl (by decide), k⟩
theorem z_appendW (hp : H p = some (.lst xs)) (hl : xs.length < 1000000) (k : Q .non (upd H p (.lst (xs ++ [y])))) : rAppend (.ref p) [y] H Q := ⟨p, xs, y, rfl, rfl, hp, Nat.lt_of_lt_of_le hl (by decide), k⟩
/-! lists of data -/
theorem dpa_len : ∀ {ds : List PyData} {vs : List V}, DpAll K H vs ds → vs.length = ds.length
  | [], vs, h => by rw [dpa_nil h]; rfl
  | d :: ds, vs, h => by
    obtain ⟨v, t, rfl, _, h2⟩ := dpa_cons h
    rw [List.length_cons, List.length_cons, dpa_len h2]
theorem dpa_get : ∀ {ds : List PyData} {vs : List V} {i : Nat} {d : PyData}, DpAll K H vs ds → ds[i]? = some d → ∃ v, vs[i]? = some v ∧ Dp K H v d
  | [], _, _, _, _, e => by simp at e
  | d' :: ds, vs, i, d, h, e => by
    obtain ⟨v, t, rfl, h1, h2⟩ := dpa_cons h
    cases i with
    | zero =>
      cases e
      exact ⟨v, rfl, h1⟩
    | succ i =>
      have h5 := dpa_get (i := i) h2 (show ds[i]? = some _ from e)
      exact h5
theorem dpa_getv {ds : List PyData} {vs : List V} {i : Nat} {v : V} (h : DpAll K H vs ds) (e : vs[i]? = some v) : ∃ d, ds[i]? = some d ∧ Dp K H v d := by
  have hi : i < vs.length := (List.getElem?_eq_some_iff.mp e).1
  obtain ⟨w, hw, d⟩ := dpa_get h (List.getElem?_eq_getElem (show i < ds.length by rw [← dpa_len h]; exact hi))
  rw [e] at hw
  cases hw
  exact ⟨_, List.getElem?_eq_getElem _, d⟩
theorem dpa_app : ∀ {ds es : List PyData} {vs ws : List V}, DpAll K H vs ds → DpAll K H ws es → DpAll K H (vs ++ ws) (ds ++ es)
  | [], _, _, _, h, k => by
    rw [dpa_nil h]
    exact k
  | _ :: _, _, _, _, h, k => by
    obtain ⟨v, t, rfl, h1, h2⟩ := dpa_cons h
    exact .cons h1 (dpa_app h2 k)
theorem dpa_one {d : PyData} (h : Dp K H v d) : DpAll K H [v] [d] := .cons h .nil
end
end Z

namespace Cw
open PySem PySem.Spec PyProof.Rows L2 Z
/-- o.m(e, .., k = v, ..) -/
def tMethN (C : Addr) (mn : Str) (n m : Nat) (sp : Sp) (gV : List V → List V → List V) (E : XK) (ta : TE) (t tk : TA) : TE := fun σ H Q => ta σ H fun x H1 => ∃ a dx fs, x = .ref a ∧ H1 a = some (.ins C dx fs) ∧ fs.lookup mn = none ∧
  t σ H1 fun vs H2 => tk σ H2 fun zs H3 => vs.length = n ∧ zs.length = m ∧ sp (gV (x :: vs) zs) H3 Q E
section
variable {X : Cx} {CX : CXT} {k n : Nat} {f C : Addr} {fd : FuncData} {ps ks : List Str} {sp : Sp} {E : XK} {m : Str} {apos pos : Pos} {o e : Expr} {es : List Expr} {kws : List Keyword} {ta : TE} {t tk : TA} {g : List Value → List Value → List Value} {gV : List V → List V → List V}
theorem pe_methN {pl : Sem Bool} (he : PE X o ta) (c : Cls X.K C) (hm : Meth X.K C m f) (F : FnOk X.prog X.w X.K X.mg X.base CX k f fd ps sp) (hr : Room k X.A) (hb : KBn X.K fd ps (n + 1) ks g gV) (hx : Passes CX X E) (ha : PA X (e :: es) t) (hkw : PK X kws tk)
    (hall : (backToKw pos (keywordEach kws X.env)).all (·.1.isSome) = true := by rfl) (hks : (backToKw pos (keywordEach kws X.env)).filterMap (·.1) = ks := by rfl)
    (hst : starEach (e :: es) X.env = (false, eval e X.env) :: starEach es X.env := by rfl)
    (hpl : ((backTo pos (starEach (e :: es) X.env)).any (·.1) || (backToKw pos (keywordEach kws X.env)).any (·.1.isNone)) = false := by rfl)
    (ht : eval (.Call (.Attribute o m apos) (e :: es) kws pos) X.env = (do
      let ov ← eval o X.env
      standAt apos.atName
      let (f, first) ← holding [ov] (getMethod ov m pl)
      callWith pos f first (backTo pos (starEach (e :: es) X.env)) (backToKw pos (keywordEach kws X.env))) := by rfl) :
    PE X (.Call (.Attribute o m apos) (e :: es) kws pos) (tMethN C m n ks.length sp gV E ta t tk) := by
  refine ⟨fun pins s σ H Q I h => ?_⟩
  refine PySem.W.methodCall_KW (pl := pl) (thn (he.run pins s σ H _ I h) fun u s1 ⟨x, H1, I1, rx, a, dx, fs, ex, ea, l, q⟩ => ?_) ht
  subst ex
  obtain rfl : u = Value.ref a := rx
  refine getmeth_ok I1 ea c hm l ?_
  refine PySem.W.callWith_KW (first := [.ref a]) (h₀ := X.base) I.ok.mod.kin hm.kp hall (thn (ha.run pos pins s1 σ H1 _ I1 q) fun us s2 ⟨vs, H2, I2, r, q2⟩ => ?_) hpl hst
  refine thn (hkw.run pos pins s2 σ H2 _ I2 q2) fun ws s3 ⟨zs, H3, I3, rz, l1, l2, q3⟩ => ⟨I3.kIn, ?_⟩
  rw [hks]
  exact run_fnN (us := .ref a :: us) (vs := .ref a :: vs) F hr hb hx I3 (.cons rfl r) rz (by rw [List.length_cons, l1]) l2 q3
end
/-! methods whose errors are wished for at the slots (in a try) -/
def tMethS (C : Addr) (m : Str) (sp : Sp) (dvs : List V) (E : L2.St → XK) (ta : TE) (t : TA) : TE := fun σ H Q => ta σ H fun x H1 => ∃ a dx fs, x = .ref a ∧ H1 a = some (.ins C dx fs) ∧ fs.lookup m = none ∧ t σ H1 fun vs H2 => sp (x :: (vs ++ dvs)) H2 Q (E σ)
def tMethNS (C : Addr) (mn : Str) (n m : Nat) (sp : Sp) (gV : List V → List V → List V) (E : L2.St → XK) (ta : TE) (t tk : TA) : TE := fun σ H Q => ta σ H fun x H1 => ∃ a dx fs, x = .ref a ∧ H1 a = some (.ins C dx fs) ∧ fs.lookup mn = none ∧
  t σ H1 fun vs H2 => tk σ H2 fun zs H3 => vs.length = n ∧ zs.length = m ∧ sp (gV (x :: vs) zs) H3 Q (E σ)
section
variable {X : Cx} {CX : CXT} {k n : Nat} {f C : Addr} {fd : FuncData} {ps ks : List Str} {sp : Sp} {E : L2.St → XK} {m : Str} {apos pos : Pos} {o e : Expr} {es : List Expr} {kws : List Keyword} {ta : TE} {t tk : TA} {dvs : List V} {ds : List Value} {g : List Value → List Value → List Value} {gV : List V → List V → List V}
theorem pe_methS {pl : Sem Bool} (he : PE X o ta) (c : Cls X.K C) (hm : Meth X.K C m f) (F : FnOk X.prog X.w X.K X.mg X.base CX k f fd ps sp) (hr : Room k X.A) (hb : Binds X.K fd ps ds) (hd : Vals dvs ds) (hx : ∀ σ, PassesAt CX X σ (E σ)) (ha : PA X (e :: es) t)
    (hst : starEach (e :: es) X.env = (false, eval e X.env) :: starEach es X.env := by rfl) (hpl : (backTo pos (starEach es X.env)).any (·.1) = false := by rfl)
    (ht : eval (.Call (.Attribute o m apos) (e :: es) [] pos) X.env = (do
      let ov ← eval o X.env
      standAt apos.atName
      let (f, first) ← holding [ov] (getMethod ov m pl)
      callWith pos f first (backTo pos (starEach (e :: es) X.env)) (backToKw pos (keywordEach [] X.env))) := by rfl) :
    PE X (.Call (.Attribute o m apos) (e :: es) [] pos) (tMethS C m sp dvs E ta t) := by
  refine ⟨fun pins s σ H Q I h => ?_⟩
  refine PySem.W.methodCall_KW (pl := pl) (thn (he.run pins s σ H _ I h) fun u s1 ⟨x, H1, I1, rx, a, dx, fs, ex, ea, l, q⟩ => ?_) ht
  subst ex
  obtain rfl : u = Value.ref a := rx
  refine getmeth_ok I1 ea c hm l ?_
  refine PySem.W.callWith_K (first := [.ref a]) (h₀ := X.base) I.ok.mod.kin hm.kp (thn (ha.run pos pins s1 σ H1 _ I1 q) fun us s2 ⟨vs, H2, I2, r, q2⟩ => ⟨I2.kIn, ?_⟩) hst hpl
  exact run_fnSD (us := .ref a :: us) (vs := .ref a :: vs) F hr hb hd (hx σ) I2 (.cons rfl r) q2
theorem pe_meth0S {pl : Sem Bool} (he : PE X o ta) (c : Cls X.K C) (hm : Meth X.K C m f) (F : FnOk X.prog X.w X.K X.mg X.base CX k f fd ps sp) (hr : Room k X.A) (hb : Binds X.K fd ps ds) (hd : Vals dvs ds) (hx : ∀ σ, PassesAt CX X σ (E σ))
    (ht : eval (.Call (.Attribute o m apos) [] [] pos) X.env = (do
      let ov ← eval o X.env
      standAt apos.atName
      let (f, first) ← holding [ov] (getMethod ov m pl)
      callWith pos f first (backTo pos (starEach [] X.env)) (backToKw pos (keywordEach [] X.env))) := by rfl) :
    PE X (.Call (.Attribute o m apos) [] [] pos) (tMethS C m sp dvs E ta tNil) := by
  refine ⟨fun pins s σ H Q I h => ?_⟩
  refine PySem.W.methodCall_KW (pl := pl) (thn (he.run pins s σ H _ I h) fun u s1 ⟨x, H1, I1, rx, a, dx, fs, ex, ea, l, q⟩ => ?_) ht
  subst ex
  obtain rfl : u = Value.ref a := rx
  refine getmeth_ok I1 ea c hm l ?_
  exact PySem.W.callWith_K0 (first := [.ref a]) I1.kIn hm.kp (run_fnSD (us := [.ref a]) (vs := [.ref a]) F hr hb hd (hx σ) I1 (.cons rfl .nil) q)
theorem run_fnNS {pins : List (Addr × Obj)} {σ : L2.St} {H : Hp} {s : Shared} {Q : VK} {us ws : List Value} {vs zs : List V} (F : FnOk X.prog X.w X.K X.mg X.base CX k f fd ps sp) (hr : Room k X.A) (hb : KBn X.K fd ps n ks g gV) (hx : PassesAt CX X σ (E σ))
    (I : Inv X pins σ H s) (r : Vals vs us) (rz : Vals zs ws) (l1 : vs.length = n) (l2 : zs.length = ks.length) (h : sp (gV vs zs) H Q (E σ)) : wpAny (model X.prog X.w) X.A (call (.ref f) us (ks.zip ws)) (EP X pins σ Q) X.xe s := by
  have r2 := hb.rel r rz
  refine wpAny_call (codeAny_mono (F.run X.A X.stack s H ⟨us, ks.zip ws⟩ (g us ws) (gV vs zs) Q (E σ) hr I.env0 (hb.to s us ws I.kIn (r.length.symm.trans l1) (rz.length.symm.trans l2)) r2 h) fun r s' hq => ?_)
  cases r with
  | error e => exact hx pins H s e s' I hq
  | ok fl =>
    cases fl with
    | ret u => exact I.after hq
    | next => exact False.elim hq
    | brk => exact False.elim hq
    | cont => exact False.elim hq
theorem pe_methNS {pl : Sem Bool} (he : PE X o ta) (c : Cls X.K C) (hm : Meth X.K C m f) (F : FnOk X.prog X.w X.K X.mg X.base CX k f fd ps sp) (hr : Room k X.A) (hb : KBn X.K fd ps (n + 1) ks g gV) (hx : ∀ σ, PassesAt CX X σ (E σ)) (ha : PA X (e :: es) t) (hkw : PK X kws tk)
    (hall : (backToKw pos (keywordEach kws X.env)).all (·.1.isSome) = true := by rfl) (hks : (backToKw pos (keywordEach kws X.env)).filterMap (·.1) = ks := by rfl)
    (hst : starEach (e :: es) X.env = (false, eval e X.env) :: starEach es X.env := by rfl)
    (hpl : ((backTo pos (starEach (e :: es) X.env)).any (·.1) || (backToKw pos (keywordEach kws X.env)).any (·.1.isNone)) = false := by rfl)
    (ht : eval (.Call (.Attribute o m apos) (e :: es) kws pos) X.env = (do
      let ov ← eval o X.env
      standAt apos.atName
      let (f, first) ← holding [ov] (getMethod ov m pl)
      callWith pos f first (backTo pos (starEach (e :: es) X.env)) (backToKw pos (keywordEach kws X.env))) := by rfl) :
    PE X (.Call (.Attribute o m apos) (e :: es) kws pos) (tMethNS C m n ks.length sp gV E ta t tk) := by
  refine ⟨fun pins s σ H Q I h => ?_⟩
  refine PySem.W.methodCall_KW (pl := pl) (thn (he.run pins s σ H _ I h) fun u s1 ⟨x, H1, I1, rx, a, dx, fs, ex, ea, l, q⟩ => ?_) ht
  subst ex
  obtain rfl : u = Value.ref a := rx
  refine getmeth_ok I1 ea c hm l ?_
  refine PySem.W.callWith_KW (first := [.ref a]) (h₀ := X.base) I.ok.mod.kin hm.kp hall (thn (ha.run pos pins s1 σ H1 _ I1 q) fun us s2 ⟨vs, H2, I2, r, q2⟩ => ?_) hpl hst
  refine thn (hkw.run pos pins s2 σ H2 _ I2 q2) fun ws s3 ⟨zs, H3, I3, rz, l1, l2, q3⟩ => ⟨I3.kIn, ?_⟩
  rw [hks]
  exact run_fnNS (us := .ref a :: us) (vs := .ref a :: vs) F hr hb (hx σ) I3 (.cons rfl r) rz (by rw [List.length_cons, l1]) l2 q3
end
/-! the readings -/
section
variable {K : PySem.W.Frag} {H : Hp} {Q : VK} {σ : L2.St} {a C dx : Addr} {fs : List (Str × V)} {f m : Str} {v : V} {ta tv : TE} {t tk : TA} {n : L2.St → Hp → Prop} {r : VK} {b c : L2.St → Hp → Prop} {sp : Sp} {dvs : List V} {E : XK} {gV : List V → List V → List V}
def QFld (K : PySem.W.Frag) (f : Str) (Q : VK) : VK := fun x H1 => ∃ a C dx fs v, x = .ref a ∧ H1 a = some (.ins C dx fs) ∧ Cls K C ∧ NoAttr K C f ∧ fs.lookup f = some v ∧ Q v H1
theorem z_fldE (h : ta σ H (QFld K f Q)) : tFld K ta f σ H Q := h
theorem z_fld (e : H a = some (.ins C dx fs)) (c : Cls K C) (no : NoAttr K C f) (l : fs.lookup f = some v) (q : Q v H) : QFld K f Q (.ref a) H := ⟨a, C, dx, fs, v, rfl, e, c, no, l, q⟩
def QSet (K : PySem.W.Frag) (f : Str) (y : V) (n : Hp → Prop) : VK := fun x H2 => ∃ a C dx fs, x = .ref a ∧ H2 a = some (.ins C dx fs) ∧ Cls K C ∧ NoAttr K C f ∧ fs.length < 1000 ∧ n (upd H2 a (.ins C dx (putF f y fs)))
theorem z_sfldE (h : tv σ H fun y H1 => ta σ H1 (QSet K f y (n σ))) : sFld K ta tv f ⟨n, r, b, c⟩ σ H := h
theorem z_sfld {n : Hp → Prop} (e : H a = some (.ins C dx fs)) (c : Cls K C) (no : NoAttr K C f) (l : fs.length < 1000) (q : n (upd H a (.ins C dx (putF f v fs)))) : QSet K f v n (.ref a) H := ⟨a, C, dx, fs, rfl, e, c, no, l, q⟩
def QMeth (C : Addr) (m : Str) (σ : L2.St) (t : TA) (sp : List V → Hp → Prop) : VK := fun x H1 => ∃ a dx fs, x = .ref a ∧ H1 a = some (.ins C dx fs) ∧ fs.lookup m = none ∧ t σ H1 fun vs H2 => sp (x :: vs) H2
theorem z_methSE {E : L2.St → XK} (h : ta σ H (QMeth C m σ t fun vs H2 => sp (vs ++ dvs) H2 Q (E σ))) : tMethS C m sp dvs E ta t σ H Q := h
theorem z_methE (h : ta σ H (QMeth C m σ t fun vs H2 => sp (vs ++ dvs) H2 Q E)) : tMeth C m sp dvs E ta t σ H Q := h
theorem z_meth {sp : List V → Hp → Prop} (e : H a = some (.ins C dx fs)) (l : fs.lookup m = none) (q : t σ H fun vs H2 => sp (.ref a :: vs) H2) : QMeth C m σ t sp (.ref a) H := ⟨a, dx, fs, rfl, e, l, q⟩
def QMethN (C : Addr) (mn : Str) (k j : Nat) (sp : Sp) (gV : List V → List V → List V) (E : XK) (σ : L2.St) (t tk : TA) (Q : VK) : VK := fun x H1 => ∃ a dx fs, x = .ref a ∧ H1 a = some (.ins C dx fs) ∧ fs.lookup mn = none ∧
  t σ H1 fun vs H2 => tk σ H2 fun zs H3 => vs.length = k ∧ zs.length = j ∧ sp (gV (x :: vs) zs) H3 Q E
theorem z_methNE {k j : Nat} (h : ta σ H (QMethN C m k j sp gV E σ t tk Q)) : tMethN C m k j sp gV E ta t tk σ H Q := h
theorem z_methNSE {k j : Nat} {E : L2.St → XK} (h : ta σ H (QMethN C m k j sp gV (E σ) σ t tk Q)) : tMethNS C m k j sp gV E ta t tk σ H Q := h
theorem z_methN {k j : Nat} (e : H a = some (.ins C dx fs)) (l : fs.lookup m = none) (q : t σ H fun vs H2 => tk σ H2 fun zs H3 => vs.length = k ∧ zs.length = j ∧ sp (gV (.ref a :: vs) zs) H3 Q E) : QMethN C m k j sp gV E σ t tk Q (.ref a) H := ⟨a, dx, fs, rfl, e, l, q⟩
theorem z_lens {xs ys : List V} {k j : Nat} {P : Prop} (h1 : xs.length = k) (h2 : ys.length = j) (q : P) : xs.length = k ∧ ys.length = j ∧ P := ⟨h1, h2, q⟩
theorem z_make (h : t σ H fun vs H1 => ∀ x dx, H1 x = none → H1 dx = none → dx ≠ x → sp (.ref x :: (vs ++ dvs)) (upd (upd H1 dx (.own x)) x (.ins C dx [])) (fun v H2 => v = .non ∧ Q (.ref x) H2) E) : tMake C sp dvs E t σ H Q := h
end
/-! for and comprehensions over any walk -/
section
variable {K : PySem.W.Frag} {H : Hp} {Q : VK} {σ : L2.St} {wi : TI} {J : It} {m : Nat} {G : Hp → Prop} {Y : Nat → Hp → V → Hp → Prop} {g : TG} {tb : TS} {te : TE} {n : L2.St → Hp → Prop} {r : VK} {b c : L2.St → Hp → Prop} {vs : List Nat}
theorem z_forW (w : Walk J m G Y) (hi : ∀ R : It → Hp → Prop, R J H → wi σ H R) (Pv : Nat → L2.St → Hp → Prop) (h0 : Pv 0 σ H) (hG : ∀ i σ H, i ≤ m → Pv i σ H → G H)
    (hs : ∀ i x σ H H', i < m → Pv i σ H → Y i H x H' → g x σ H' fun σ2 H2 => tb ⟨Pv (i + 1), r, n, Pv (i + 1)⟩ σ2 H2) (hd : ∀ σ H, Pv m σ H → n σ H) : tFor wi g tb ⟨n, r, b, c⟩ σ H :=
  hi _ (for_it w Pv h0 hG hs hd)
theorem z_lcW (w : Walk J m G Y) (hi : ∀ R : It → Hp → Prop, R J H → wi σ H R) (Pv : Nat → Addr → List V → Hp → Prop)
    (h0 : ∀ D H', H D = none → Same H H' → H' D = some (.lst []) → Pv 0 D [] H') (hG : ∀ i D acc H', Pv i D acc H' → G H')
    (hs : ∀ i x D acc H' H2, i < m → acc.length = i → H' D = some (.lst acc) → Pv i D acc H' → Y i H' x H2 → g x (wipe σ vs) H2 fun σ2 H3 => wipe σ2 vs = wipe σ vs ∧ te σ2 H3 (LcN D i Pv))
    (hd : ∀ D acc H', H D = none → acc.length = m → H' D = some (.lst acc) → Pv m D acc H' → Q (.ref D) H') : tLc wi g tYes te vs σ H Q := by
  refine hi _ fun D hD => ?_
  refine lc_it w (fun i H' => ∃ acc, acc.length = i ∧ H' D = some (.lst acc) ∧ Pv i D acc H') ⟨[], rfl, upd_same, h0 D _ hD (same_upd hD) upd_same⟩ (fun i H' _ ⟨acc, _, _, pv⟩ => hG _ _ _ _ pv) (fun i x H' H2 hi' ⟨acc, hl, hH, pv⟩ y => ?_) (fun H' ⟨acc, hl, hH, pv⟩ => hd D acc H' hD hl hH pv)
  have h := hs i x D acc H' H2 hi' hl hH pv y
  have e : (fun σ2 H2 => wipe σ2 vs = wipe σ vs ∧ te σ2 H2 (LcN D i Pv)) = (fun (σ2 : L2.St) (H2 : Hp) => wipe σ2 vs = wipe σ vs ∧ tYes σ2 H2 fun b H3 => if b = true then te σ2 H3 (LcN D i Pv) else ∃ acc', acc'.length = i + 1 ∧ H3 D = some (.lst acc') ∧ Pv (i + 1) D acc' H3) := by
    funext σ2 H2
    show _ = (wipe σ2 vs = wipe σ vs ∧ if true = true then te σ2 H2 (LcN D i Pv) else ∃ acc', acc'.length = i + 1 ∧ H2 D = some (.lst acc') ∧ Pv (i + 1) D acc' H2)
    rw [if_pos rfl]
  rw [e] at h
  exact h
/-- [e for x in ..]: the values ws -/
theorem z_valsW {ws : List V} (w : Walk J m G Y) (hm : m ≤ 1000) (hi : ∀ R : It → Hp → Prop, R J H → wi σ H R) (hG : ∀ H', Same H H' → G H') (hl : ws.length = m)
    (hs : ∀ i x v H' H2 (R : VK), ws[i]? = some v → i < m → Same H H' → Y i H' x H2 → (∀ H3, Same H' H3 → R v H3) → g x (wipe σ vs) H2 fun σ2 H3 => wipe σ2 vs = wipe σ vs ∧ te σ2 H3 R)
    (hd : ∀ D H', H D = none → Same H H' → H' D = some (.lst ws) → Q (.ref D) H') : tLc wi g tYes te vs σ H Q := by
  refine z_lcW w hi (fun i D acc H' => Same H H' ∧ H D = none ∧ acc = ws.take i) (fun D H' f s _ => ⟨s, f, rfl⟩) (fun i D acc H' h => hG _ h.1) (fun i x D acc H' H2 hi' hl' hD ⟨s', fD, ea⟩ y => ?_) (fun D acc H' fD hl' hD ⟨s', _, ea⟩ => ?_)
  · have hw : ws[i]? = some ws[i] := List.getElem?_eq_getElem (by omega)
    refine hs i x ws[i] H' H2 _ hw hi' s' y fun H3 s3 => ?_
    refine z_lcB (s3 _ _ hD) hl' (by omega) fun H5 hD5 k5 e5 => ⟨fun b o h => ?_, fD, ?_⟩
    · rw [e5 b (ne_of_none h fD)]
      exact s3 _ _ (s' _ _ h)
    · subst ea
      rw [List.take_add_one, hw]
      rfl
  · refine hd D H' fD s' ?_
    rw [hD, ea, ← hl, List.take_length]
/-- [e for x in ..]: a new object each time -/
theorem z_objsW {ob : Nat → HO} (w : Walk J m G Y) (hm : m ≤ 1000) (hi : ∀ R : It → Hp → Prop, R J H → wi σ H R) (hG : ∀ H', Same H H' → G H')
    (hs : ∀ i x H' H2 (R : VK), i < m → Same H H' → Y i H' x H2 → (∀ a H3, H' a = none → Same H' H3 → H3 a = some (ob i) → R (.ref a) H3) → g x (wipe σ vs) H2 fun σ2 H3 => wipe σ2 vs = wipe σ vs ∧ te σ2 H3 R)
    (hd : ∀ (D : Addr) (H' : Hp) (as : List Addr), H D = none → Same H H' → H' D = some (.lst (as.map V.ref)) → as.length = m → as.Nodup → D ∉ as → (∀ i a, as[i]? = some a → H a = none ∧ H' a = some (ob i)) → Q (.ref D) H') : tLc wi g tYes te vs σ H Q := by
  refine z_lcW w hi (fun i D acc H' => Same H H' ∧ H D = none ∧ ∃ as : List Addr, acc = as.map V.ref ∧ as.Nodup ∧ D ∉ as ∧ ∀ i a, as[i]? = some a → H a = none ∧ H' a = some (ob i)) (fun D H' f s _ => ⟨s, f, [], rfl, List.nodup_nil, List.not_mem_nil, fun i a h => (by simp at h)⟩) (fun i D acc H' h => hG _ h.1) (fun i x D acc H' H2 hi' hl' hD ⟨s', fD, as, ea, nd, nD, hv⟩ y => ?_) (fun D acc H' fD hl' hD ⟨s', _, as, ea, nd, nD, hv⟩ => ?_)
  · have la : as.length = i := by
      have := congrArg List.length ea
      rw [List.length_map, hl'] at this
      exact this.symm
    refine hs i x H' H2 _ hi' s' y fun a H3 fa s3 h3 => ?_
    have na : a ∉ as := fun hm => by
      obtain ⟨j, hj⟩ := List.mem_iff_getElem?.mp hm
      have := (hv j a hj).2
      rw [fa] at this
      cases this
    have nDa : a ≠ D := fun z => by
      rw [z, hD] at fa
      cases fa
    refine z_lcB (s3 _ _ hD) hl' (by omega) fun H5 hD5 k5 e5 => ⟨fun b o h => ?_, fD, as ++ [a], by rw [ea, List.map_append]; rfl, ?_, ?_, fun j b hb => ?_⟩
    · rw [e5 b (ne_of_none h fD)]
      exact s3 _ _ (s' _ _ h)
    · rw [List.nodup_append]
      refine ⟨nd, List.pairwise_singleton _ _, fun x hx y hy z => ?_⟩
      rw [List.mem_singleton.mp hy] at z
      exact na (by rw [← z]; exact hx)
    · rw [List.mem_append, List.mem_singleton]
      rintro (h | h)
      · exact nD h
      · exact nDa h.symm
    · rcases Nat.lt_or_ge j as.length with h | h
      · rw [List.getElem?_append_left h] at hb
        have hne : b ≠ D := fun z => nD (by rw [← z]; exact List.mem_of_getElem? hb)
        refine ⟨(hv j b hb).1, ?_⟩
        rw [e5 b hne]
        exact s3 _ _ (hv j b hb).2
      · have hr : j = i := by
          have := (List.getElem?_eq_some_iff.mp hb).1
          rw [List.length_append, List.length_singleton] at this
          omega
        subst hr
        rw [List.getElem?_append_right h, la, Nat.sub_self] at hb
        cases hb
        refine ⟨?_, by rw [e5 a nDa]; exact h3⟩
        cases z : H a with
        | none => rfl
        | some o =>
          have := s' _ _ z
          rw [fa] at this
          cases this
  · have la : as.length = m := by
      have := congrArg List.length ea
      rw [List.length_map, hl'] at this
      exact this.symm
    exact hd D H' as fD s' (by rw [hD, ea]) la nd nD hv
/-! what is walked -/
def It0 (R : It → Hp → Prop) : List V → Hp → Prop := fun _ _ => True
theorem z_iRng {ta : TA} {k : Nat} {R : It → Hp → Prop} (ha : ∀ S : List V → Hp → Prop, S [.int (k : Int)] H → ta σ H S) (hk : k ≤ 1000) (q : R (Itr 0 k) H) : iRng1 ta σ H R := by
  refine ha _ ⟨(k : Int), rfl, by omega, by omega, ?_⟩
  rw [Int.toNat_natCast]
  exact q
theorem z_iList {te : TE} {a : Addr} {xs : List V} {R : It → Hp → Prop} (ha : ∀ S : VK, S (.ref a) H → te σ H S) (h : SqL K H a xs) (q : R (Itl K a) H) : iList K te σ H R := ha _ ⟨a, rfl, ⟨xs, h⟩, q⟩
theorem z_iZip {ta : TA} {a b : Addr} {xs ys : List V} {R : It → Hp → Prop} (ha : ∀ S : List V → Hp → Prop, S [.ref a, .ref b] H → ta σ H S) (h1 : SqL K H a xs) (h2 : SqL K H b ys) (q : R (Itz K a b) H) : iZip K ta σ H R := ha _ ⟨a, b, xs, ys, rfl, h1, h2, q⟩
theorem z_iEnum {ta : TA} {a : Addr} {xs : List V} {R : It → Hp → Prop} (ha : ∀ S : List V → Hp → Prop, S [.ref a] H → ta σ H S) (h1 : SqL K H a xs) (q : R (Ite K a) H) : iEnum K ta σ H R := ha _ ⟨a, xs, rfl, h1, q⟩
def rSumN (K : PySem.W.Frag) : List V → Hp → VK → Prop := rSum K
theorem z_sum {ns : List Int} {a : Addr} (h : SqL K H a (ns.map V.int)) (q : Q (.int ns.sum) H) : rSum K [.ref a] H Q := ⟨a, ns, rfl, h, q⟩
theorem z_reverse {xs : List V} {l : Addr} (h : H l = some (.lst xs)) (q : Q .non (upd H l (.lst xs.reverse))) : rReverse (.ref l) [] H Q := ⟨l, xs, rfl, rfl, h, q⟩
end
/-! one field -/
theorem look1 {f : Str} {v : V} : ([(f, v)] : List (Str × V)).lookup f = some v := by
  unfold List.lookup
  rw [show (f == f) = true from beq_self_eq_true f]
theorem look1n {f m : Str} {v : V} (h : (m == f) = false) : ([(f, v)] : List (Str × V)).lookup m = none := by
  unfold List.lookup
  rw [h]
  rfl
theorem put1 {f : Str} {v w : V} : putF f w [(f, v)] = [(f, w)] := by
  unfold putF
  rw [if_pos rfl]
theorem put0 {f : Str} {w : V} : putF f w [] = [(f, w)] := rfl
end Cw

namespace Co
open PySem PySem.Spec PyProof.Rows L2 Z
/-- a value is never NotImplemented -/
theorem notNI {v : V} {u : Value} (r : RelV v u) {Q : Value → Shared → Prop} {s : Shared} (q : Q u s) : PySem.W.CmpBack Q u s := by
  cases u <;> first | exact q | (cases v <;> first | (cases r; done) | (obtain ⟨_, r⟩ := r; cases r; done) | exact absurd r (by intro z; cases z))
/-- x op y by an own method -/
def rOwn (C : Addr) (sp : Sp) (E : L2.St → XK) : L2.St → R2 := fun σ x y H Q => ∃ a b dx dy fs gs, x = .ref a ∧ y = .ref b ∧ H a = some (.ins C dx fs) ∧ H b = some (.ins C dy gs) ∧ sp [.ref a, .ref b] H Q (E σ)
def rOwn1 (C : Addr) (sp : Sp) (E : L2.St → XK) : L2.St → V → Hp → VK → Prop := fun σ x H Q => ∃ a dx fs, x = .ref a ∧ H a = some (.ins C dx fs) ∧ sp [.ref a] H Q (E σ)
def tOpS (r : L2.St → R2) (ta tb : TE) : TE := fun σ H Q => ta σ H fun x H1 => tb σ H1 fun y H2 => r σ x y H2 Q
def tUnS (r : L2.St → V → Hp → VK → Prop) (ta : TE) : TE := fun σ H Q => ta σ H fun x H1 => r σ x H1 Q
section
variable {X : Cx} {CX : CXT} {k : Nat} {f C : Addr} {fd : FuncData} {ps : List Str} {sp : Sp} {E : L2.St → XK} {op : Operator} {nm : Str}
theorem own_bin {pins : List (Addr × Obj)} {s : Shared} {σ : L2.St} {H : Hp} {x y : V} {v u : Value} {Q : VK} (c : PySem.W.selfFirst X.K C = true) (hs : PySem.W.findIn X.K (.ref C) nm = some (some (.ref f))) (hf : PySem.W.isFn X.K (.ref f) = true) (F : FnOk X.prog X.w X.K X.mg X.base CX k f fd ps sp) (hr : Room k X.A) (hb : Binds X.K fd ps []) (hx : ∀ σ, PassesAt CX X σ (E σ))
    (hn : PySem.dunder op.info.2 = nm) (I : Inv X pins σ H s) (rx : RelV x v) (ry : RelV y u) (h : rOwn C sp E σ x y H Q) : wpAny (model X.prog X.w) X.A (binaryOp op v u) (EP X pins σ Q) X.xe s := by
  obtain ⟨a, b, dx, dy, fs, gs, rfl, rfl, ha, hb', hq⟩ := h
  cases rx
  cases ry
  obtain ⟨mA, J, _⟩ := ins_get I.hok ha
  obtain ⟨mB, J', _⟩ := ins_get I.hok hb'
  obtain ⟨od, J, _⟩ := J.look
  obtain ⟨od', J', _⟩ := J'.look
  obtain ⟨m, hF⟩ := I.fr
  subst hn
  refine PySem.W.binop_K hF I.ok.mod.kin J J'.type c hs hf ?_
  refine wpAny_mono (run_fnSD (us := [.ref a, .ref b]) (vs := [.ref a, .ref b]) F hr hb .nil (hx σ) I (.cons rfl (.cons rfl .nil)) hq) (fun r s' q => ?_) fun _ _ x => x
  obtain ⟨z, H', I', rz, q⟩ := q
  exact notNI rz ⟨z, H', I', rz, q⟩
theorem pe_own {a b : Expr} {ta tb : TE} {pos : Pos} (c : PySem.W.selfFirst X.K C = true) (hs : PySem.W.findIn X.K (.ref C) nm = some (some (.ref f))) (hf : PySem.W.isFn X.K (.ref f) = true) (F : FnOk X.prog X.w X.K X.mg X.base CX k f fd ps sp) (hr : Room k X.A) (hb : Binds X.K fd ps []) (hx : ∀ σ, PassesAt CX X σ (E σ))
    (ha : PE X a ta) (hbb : PE X b tb) (hn : PySem.dunder op.info.2 = nm := by decide +kernel) : PE X (.BinOp a op b pos) (tOpS (rOwn C sp E) ta tb) := by
  refine ⟨fun pins s σ H Q I h => ?_⟩
  exact wpAny_BinOp (binT ha hbb I h fun v u s2 x y H2 I2 rx ry q => own_bin c hs hf F hr hb hx hn I2 rx ry q)
theorem own_neg {pins : List (Addr × Obj)} {s : Shared} {σ : L2.St} {H : Hp} {x : V} {v : Value} {Q : VK} (hs : PySem.W.findIn X.K (.ref C) "__neg__" = some (some (.ref f))) (hf : PySem.W.isFn X.K (.ref f) = true) (F : FnOk X.prog X.w X.K X.mg X.base CX k f fd ps sp) (hr : Room k X.A) (hb : Binds X.K fd ps []) (hx : ∀ σ, PassesAt CX X σ (E σ))
    (I : Inv X pins σ H s) (rx : RelV x v) (h : rOwn1 C sp E σ x H Q) : wpAny (model X.prog X.w) X.A (unaryOp .USub v) (EP X pins σ Q) X.xe s := by
  obtain ⟨a, dx, fs, rfl, ha, hq⟩ := h
  cases rx
  obtain ⟨mA, J, _⟩ := ins_get I.hok ha
  obtain ⟨od, J, _⟩ := J.look
  obtain ⟨m, hF⟩ := I.fr
  unfold unaryOp
  refine wpAny_holding ?_
  show wpAny _ _ (if (UnaryOp.USub == UnaryOp.Not) = true then _ else _) _ _ _
  rw [if_neg (by decide)]
  refine wpAny_bind (PySem.W.special_fn (args := []) (I.ok.mod.kin.keeps hF.keep) J hs (beq_iff_eq.mp hf) ?_)
  refine wpAny_mono (run_fnSD (us := [.ref a]) (vs := [.ref a]) F hr hb .nil (hx σ) I (.cons rfl .nil) hq) (fun r s' q => ?_) fun _ _ x => x
  exact wpAny_pure q
theorem pe_ownNeg {a : Expr} {ta : TE} {pos : Pos} (hs : PySem.W.findIn X.K (.ref C) "__neg__" = some (some (.ref f))) (hf : PySem.W.isFn X.K (.ref f) = true) (F : FnOk X.prog X.w X.K X.mg X.base CX k f fd ps sp) (hr : Room k X.A) (hb : Binds X.K fd ps []) (hx : ∀ σ, PassesAt CX X σ (E σ))
    (ha : PE X a ta) : PE X (.UnaryOp .USub a pos) (tUnS (rOwn1 C sp E) ta) := by
  refine ⟨fun pins s σ H Q I h => ?_⟩
  exact UnaryOp_ (thn (ha.run pins s σ H _ I h) fun v s1 ⟨x, H1, I1, r1, q1⟩ => own_neg hs hf F hr hb hx I1 r1 q1)
end
theorem passAll {X : Cx} {CX : CXT} {E : XK} (h : Passes CX X E) : ∀ σ, PassesAt CX X σ ((fun _ => E) σ) := fun σ pins H s e s' I q => h pins σ H s e s' I q
section
variable {ta tb : TE} {σ : L2.St} {H : Hp} {Q : VK} {C a b dx dy : Addr} {fs gs : List (Str × V)} {sp : Sp} {E : L2.St → XK}
theorem z_opS {r : L2.St → R2} (h : ta σ H fun x H1 => tb σ H1 fun y H2 => r σ x y H2 Q) : tOpS r ta tb σ H Q := h
theorem z_unS {r : L2.St → V → Hp → VK → Prop} (h : ta σ H fun x H1 => r σ x H1 Q) : tUnS r ta σ H Q := h
theorem z_own (h1 : H a = some (.ins C dx fs)) (h2 : H b = some (.ins C dy gs)) (q : sp [.ref a, .ref b] H Q (E σ)) : rOwn C sp E σ (.ref a) (.ref b) H Q := ⟨a, b, dx, dy, fs, gs, rfl, rfl, h1, h2, q⟩
theorem z_own1 (h1 : H a = some (.ins C dx fs)) (q : sp [.ref a] H Q (E σ)) : rOwn1 C sp E σ (.ref a) H Q := ⟨a, dx, fs, rfl, h1, q⟩
end
end Co

/-! an exception that leaves a list comprehension, also a nested one -/
namespace Xc
open PySem PySem.Spec PyProof.Rows L2 Z
section
variable {M : Model} {A : Around} {E : Value → Shared → Prop} {s : Shared} {env : Env}
/-- what a comprehension's run is to leave; the frame of its environment is told -/
def cpX (M : Model) (A : Around) (E : Value → Shared → Prop) (Q : Value → Shared → Prop) (acc : Value) (cenv : Env) (r : Result) (s' : Shared) : Prop :=
  match r with
  | .ok _ => ∃ m, s'.heap.Ns cenv.locals m ∧ ∀ h', Heap.SameBut cenv.locals s'.heap h' → Q acc { s' with heap := h' }
  | .error x => ∃ m, s'.heap.Ns cenv.locals m ∧ ∀ h', Heap.SameBut cenv.locals s'.heap h' → ∀ c' : Env, c'.frame = cenv.frame → wpAny M A (passOn "comprehension.variables-let-go" x c' : Sem Value) (fun _ _ => False) E { s' with heap := h' }
theorem comp_x {e : Expr} {scope : Scope} {pos : Pos} {newAcc first : Sem Value} {g : Comprehension} {gs : List Comprehension} {cl : List (Str × Addr)} {Q : Value → Shared → Prop}
    (hcl : clausesOf e = g :: gs) (hs : ∀ x, foldedSetIterable g.iter env x = pure x) (hclos : closureFor scope env = pure cl)
    (hkind : scope.kind = .function) (hnames : ∀ x ∈ scope.names, x.2 = .local → scope.names.lookup x.1 = some .local)
    (h : wpAny M A first (fun x s₁ => wpAny M A (pyIter x) (fun it s₂ => wpAny M A newAcc (fun acc s₃ =>
      wpAny M A (newFunctionEnv scope env.globals cl [] env.qual none .none (some env)) (fun cenv s₄ =>
        codeAny M A (.compStart e 0 it acc { cenv with scope := relabel scope env }) (cpX M A E Q acc cenv) s₄) E s₃) E s₂) E s₁) E s) :
    wpAny M A (comprehension e scope env pos newAcc false first none) Q E s := by
  unfold comprehension
  rw [hclos, hcl]
  refine wpAny_bind (wpAny_mono h (fun x s₁ h₁ => wpAny_bind (wpAny_standAt (wpAny_bind (wpAny_of_eq (hs x) (wpAny_bind (wpAny_holding (wpAny_mono h₁ (fun it s₂ h₂ =>
    wpAny_standIf (wpAny_bind (wpAny_mono h₂ (fun acc s₃ h₃ => wpAny_bind (wpAny_pure (wpAny_bind (wpAny_mono h₃ (fun cenv s₄ h₄ => ?_) fun _ _ h' => h')))) fun _ _ h' => h')))
      fun _ _ h' => h'))))))) fun _ _ h' => h')
  dsimp only
  have hv : ∀ x ∈ (scope.names.filter fun x => (x.2 == .local || x.2 == .cell) && x.1 != (".0" : Str)).reverse, x.2 = .local →
      Env.kindOf { cenv with scope := relabel scope env } x.1 = some .local := fun x hx hl => lookup_relabel_local (hnames x (List.mem_filter.mp (List.mem_reverse.mp hx)).1 hl)
  refine wpAny_holding (wpAny_bind (wpAny_attempt (wpAny_holding (wpAny_run (codeAny_mono h₄ fun r s' hr => ?_)))))
  cases r with
  | ok f =>
    obtain ⟨m, hn, hr⟩ := hr
    exact wpAny_bind (wpAny_holding (wpAny_comp_letGo (cenv := { cenv with scope := relabel scope env }) hkind _ s' m hv hn fun h' m' _ hs' => wpAny_pure (hr h' hs')))
  | error x =>
    obtain ⟨m, hn, hr⟩ := hr
    exact wpAny_bind (wpAny_holding (wpAny_comp_letGo (cenv := { cenv with scope := relabel scope env }) hkind _ s' m hv hn fun h' m' _ hs' => wpAny_mono (hr h' hs' _ rfl) (fun _ _ f => f.elim) fun _ _ y => y))
end

/-- an exception in the air of X, its frame at L -/
def XF (X : Cx) (L : Addr) (E : XK) (P : Heap → List Env → Addr → (Obj → Prop) → Addr → Heap → Prop) (u : Value) (s' : Shared) : Prop :=
  ∃ (a : Addr) (B : Heap) (sI : Shared) (pins : List (Addr × Obj)) (σ : L2.St) (H : Hp) (cls : Value) (d : Option Addr),
    u = .ref a ∧ Inv X pins σ H sI ∧ (∀ b o, sI.heap.get? b = some o → b ∉ frs X.stack → B.get? b = some o) ∧ sI.heap.UpToSlots s'.heap ∧
      P B X.stack a (Zc cls d) L s'.heap ∧ H a = none ∧ s'.os = sI.os ∧ AllBare s'.gens ∧ E cls d H
def Tk (X : Cx) (E : XK) : Prop := ∃ L D outs, X.stack = D :: outs ∧ D.frame = some L ∧ X.env.frame = some L ∧ ∀ u s', XF X L E Sky u s' → X.xe u s'
abbrev Held (B : Heap) (l : List Env) (a : Addr) (Z : Obj → Prop) (L : Addr) (h : Heap) : Prop := HandSPX.HeldZ B l a Z L h

section
variable {X : Cx} {E : XK} {L : Addr} {pins : List (Addr × Obj)} {σ : L2.St} {H : Hp} {s s' : Shared} {u : Value}
theorem tk_def (hs : X.stack = X.env :: X.outer) (hf : X.env.frame = some X.env.locals) (tk : Takes X (fun cls d _ H => E cls d H)) : Tk X E := ⟨X.env.locals, X.env, X.outer, hs, hf, hf, fun u s' h => tk u s' h⟩

/-- a call's exception -/
theorem XF.of_call (I : Inv X pins σ H s) (c : L2.CX X.prog X.w X.stack H s E u s') : XF X L E Sky u s' := by
  obtain ⟨a, B, H', cls, d, rfl, fl, hok, ub, na, os, ag, hE⟩ := c
  obtain ⟨G, gy, gn⟩ := restrict s'.heap fun b => (B.get? b).isSome || decide (b ∈ frs X.stack)
  have keepB : ∀ b o, B.get? b = some o → G.get? b = some o := fun b o e => (gy b (by simp [e])).trans (fl.1 b o e)
  have atF : ∀ b, b ∈ frs X.stack → G.get? b = s'.heap.get? b := fun b hb => gy b (by simp [hb])
  have inG : ∀ b o, G.get? b = some o → s'.heap.get? b = some o ∧ ((B.get? b).isSome = true ∨ b ∈ frs X.stack) := fun b o e => by
    by_cases q : ((B.get? b).isSome || decide (b ∈ frs X.stack)) = true
    · rw [gy b q] at e
      exact ⟨e, by simpa [Bool.or_eq_true] using q⟩
    · rw [gn b (by simpa using q)] at e; cases e
  have J : Inv X pins σ H' { s with heap := G, gens := s'.gens, drawn := s'.drawn, toks := s'.toks } := by
    refine I.call (ch := []) ⟨fun b o e n hb _ => keepB b o (ub.keep b o e n hb), fun b o e _ hb _ => ?_, fun b o e n _ => ub.free b o e n, fun b o e _ => ?_, ub.tups, ub.frzs, ub.tbls⟩ (hok.kept keepB) ag (fun _ z => nomatch z)
    · obtain ⟨sl, q⟩ := ub.slot b o e hb
      exact ⟨sl, (atF b hb).trans q⟩
    · by_cases hb : b ∈ frs X.stack
      · obtain ⟨sl, q⟩ := ub.slot b o e hb
        exact ⟨_, (atF b hb).trans q⟩
      · obtain ⟨o', q⟩ := ub.there b o e hb
        exact ⟨o', keepB b o' q⟩
  refine ⟨a, B, _, pins, σ, H', cls, d, rfl, J, fun b o e hb => ?_, Heap.UpToSlots.of_keeps fun b o e => (inG b o e).1, .inr (.inl fl), na, os, ag, hE⟩
  obtain ⟨e', h⟩ := inG b o e
  rcases h with h | h
  · obtain ⟨o', q⟩ := Option.isSome_iff_exists.mp h
    have z := fl.1 b o' q
    rw [e'] at z; cases z
    exact q
  · exact absurd h hb
theorem pass (tk : Tk X E) : Passes (L2.CX X.prog X.w) X E := fun pins σ H s e s' I c => by
  obtain ⟨L, D, outs, _, _, _, t⟩ := tk
  exact t e s' (XF.of_call I c)

/-- noted -/
theorem XF.noted {E₁ : Value → Shared → Prop} {D : Env} {outs : List Env} (hs : X.stack = D :: outs) (hD : D.frame = some L) (hf : X.env.frame = some L) (hA : X.A.frames = some X.stack) (x : XF X L E Sky u s') :
    wpAny (model X.prog X.w) X.A (noteFrame u X.env) (fun _ s'' => XF X L E Held u s'') E₁ s' := by
  obtain ⟨a, B, sI, pins, σ, H, cls, d, rfl, I, nb, up, sky, na, os, ag, hE⟩ := x
  have e : noteFrame (.ref a) X.env = noteFrame (.ref a) D := by unfold noteFrame PySem.frameOf; rw [hf, hD]
  rw [e]
  have hfr : X.A.frames = some (D :: outs) := by rw [hA, hs]
  have fin : ∀ h', HandSPX.HeldZ B X.stack a (Zc cls d) L h' → s'.heap.UpToSlots h' → XF X L E Held (.ref a) { s' with heap := h' } := fun h' hh up' => ⟨a, B, sI, pins, σ, H, cls, d, rfl, I, nb, up.trans up', hh, na, os, ag, hE⟩
  rw [hs] at sky fin
  rcases sky with ⟨hB, hn, hl, oe, vs, he, hz, hd, h1⟩ | fl | hh
  · exact HandSPX.look_newZ Zc.steady hfr hl hD he hB hn hd h1 hz fin
  · exact HandSPX.looks_onZ Zc.steady hfr hD fl fin
  · exact HandSPX.againZ hD hh.2.2.2 (fin s'.heap hh (Heap.UpToSlots.refl _))
/-- handed on -/
theorem XF.passed {E₁ : Value → Shared → Prop} {ce : Env} {what : String} (hf : ce.frame = some L) (x : XF X L E Held u s') (h : ∀ s'', XF X L E Sky u s'' → E₁ u s'') :
    wpAny (model X.prog X.w) X.A (passOn what u ce : Sem Value) (fun _ _ => False) E₁ s' := by
  obtain ⟨a, B, sI, pins, σ, H, cls, d, rfl, I, nb, up, hh, na, os, ag, hE⟩ := x
  unfold PySem.passOn
  obtain ⟨oe, vs, T, oT, ts, he, hz, hd, h1, hnT, hTe, hT, hdT, h3⟩ := hh.2.2.2
  refine wpAny_bind (wpAny_field he hd h1 ?_)
  rw [if_neg (show ¬ ((Value.ref T == Value.none) = true) from by simp)]
  rw [hf]
  refine wpAny_bind (HandSPX.setFlight_onZ hh fun h' hh' up' => ?_)
  exact wpAny_throw (h _ ⟨a, B, sI, pins, σ, H, cls, d, rfl, I, nb, up.trans up', .inr (.inr hh'), na, os, ag, hE⟩)
end
/-- the context of a block, with what is wanted of an exception -/
abbrev blkE (X : Cx) (s : Shared) (H : Hp) (scope : Scope) (cenv : Env) (fp : List Addr) (xe : Value → Shared → Prop) : Cx := { X with s_0 := s, H_0 := H, env := cenv, outer := X.stack, ex := fp, fn := fun x => scope.names.lookup x == some .cell, pn := [], xe := xe }
theorem toE {X : Cx} {s : Shared} {H : Hp} {scope : Scope} {ce : Env} {fp : List Addr} {xe : Value → Shared → Prop} {pins : List (Addr × Obj)} {σ : L2.St} {H' : Hp} {s' : Shared} (I : Inv (X.blk s H scope ce fp) pins σ H' s') : Inv (blkE X s H scope ce fp xe) pins σ H' s' :=
  ⟨⟨I.ok.mod, I.ok.kind, I.ok.glob, I.ok.blt, I.ok.above, I.ok.inj, I.ok.has, I.ok.cab, I.ok.hd, I.ok.frames, I.ok.stk, I.ok.exf, I.ok.bs, I.ok.bsz, I.ok.noex, I.ok.exfs, I.ok.funs, I.ok.frf⟩, I.os, I.bare, I.base, I.loc, I.cell, I.free, I.freeC, I.pin, I.hok, I.len⟩

theorem fun_hide {h h' B B' : Heap} {C : Addr} (sb : Heap.SameBut C h h') (gone : ∀ b, B.get? b = none → B'.get? b = none) : ∀ {l : List Env}, C ∉ frs l → h.FunFrames B l → h'.FunFrames B' l
  | [], _, _ => trivial
  | env :: l, hn, ⟨hk, ⟨L, o, hf, hb, ho, hd⟩, hr⟩ => by
    have hm : L ∈ frs (env :: l) := List.mem_filterMap.mpr ⟨env, List.mem_cons_self, hf⟩
    exact ⟨hk, ⟨L, o, hf, gone L hb, (sb.2 L fun z => hn (z ▸ hm)).trans ho, hd⟩, fun_hide sb gone (fun q => hn (by
      obtain ⟨e, he, q⟩ := List.mem_filterMap.mp q
      exact List.mem_filterMap.mpr ⟨e, List.mem_cons_of_mem _ he, q⟩)) hr⟩
/-- out of a block: the block's own names go -/
theorem XF.out {X : Cx} {E : XK} {L : Addr} {pins : List (Addr × Obj)} {σ : L2.St} {H : Hp} {s3 s' : Shared} {u : Value} {scope : Scope} {ce : Env} {fp : List Addr} {xe : Value → Shared → Prop} (I3 : Inv X pins σ H s3) (hC : s3.heap.objs.size ≤ ce.locals)
    (f3 : ∀ b ∈ fp, FpOk X pins H b ∧ b < s3.heap.objs.size) (x : XF (blkE X s3 H scope ce fp xe) L E Held u s') :
    (∃ m, s'.heap.Ns ce.locals m) ∧ ∀ h', Heap.SameBut ce.locals s'.heap h' → XF X L E Held u { s' with heap := h' } := by
  obtain ⟨a, B, sI, pn, σ', H', cls, d, rfl, I, nb, up, hh, na, os, ag, hE⟩ := x
  have J : Inv X pins σ H' sI := I3.call' (ch := fp) I.os I.base I.hok I.bare fun b hb => ⟨(f3 b hb).1.2.2.2.1, (f3 b hb).1.2.1, (f3 b hb).1.2.2.2.2.1, (f3 b hb).1.2.2.2.2.2⟩
  have nf : ce.locals ∉ frs X.stack := fun hm => by
    obtain ⟨_, o, e, _⟩ := I3.stack.mem hm
    exact absurd (Nat.lt_of_lt_of_le (Heap.lt_size e) hC) (Nat.lt_irrefl _)
  have nC : H' ce.locals = none := I.free
  obtain ⟨m, hn, _⟩ := I.loc
  have hn : sI.heap.Ns ce.locals m := hn
  obtain ⟨oc, es, ep, ho, hd, hk, hf⟩ := hn
  have hB : B.get? ce.locals = some oc := nb _ _ ho nf
  have hs' : s'.heap.get? ce.locals = some oc := hh.1 _ _ hB
  refine ⟨⟨m, oc, es, ep, hs', hd, hk, hf⟩, fun h' sb => ?_⟩
  have f := I3.fpOk (H' := H') hC nC
  obtain ⟨f0, f1, f2, f3', f4, f5⟩ := f
  have J2 : Inv X pins σ H' { sI with heap := PySem.W.hideAll sI.heap [ce.locals], toks := sI.toks } := J.turned (it := ce.locals) (fun b o hb e => PySem.W.hideAll_get _ e (by simpa using hb)) f0 f1 f3' f4 f5
  have aC : a ≠ ce.locals := fun z => by
    have q := hh.2.1
    rw [z, hB] at q; cases q
  have inB : ∀ b o, (PySem.W.hideAll B [ce.locals]).get? b = some o → B.get? b = some o ∧ b ≠ ce.locals := fun b o e => ⟨PySem.W.of_hideAll _ e, fun z => by
    rw [z, PySem.W.hideAll_none [ce.locals] (by simp)] at e; cases e⟩
  have inS : ∀ b o, (PySem.W.hideAll sI.heap [ce.locals]).get? b = some o → sI.heap.get? b = some o ∧ b ≠ ce.locals := fun b o e => ⟨PySem.W.of_hideAll _ e, fun z => by
    rw [z, PySem.W.hideAll_none [ce.locals] (by simp)] at e; cases e⟩
  have gone : ∀ b, B.get? b = none → (PySem.W.hideAll B [ce.locals]).get? b = none := fun b e => by
    cases q : (PySem.W.hideAll B [ce.locals]).get? b with
    | none => rfl
    | some o => rw [(inB b o q).1] at e; cases e
  have hh0 := hh
  obtain ⟨k1, k2, k3, k4⟩ := hh
  have k3 : s'.heap.FunFrames B X.stack := k3
  have k4 := k4
  refine ⟨a, PySem.W.hideAll B [ce.locals], _, pins, σ, H', cls, d, rfl, J2, fun b o e hb => ?_, fun b o e hnf => ?_, ⟨fun b o e => ?_, gone a k2, ?_, ?_⟩, na, os, ag, hE⟩
  · have e : (PySem.W.hideAll sI.heap [ce.locals]).get? b = some o := e
    obtain ⟨e1, e2⟩ := inS b o e
    exact PySem.W.hideAll_get _ (nb b o e1 hb) (by simpa using e2)
  · have e : (PySem.W.hideAll sI.heap [ce.locals]).get? b = some o := e
    obtain ⟨e1, e2⟩ := inS b o e
    obtain ⟨sl, q⟩ := up b o e1 hnf
    exact ⟨sl, (sb.2 b e2).trans q⟩
  · obtain ⟨e1, e2⟩ := inB b o e
    exact (sb.2 b e2).trans (k1 b o e1)
  · exact fun_hide sb gone nf k3
  · obtain ⟨oe, vs, T, oT, ts, he, hz, hd', h1, hnT, hTe, hT, hdT, h3⟩ := k4
    have tC : T ≠ ce.locals := fun z => by rw [z, hB] at hnT; cases hnT
    exact ⟨oe, vs, T, oT, ts, (sb.2 a aC).trans he, hz, hd', h1, gone T hnT, hTe, (sb.2 T tC).trans hT, hdT, h3⟩

section
variable {X : Cx} {E : XK}
/-- [elt for target in iter if ..], what may raise E inside -/
theorem pe_lcX {elt tg iter : Expr} {ifs : List Expr} {scope : Scope} {own : List (Str × Nat)} {pos : Pos} {wi : TI} {g : TG} {tt : TT} {te : TE} (tk : Tk X E) (hc : X.calm = true) (hN : X.N.Nodup) (hi : PI X tg iter wi) (ok : BlkOk X.N X.env.scope scope own)
    (hg : ∀ (s : Shared) (H : Hp) (C : Addr) (cl : List (Str × Addr)) (fp : List Addr) (xe : Value → Shared → Prop), Tk (blkE X s H scope (compEnvC scope cl C X.env) fp xe) E → PG (blkE X s H scope (compEnvC scope cl C X.env) fp xe) tg g)
    (ht : ∀ (s : Shared) (H : Hp) (C : Addr) (cl : List (Str × Addr)) (fp : List Addr) (xe : Value → Shared → Prop), Tk (blkE X s H scope (compEnvC scope cl C X.env) fp xe) E → PTs (blkE X s H scope (compEnvC scope cl C X.env) fp xe) ifs tt)
    (he : ∀ (s : Shared) (H : Hp) (C : Addr) (cl : List (Str × Addr)) (fp : List Addr) (xe : Value → Shared → Prop), Tk (blkE X s H scope (compEnvC scope cl C X.env) fp xe) E → PE (blkE X s H scope (compEnvC scope cl C X.env) fp xe) elt te)
    (hs : ∀ x, foldedSetIterable iter X.env x = pure x := by intro _; rfl) :
    PE X (.ListComp elt [⟨tg, iter, ifs, 0⟩] scope pos) (tLc wi g tt te (own.map (·.2))) := by
  refine ⟨fun pins s σ H Q I h => ?_⟩
  obtain ⟨L, Dm, outs, hstk, hDf, hXf, htk⟩ := tk
  rw [eval_ListComp]
  have hfree : ∀ y ∈ scope.names, y.2 = .free → ∃ c, X.env.cells.lookup y.1 = some c := fun y hy e => by
    rcases ok.free y hy e with k | k
    · exact I.ok.has _ (.inl k)
    · exact I.ok.has _ (.inr k)
  refine comp_x rfl hs (closure_ok hfree) ok.kind (fun y hy e => by rw [ok.uniq y hy, e])
    (thn (hi.run pins s σ H _ I h) fun xv s1 hx => thn hx fun itv s2 h2 => ?_)
  obtain ⟨it, fp, tn, J, H2, e, I2, T, st2, f2, q⟩ := h2
  subst e
  refine wpAny_newObj_type (newEnv_comp ?_) (by show 0 ≤ sizeLine; decide)
  generalize hD : s2.heap.objs.size = D
  have hDn : H2 D = none := I2.hok.fresh (Nat.le_of_eq hD)
  obtain ⟨W, ⟨m0, w0⟩, turn⟩ := q D hDn
  generalize hs3 : ({ s2 with heap := s2.heap.push { cls := .type "list", data := .seq ([] : List Value).toArray } } : Shared) = s3
  have I3 : Inv X pins σ (upd H2 D (.lst [])) s3 := by
    rw [← hs3]
    refine I2.laid (t' := s2.toks) (fun b o e => Heap.get?_push_of_some _ e) (Nat.le_of_eq hD) ⟨Nat.zero_le _, [], 0, .nil, ?_⟩
    rw [← hD]
    exact Heap.get?_push_size _ rfl
  have h3 : s3.heap = s2.heap.push { cls := .type "list", data := .seq ([] : List Value).toArray } := by rw [← hs3]
  have sz : ∀ b ∈ fp, b < s2.heap.objs.size := fun b hb => by
    obtain ⟨o, e, _⟩ := T.obj _ _ st2 b hb
    exact Heap.lt_size e
  have f3 : ∀ b ∈ fp, FpOk X pins (upd H2 D (.lst [])) b ∧ b < s3.heap.objs.size := fun b hb => by
    have hlt := sz b hb
    refine ⟨⟨?_, (f2 b hb).2⟩, by rw [h3, Heap.size_push]; exact Nat.lt_succ_of_lt hlt⟩
    rw [upd_ne (by rw [← hD]; exact Nat.ne_of_lt hlt)]
    exact (f2 b hb).1
  have st3 : tn 0 s3.heap := T.keep _ _ _ st2 fun b _ o e => by rw [h3]; exact Heap.get?_push_of_some _ e
  have I4 := block_start I3 ok hN f3
  generalize hcl : cellsFrom (s3.heap.objs.size + 1) scope.names (cloFrom X.env.cells scope.names []) = cl at I4
  have pg := hg s3 (upd H2 D (.lst [])) s3.heap.objs.size cl fp
  have pt := ht s3 (upd H2 D (.lst [])) s3.heap.objs.size cl fp
  have pe := he s3 (upd H2 D (.lst [])) s3.heap.objs.size cl fp
  show codeAny _ _ (.compStart (.ListComp elt [⟨tg, iter, ifs, 0⟩] scope pos) 0 (.ref it) (.ref D) (compEnvC scope cl s3.heap.objs.size X.env)) (cpX (model X.prog X.w) X.A X.xe (fun v s' => EP X pins σ Q v s') (.ref D) (newEnv scope s3.heap.objs.size X.env.globals cl X.env.qual none .none (some X.env) builtinsNs)) { s3 with heap := pushCells (s3.heap.push { cls := .type "dict", data := .dict #[] }) scope.names }
  have nL : (newEnv scope s3.heap.objs.size X.env.globals cl X.env.qual none .none (some X.env) builtinsNs).locals = s3.heap.objs.size := rfl
  have nF : (newEnv scope s3.heap.objs.size X.env.globals cl X.env.qual none .none (some X.env) builtinsNs).frame = some L := hXf
  generalize newEnv scope s3.heap.objs.size X.env.globals cl X.env.qual none .none (some X.env) builtinsNs = cn at nL nF ⊢
  have nfp : ∀ b ∈ fp, (upd H2 D (.lst [])) b = none := fun b hb => (f3 b hb).1.1
  have cF : (compEnvC scope cl s3.heap.objs.size X.env).frame = some L := hXf
  have cL : (compEnvC scope cl s3.heap.objs.size X.env).locals = s3.heap.objs.size := rfl
  generalize hce : compEnvC scope cl s3.heap.objs.size X.env = ce at I4 pg pt pe cF cL ⊢
  generalize hH3 : upd H2 D (.lst []) = H3 at I3 I4 pg pt pe w0 nfp f3
  generalize hs4 : ({ s3 with heap := pushCells (s3.heap.push { cls := .type "dict", data := .dict #[] }) scope.names } : Shared) = s4 at I4 ⊢
  have st4 : tn 0 s4.heap := T.keep _ _ _ st3 fun b _ o e => by rw [← hs4]; exact pushCells_keeps _ _ _ _ (Heap.get?_push_of_some _ e)
  generalize hR : cpX (model X.prog X.w) X.A X.xe (fun v s' => EP X pins σ Q v s') (.ref D) cn = R
  generalize hxe : notedBy (model X.prog X.w) X.A ce (fun e s' => R (.error e) s') = xe
  have tkb : Tk (blkE X s3 H3 scope ce fp xe) E := by
    refine ⟨L, Dm, outs, hstk, hDf, cF, fun u s' x => ?_⟩
    show xe u s'
    rw [← hxe]
    show wpAny _ _ (noteFrame u ce) _ _ s'
    refine wpAny_mono (XF.noted (X := blkE X s3 H3 scope ce fp xe) (E₁ := fun e s' => R (.error e) s') hstk hDf cF I3.ok.frames x) (fun _ s'' x' => ?_) fun _ _ z => z
    rw [← hR]
    obtain ⟨⟨m, hm⟩, ho⟩ := XF.out I3 (Nat.le_of_eq cL.symm) f3 x'
    rw [cL] at hm ho
    refine ⟨m, by rw [nL]; exact hm, fun h' sb c' hc' => ?_⟩
    rw [nL] at sb
    exact XF.passed (hc'.trans nF) (ho h' sb) (htk u)
  have pg := pg xe tkb
  have pt := pt xe tkb
  have pe := pe xe tkb
  have I4 := toE (xe := xe) I4
  have stat : ∀ {σ' : L2.St} {H' : Hp} {s' : Shared}, Inv (blkE X s3 H3 scope ce fp xe) [] σ' H' s' → (∀ b ∈ fp, H' b = none) → ∀ b ∈ fp, FpOk (blkE X s3 H3 scope ce fp xe) [] H' b := fun {σ' H' s'} I' hn b hb =>
    ⟨hn b hb, (I'.ok.exf b hb).1, I'.ok.exfs b hb, .inl hb, fun x c e => (I'.ok.exf b hb).2 x c e, fun p hp => absurd (show p ∈ ([] : List (Addr × Obj)) ++ [] from hp) (by simp)⟩
  have loop : codeAny (model X.prog X.w) X.A (.compLoop (.ListComp elt [⟨tg, iter, ifs, 0⟩] scope pos) 0 (.ref it) (.ref D) ce) R s4 := by
    refine compLoop_any (fun n s' => ∃ i H', Inv (blkE X s3 H3 scope ce fp xe) [] (wipe σ (own.map (·.2))) H' s' ∧ tn i s'.heap ∧ (∀ b ∈ fp, H' b = none) ∧ W i n H') ?_ m0 ⟨0, H3, I4, st4, nfp, w0⟩
    rintro n s5 ⟨i, H5, I5, st5, n5, w5⟩
    rw [hxe]
    rcases turn i n H5 w5 with ⟨stop, qq⟩ | ⟨go, Nx, hNx, step⟩
    · refine thnF (T.done (blkE X s3 H3 scope ce fp xe) rfl rfl rfl hc i [] s5 _ H5 (fun _ _ => False) I5 (stat I5 n5) st5 stop) fun r s6 ⟨hr, I6⟩ => ?_
      subst hr
      have I7 : Inv X pins σ H5 s6 := I3.call' (ch := fp) I6.os I6.base I6.hok I6.bare fun b hb => ⟨(f3 b hb).1.2.2.2.1, (f3 b hb).1.2.1, (f3 b hb).1.2.2.2.2.1, (f3 b hb).1.2.2.2.2.2⟩
      have nC : H5 s3.heap.objs.size = none := by
        have z : H5 ce.locals = none := I6.free
        rw [cL] at z
        exact z
      obtain ⟨m, hn, _⟩ := I6.loc
      have hn : s6.heap.Ns ce.locals m := hn
      rw [cL] at hn
      show R (.ok .next) s6
      rw [← hR]
      refine ⟨m, by rw [nL]; exact hn, fun h'' sb => ?_⟩
      rw [nL] at sb
      obtain ⟨f0, f1, f2, f3', f4, f5⟩ := I3.fpOk (H' := H5) (Nat.le_refl _) nC
      exact ⟨.ref D, H5, I7.turned (t' := s6.toks) (fun b o hb e => (sb.2 b hb).trans e) f0 f1 f3' f4 f5, rfl, qq⟩
    · refine thnF (T.item (blkE X s3 H3 scope ce fp xe) rfl rfl rfl hc i [] s5 _ H5 (fun _ _ => False) I5 (stat I5 n5) st5 go) fun r s6 ⟨u, hr, h6⟩ => ?_
      subst hr
      refine thnF h6 fun _ s7 ⟨x, H7, I7, r7, y7, st7, n7⟩ => ?_
      have I7' := I7.pinned (stat I7 n7) (T.obj _ _ st7)
      refine thn (pg.run _ s7 _ H7 x u _ I7' r7 (step x H7 y7)) fun _ s8 ⟨σ8, H8, I8, hw8, q8⟩ => ?_
      refine thn (pt.run _ s8 σ8 H8 _ I8 q8) fun b s9 ⟨H9, I9, q9⟩ => ?_
      have fin : ∀ {s' : Shared} {H' : Hp}, Inv (blkE X s3 H3 scope ce fp xe) ([] ++ pinsAt fp s7.heap) σ8 H' s' → Nx H' → ∃ m, m < n ∧ ∃ i H', Inv (blkE X s3 H3 scope ce fp xe) [] (wipe σ (own.map (·.2))) H' s' ∧ tn i s'.heap ∧ (∀ b ∈ fp, H' b = none) ∧ W i m H' := fun {s' H'} I' nx => by
        obtain ⟨m', hm, w'⟩ := hNx H' nx
        have pin' : ∀ b ∈ fp, ∀ o, s7.heap.get? b = some o → s'.heap.get? b = some o ∧ H' b = none := fun b hb o e =>
          let z := I'.pin (b, o) (List.mem_append_right _ (List.mem_append_right _ (mem_pinsAt hb e)))
          ⟨z.1, z.2.1⟩
        have hl : (wipe σ (own.map (·.2))).length = σ8.length := by rw [← hw8, wipe_length]
        refine ⟨m', hm, i + 1, H', (I'.unpinned (pins := [])).weak hl (fun j v e => ?_), T.keep _ _ _ st7 fun b hb o e => (pin' b hb o e).1, fun b hb => ?_, w'⟩
        · rw [← hw8] at e
          exact (wipe_some e).1
        · obtain ⟨o, e, _⟩ := T.obj _ _ st7 b hb
          exact (pin' b hb o e).2
      cases b with
      | false =>
        simp only [Bool.false_eq_true, if_false] at q9 ⊢
        exact fin I9 q9
      | true =>
        simp only [if_true] at q9 ⊢
        refine thn (pe.run _ s9 σ8 H9 _ I9 q9) fun z s10 ⟨yv, H10, I10, r10, acc, hD10, hz10, nx⟩ => ?_
        exact app_ok (X := blkE X s3 H3 scope ce fp xe) I10 hD10 hz10 r10 fun s11 I11 => fin I11 nx
  exact codeAny_compStart_list loop (T.self X.A 0 _ _ _ st4 loop)
end
section
variable {H : Hp} {Q : VK} {σ : L2.St} {wi : TI} {J : It} {m : Nat} {G : Hp → Prop} {Y : Nat → Hp → V → Hp → Prop} {g : TG} {te : TE} {vs : List Nat}
/-- a comprehension that can't come to its end: an element without P raises -/
theorem z_failW (P : Nat → Prop) (w : Walk J m G Y) (hm : m ≤ 1000) (hi : ∀ R : It → Hp → Prop, R J H → wi σ H R) (hG : ∀ H', Same H H' → G H') (no : ¬ ∀ i, i < m → P i)
    (hs : ∀ i x H' H2 (R : VK), i < m → Same H H' → Y i H' x H2 → (P i → ∀ v H3, Same H' H3 → R v H3) → g x (wipe σ vs) H2 fun σ2 H3 => wipe σ2 vs = wipe σ vs ∧ te σ2 H3 R) : tLc wi g tYes te vs σ H Q := by
  refine Cw.z_lcW w hi (fun i D acc H' => Same H H' ∧ H D = none ∧ ∀ k, k < i → P k) (fun D H' f s _ => ⟨s, f, fun k h => absurd h (Nat.not_lt_zero _)⟩) (fun i D acc H' h => hG _ h.1) (fun i x D acc H' H2 hi' hl' hD ⟨s', fD, hp⟩ y => ?_) (fun D acc H' fD hl' hD ⟨s', _, hp⟩ => absurd hp no)
  refine hs i x H' H2 _ hi' s' y fun p v H3 s3 => ?_
  refine z_lcB (s3 _ _ hD) hl' (by omega) fun H5 hD5 k5 e5 => ⟨fun b o h => ?_, fD, fun k hk => ?_⟩
  · rw [e5 b (ne_of_none h fD)]
    exact s3 _ _ (s' _ _ h)
  · rcases Nat.lt_succ_iff_lt_or_eq.mp hk with h | h
    · exact hp k h
    · exact h ▸ p
end
end Xc

/-! tuple(e for x in xs), whose element may call defs of the program -/
namespace Tg
open PySem PySem.Spec PyProof.Rows L2 GenW Gl GxR
/-- the context of a generator expression's own run -/
abbrev gx (X : Cx) (A' : Around) (s : Shared) (H : Hp) (ce : Env) (fp : List Addr) : Cx :=
  { X with A := A', s_0 := s, H_0 := H, env := ce, outer := X.stack, stack := ce :: X.stack, ex := fp, fn := fun _ => false, calm := true, pn := [], xe := fun _ _ => False }
section
variable {X : Cx} {pins : List (Addr × Obj)} {σ : L2.St} {H : Hp} {s : Shared}
theorem gen_start {A' : Around} {scope : Scope} {own : List (Str × Nat)} {fp : List Addr} {code : Value} {s' : Shared} (I : Inv X pins σ H s) (ok : BlkOk X.N X.env.scope scope own) (hcell : ∀ y ∈ scope.names, y.2 ≠ .cell) (hN : X.N.Nodup)
    (hfp : ∀ b ∈ fp, FpOk X pins H b ∧ b < s.heap.objs.size) (hd : A'.handled = none) (hA : A'.frames = some (genEnv scope (cloFrom X.env.cells scope.names []) s.heap.objs.size code builtinsNs X.env :: X.stack))
    (kp : ∀ b o, s.heap.get? b = some o → s'.heap.get? b = some o) (os : s'.os = s.os) (hb : AllBare s'.gens) (hns : ∃ m, s'.heap.Ns s.heap.objs.size m) :
    Inv (gx X A' s H (genEnv scope (cloFrom X.env.cells scope.names []) s.heap.objs.size code builtinsNs X.env) fp) [] (wipe σ (own.map (·.2))) H s' := by
  have hfree : ∀ y ∈ scope.names, y.2 = .free → ∃ c, X.env.cells.lookup y.1 = some c := fun y hy e => by
    rcases ok.free y hy e with k | k
    · exact I.ok.has _ (.inl k)
    · exact I.ok.has _ (.inr k)
  generalize hcenv : genEnv scope (cloFrom X.env.cells scope.names []) s.heap.objs.size code builtinsNs X.env = ce at hA ⊢
  have hL : ce.locals = s.heap.objs.size := by rw [← hcenv]; rfl
  have hcl : ce.cells = cloFrom X.env.cells scope.names [] := by rw [← hcenv]; rfl
  have hsc : ce.scope = scope := by rw [← hcenv]; rfl
  have cm : ∀ {y c}, (y, c) ∈ cloFrom X.env.cells scope.names [] → X.env.cells.lookup y = some c ∧ c < s.heap.objs.size := fun {y c} hm => by
    rcases cloFrom_mem hm with hm | ⟨h1, rfl⟩
    · cases hm
    · obtain ⟨c, hc⟩ := hfree _ h1 rfl
      rw [hc]
      obtain ⟨w, z⟩ := I.cell _ _ hc
      exact ⟨rfl, z.lt⟩
  have mem : ∀ {y c}, ce.cells.lookup y = some c → X.env.cells.lookup y = some c ∧ c < s.heap.objs.size := fun {y c} e => by
    rw [hcl] at e
    exact cm (PySem.mem_of_lookup e)
  have look : ∀ {y}, scope.names.lookup y = some .free → ∃ c, ce.cells.lookup y = some c ∧ X.env.cells.lookup y = some c := fun {y} hl => by
    have hy : (y, NameKind.free) ∈ scope.names := PySem.mem_of_lookup hl
    obtain ⟨c', e'⟩ := mem_lookup (cloFrom_has (cells := X.env.cells) (acc := []) hy)
    rw [← hcl] at e'
    exact ⟨c', e', (mem e').1⟩
  have noc : ∀ {y}, ce.kindOf y ≠ some .cell := fun {y} z => by
    unfold Env.kindOf at z
    rw [hsc] at z
    exact hcell _ (PySem.mem_of_lookup z) rfl
  obtain ⟨m, hm⟩ := hns
  have okB : (gx X A' s H ce fp).Ok := by
    refine ⟨I.ok.mod, by show ce.scope.kind = _; rw [hsc]; exact ok.kind, by show ce.globals = _; rw [← hcenv]; exact I.ok.glob, by show ce.builtins = _; rw [← hcenv]; rfl, by show s.heap.objs.size ≤ ce.locals; rw [hL]; exact Nat.le_refl _,
      fun y z c e1 e2 => I.ok.inj y z c (mem e1).1 (mem e2).1, fun y hy => ?_, fun y c z e => Bool.noConfusion z, fun _ => hd, hA, .inr ⟨rfl, ?_⟩, fun b hb => ⟨?_, fun y c e z => ?_⟩, I.bs, Nat.le_trans I.ok.bsz I.sz, fun b o e hb => ?_, fun b hb z => ?_, I.stack, I.stkFree⟩
    · rcases hy with hy | hy
      · exact absurd hy noc
      · have hy : ce.scope.names.lookup y = some .free := hy
        rw [hsc] at hy
        obtain ⟨c, h1, _⟩ := look hy
        exact ⟨c, h1⟩
    · show ce.frame = some ce.locals
      rw [← hcenv]
      rfl
    · show b ≠ ce.locals
      rw [hL]; exact Nat.ne_of_lt (hfp b hb).2
    · exact (hfp b hb).1.2.2.2.2.1 y c (mem e).1 z
    · rcases (hfp b hb).1.2.2.2.1 with z | z
      · exact I.ok.noex b o e z
      · exact absurd (Nat.lt_of_lt_of_le (Heap.lt_size e) (Nat.le_trans I.ok.bsz z)) (Nat.lt_irrefl _)
    · rcases List.mem_cons.mp (I.stkSub b z) with z | z
      · exact (hfp b hb).1.2.1 z
      · exact (hfp b hb).1.2.2.1 z
  refine ⟨okB, os, hb, Un.kept kp, ⟨m, ?_, fun i y av e1 e2 e3 => ?_⟩, fun y c e => ?_, ?_, fun y c e => I.freeC y c (mem e).1, fun p hp => ?_, I.hok.kept kp, by rw [wipe_length]; exact I.len⟩
  · show Heap.Ns _ ce.locals _
    rw [hL]
    exact hm
  · obtain ⟨e2, hne⟩ := wipe_some e2
    have hfr : scope.names.lookup y = some .free := by
      have e3 : Vis ce.scope y := e3
      rw [hsc] at e3
      have no : ∀ k', scope.names.lookup y = some k' → ¬ (k' = .local ∨ k' = .cell) := fun k' e hh => by
        rcases ok.own _ (PySem.mem_of_lookup e) hh with e' | e'
        · obtain ⟨p, hp, hpy⟩ := List.mem_map.mp e'
          have e3 := ok.ix p hp
          have : p.1 = y := hpy
          rw [this] at e3
          exact hne (List.mem_map.mpr ⟨p, hp, nodup_ix hN e3 e1⟩)
        · exact e' (List.mem_of_getElem? e1)
      rcases e3 with e3 | e3 | e3
      · exact absurd (.inl rfl) (no _ e3)
      · exact absurd (.inr rfl) (no _ e3)
      · exact e3
    obtain ⟨m, hn, hl⟩ := I.loc
    have hvis : Vis X.env.scope y := (ok.free _ (PySem.mem_of_lookup hfr) rfl).elim (fun k => .inr (.inl k)) (fun k => .inr (.inr k))
    obtain ⟨w, r, q⟩ := hl i y av e1 e2 hvis
    have kf : ce.kindOf y = some .free := by
      unfold Env.kindOf
      rw [hsc]
      exact hfr
    refine ⟨w, r, .inr ⟨.inr kf, ?_⟩⟩
    obtain ⟨c, h1, h2⟩ := look hfr
    rcases q with ⟨k, _⟩ | ⟨_, c', e', z⟩
    · have k : X.env.scope.names.lookup y = some .local := k
      rcases ok.free _ (PySem.mem_of_lookup hfr) rfl with k' | k' <;> rw [show X.env.scope.names.lookup y = _ from k'] at k <;> cases k
    · rw [h2] at e'; cases e'
      exact ⟨c, h1, z.keeps kp⟩
  · obtain ⟨w, z⟩ := I.cell y c (mem e).1
    exact ⟨w, z.keeps kp⟩
  · show H ce.locals = none
    rw [hL]; exact I.hok.fresh (Nat.le_refl _)
  · exact absurd (show p ∈ ([] : List (Addr × Obj)) ++ [] from hp) (by simp)
end
/-! ### a turn of the generator -/
abbrev gE (elt tg iter : Expr) (scope : Scope) (pos : Pos) : Expr := .GeneratorExp elt [⟨tg, iter, [], 0⟩] scope pos
abbrev cL (elt tg iter : Expr) (scope : Scope) (pos : Pos) (it : Addr) (ce : Env) : Code := .compLoop (gE elt tg iter scope pos) 0 (.ref it) .none ce
abbrev cS (elt tg iter : Expr) (scope : Scope) (pos : Pos) (it : Addr) (ce : Env) : Code := .compStart (gE elt tg iter scope pos) 0 (.ref it) .none ce
section
variable {A : Around} {elt tg iter : Expr} {scope : Scope} {pos : Pos} {it : Addr} {ce : Env}
theorem over_cL : A.over (cL elt tg iter scope pos it ce) [] = A.deeper ce := by
  first
    | rfl
    | (obtain ⟨hd, d, fr, gs, u⟩ := A; simp [Around.over, Around.deeper, marksOver, frameCount, unitsOf, envsOf, guardsOf, pushEnvs, pushGuards, Code.envs, Code.env?, Code.isFrame, Code.guards, Code.isGuard, Code.weight, Code.frames, Code.isCreation, Code.isCaller, Code.cUnits])
variable {GX : Cx} {pins : List (Addr × Obj)} {σ : L2.St} {H : Hp} {s : Shared} {fp : List Addr} {tn : Nat → Heap → Prop} {J : It} {g : TG} {te : TE} {i : Nat} {Φ : End → Shared → Prop} {vs : List Nat}
theorem sg_item (hA : A.over (cL elt tg iter scope pos it GX.env) [] = GX.A) (hco : GX.env.scope.isCoroutine = false) (hc : GX.calm = true) (hxe : GX.xe = fun _ _ => False)
    (hg : PG GX tg g) (he : PE GX elt te) (T : Turn GX.prog GX.w GX.K tg J fp it tn) (I : Inv GX pins σ H s) (hf : ∀ b ∈ fp, FpOk GX pins H b) (st : tn i s.heap) (go : J.go i H) {Post : V → Hp → Prop}
    (step : ∀ x H', J.yld i H x H' → g x σ H' fun σ2 H2 => wipe σ2 vs = σ ∧ te σ2 H2 fun y H3 => Post y H3)
    (hΦ : ∀ v y σ1 pl H3 s1, Inv GX (pins ++ pl) σ1 H3 s1 → wipe σ1 vs = σ → tn (i + 1) s1.heap → (∀ b ∈ fp, H3 b = none) → RelV y v → Post y H3 → ∀ k l p, Again GX.prog GX.w A (cL elt tg iter scope pos it GX.env) [] k → Φ (.susp v false l k (cL elt tg iter scope pos it GX.env) p []) s1) :
    Sg (model GX.prog GX.w) A Φ (cL elt tg iter scope pos it GX.env) ((model GX.prog GX.w).den (cL elt tg iter scope pos it GX.env)) [] s := by
  show Sg _ A Φ _ ((compTurn (gE elt tg iter scope pos) 0 (.ref it) .none GX.env).onRaise (leaving GX.env)) [] s
  rw [compTurn_gen, Sem.onRaise_eq_wrap]
  refine sg_bindw (wpAny_standAt ?_)
  refine sg_bindw ?_
  rw [hA]
  refine wpAny_mono (T.item GX rfl rfl rfl hc i pins s σ H (fun _ _ => False) I hf st go) (fun r s1 hr => ?_) fun _ _ z => z.elim
  obtain ⟨u, rfl, hu⟩ := hr
  refine sg_bindw ?_
  rw [hA]
  refine wpAny_mono hu (fun _ s2 h2 => ?_) fun _ _ z => z.elim
  obtain ⟨x, H2, I2, rx, yx, st2, fr2⟩ := h2
  have I2' := I2.pinned (fun b hb => ⟨fr2 b hb, (hf b hb).2⟩) (T.obj _ _ st2)
  refine sg_bindw ?_
  rw [hA]
  refine wpAny_mono (hg.run _ s2 σ H2 x u _ I2' rx (step x H2 yx)) (fun _ s3 h3 => ?_) fun _ _ z => by rw [hxe] at z; exact z.elim
  obtain ⟨σ3, H3, I3, hw3, q3⟩ := h3
  refine sg_bindw ?_
  rw [hA]
  simp only [List.forIn_nil]
  refine wpAny_pure ?_
  have hy : ∀ v, yieldOut GX.env v = yieldValue v := fun v => by
    simp only [yieldOut, hco, Bool.false_eq_true, if_false]
  simp only [if_true, hy]
  rw [Sem.bind_eq_wrap', Sem.bind_eq_wrap', Sem.wrap_wrap, Sem.wrap_wrap]
  refine sg_wrap ?_
  rw [hA]
  refine wpAny_mono (he.run _ s3 σ3 H3 _ I3 q3) (fun v s4 h4 => ?_) fun _ _ z => by rw [hxe] at z; exact z.elim
  obtain ⟨y, H4, I4, ry, q4⟩ := h4
  have keepT : tn (i + 1) s4.heap := T.keep _ _ _ st2 fun b hb o q => (I4.pin (b, o) (List.mem_append_right _ (List.mem_append_right _ (mem_pinsAt hb q)))).1
  have frT : ∀ b ∈ fp, H4 b = none := fun b hb => by
    obtain ⟨o, q, _⟩ := T.obj _ _ st2 b hb
    exact (I4.pin (b, o) (List.mem_append_right _ (List.mem_append_right _ (mem_pinsAt hb q)))).2.1
  refine sg_at (sg_yield rfl fun p => ?_)
  exact hΦ v y σ3 _ H4 s4 I4 hw3 keepT frT ry q4 _ _ p fun Φ' s' h' => sg_again rfl h'
theorem sg_done (hA : A.over (cL elt tg iter scope pos it GX.env) [] = GX.A) (hc : GX.calm = true) (T : Turn GX.prog GX.w GX.K tg J fp it tn) (I : Inv GX pins σ H s) (hf : ∀ b ∈ fp, FpOk GX pins H b) (st : tn i s.heap) (stop : J.stop i H)
    (hΦ : ∀ s1, Inv GX pins σ H s1 → Φ (.ret (.ok .next)) s1) :
    Sg (model GX.prog GX.w) A Φ (cL elt tg iter scope pos it GX.env) ((model GX.prog GX.w).den (cL elt tg iter scope pos it GX.env)) [] s := by
  show Sg _ A Φ _ ((compTurn (gE elt tg iter scope pos) 0 (.ref it) .none GX.env).onRaise (leaving GX.env)) [] s
  rw [compTurn_gen, Sem.onRaise_eq_wrap]
  refine sg_bindw (wpAny_standAt ?_)
  refine sg_bindw ?_
  rw [hA]
  refine wpAny_mono (T.done GX rfl rfl rfl hc i pins s σ H (fun _ _ => False) I hf st stop) (fun r s1 hr => ?_) fun _ _ z => z.elim
  obtain ⟨rfl, I1⟩ := hr
  exact sg_end (.ok .next) (hΦ s1 I1)
theorem sg_start {P : Program} {w : World} {K : PySem.W.Frag} (T : Turn P w K tg J fp it tn) (st : tn i s.heap) (loop : Sg (model P w) A Φ (cL elt tg iter scope pos it ce) ((model P w).den (cL elt tg iter scope pos it ce)) [] s) :
    Sg (model P w) A Φ (cS elt tg iter scope pos it ce) ((model P w).den (cS elt tg iter scope pos it ce)) [] s := by
  show Sg _ A Φ _ ((compStart (gE elt tg iter scope pos) 0 (.ref it) .none ce).onRaise (leaving ce)) [] s
  unfold compStart
  rw [Sem.onRaise_eq_wrap]
  show Sg _ A Φ _ ((ask >>= _).wrap _ _ _ _) [] s
  refine sg_bindw (wpAny_askSetting ?_)
  split
  · exact sg_again rfl loop
  · refine sg_bindw (wpAny_rule ?_)
    show Sg _ A Φ _ ((standAt iter.pos >>= _).wrap _ _ _ _) [] s
    exact sg_bindw (wpAny_standAt (sg_bindw (T.self _ i s _ _ st (sg_again rfl loop))))
end
section
variable {P : Program} {w : World} {A : Around} {E : Value → Shared → Prop} {s : Shared}
/-- the next item of a generator expression, or its end -/
theorem next_gx {a : Addr} {g : Nat} {gs : GenState} {Φ : End → Shared → Prop} {Q : Option Value → Shared → Prop} (hh : A.handled = none) (hl : s.heap.NoLimit) (hroom : A.depth < recursionLimit) (hg : s.heap.IsGen a g) (hgs : s.gens[g]? = some gs)
    (hgo : Wk (model P w) A.in1 Φ gs (s.setGen g .running))
    (hΦ : ∀ e s1, Φ e s1 → (∃ v l k c p fs, e = .susp v false l k c p fs ∧ fs.any Frame.guarded = false ∧ Q (some v) (s1.setGen g e.genState)) ∨
      (e = .ret (.ok .next) ∧ ∀ h', (∀ b o, s1.heap.get? b = some o → h'.get? b = some o) → Q none { s1.setGen g .finished with heap := h' })) : wpAny (model P w) A (pyNext (.ref a)) Q E s := by
  unfold pyNext
  apply wpAny_bind
  apply wpAny_attempt
  refine wpAny_callSpecial?_slot (name := Str.ofString "__next__") hg.typeIs slot_gen_next ?_
  refine wpAny_call_entry slot_gen_next hg.typeIs entry_gen_next ?_ (args_gen_next _)
  show wpAny _ A.in1 (Builtin.Generator.genWake (.ref a) (.send .none)) _ _ s
  unfold Builtin.Generator.genWake
  refine wpAny_bind (wpAny_holding (wpAny_genNumber hg ?_))
  refine wpAny_bind (wpAny_genState hgs ?_)
  have fin : ∀ e s1, Φ e s1 → e.quiet = true := fun e s1 h => by
    rcases hΦ e s1 h with ⟨v, l, k, c, p, fs, rfl, hfs, _⟩ | ⟨rfl, _⟩
    · show (!(false || fs.any Frame.guarded)) = true
      rw [hfs]
      rfl
    · rfl
  cases gs with
  | running => exact hgo.elim
  | finished => exact hgo.elim
  | fresh c0 =>
    apply wpAny_bind
    refine wpAny_roomToWake hl hroom ?_
    show wpAny (model P w) A.in1 (.resume g (.send .none) [] _) _ _ s
    refine wpAny_wake hgs hgo fun e s1 he => ⟨fin e s1 he, ?_⟩
    rcases hΦ e s1 he with ⟨v, l, k, c, p, fs, rfl, _, q⟩ | ⟨rfl, q⟩
    · exact wpAny_pure ⟨v, rfl, wpAny_pure q⟩
    · show wpAny (model P w) A.in1 (newExc (.type "StopIteration") [] >>= _) _ _ _
      apply wpAny_bind
      simp only [newExc, newTuple]
      apply wpAny_bind
      refine wpAny_newObj_type ?_ (by size_fits)
      refine wpAny_bind (m := firstArgMember _ _) (wpAny_of_eq (a := Value.none) ?_ ?_)
      · first
          | rfl
          | (simp only [firstArgMember]; rfl)
      refine wpAny_newObj_type ?_ (by size_fits)
      simp only [raiseNew]
      refine wpAny_bind (wpAny_bind (wpAny_handled ?_))
      rw [show A.in1.handled = none from hh]
      refine wpAny_throw (wpAny_bind ?_)
      refine wpAny_isInstance (T := "StopIteration") (b := true) ⟨_, Heap.get?_push_size _ rfl, rfl⟩ isSubtype_stop ?_
      exact wpAny_pure (q _ fun b o hb => Heap.get?_push_of_some _ (Heap.get?_push_of_some _ hb))
  | suspended k0 l0 c0 p0 fs0 cl =>
    apply wpAny_bind
    refine wpAny_roomToWake hl hroom ?_
    show wpAny (model P w) A.in1 (.resume g (.send .none) [] _) _ _ s
    refine wpAny_wake hgs hgo fun e s1 he => ⟨fin e s1 he, ?_⟩
    rcases hΦ e s1 he with ⟨v, l, k, c, p, fs, rfl, _, q⟩ | ⟨rfl, q⟩
    · exact wpAny_pure ⟨v, rfl, wpAny_pure q⟩
    · show wpAny (model P w) A.in1 (newExc (.type "StopIteration") [] >>= _) _ _ _
      apply wpAny_bind
      simp only [newExc, newTuple]
      apply wpAny_bind
      refine wpAny_newObj_type ?_ (by size_fits)
      refine wpAny_bind (m := firstArgMember _ _) (wpAny_of_eq (a := Value.none) ?_ ?_)
      · first
          | rfl
          | (simp only [firstArgMember]; rfl)
      refine wpAny_newObj_type ?_ (by size_fits)
      simp only [raiseNew]
      refine wpAny_bind (wpAny_bind (wpAny_handled ?_))
      rw [show A.in1.handled = none from hh]
      refine wpAny_throw (wpAny_bind ?_)
      refine wpAny_isInstance (T := "StopIteration") (b := true) ⟨_, Heap.get?_push_size _ rfl, rfl⟩ isSubtype_stop ?_
      exact wpAny_pure (q _ fun b o hb => Heap.get?_push_of_some _ (Heap.get?_push_of_some _ hb))
end
end Tg

namespace Tg
open PySem PySem.Spec PyProof.Rows L2 GenW Gl GxR
section
variable {GX : Cx} {A A1 : Around} {elt tg iter : Expr} {scope : Scope} {pos : Pos} {it : Addr} {pins : List (Addr × Obj)} {σ : L2.St} {H : Hp} {s : Shared} {fp : List Addr} {tn : Nat → Heap → Prop} {J : It} {g : TG} {te : TE} {i : Nat} {vs : List Nat} {E : Value → Shared → Prop}
/-- an address of ours: nothing knows it -/
structure Apart (GX : Cx) (fp : List Addr) (b : Addr) : Prop where
  loc : b ≠ GX.env.locals
  fs : b ∉ GX.fs
  new : GX.s_0.heap.objs.size ≤ b
  cell : ∀ x c, GX.env.cells.lookup x = some c → c ≠ b
  fp : b ∉ fp
/-- the generator asleep, i items taken; the collector's list at S -/
structure Alive (GX : Cx) (A1 : Around) (elt tg iter : Expr) (scope : Scope) (pos : Pos) (it : Addr) (σ : L2.St) (fp : List Addr) (tn : Nat → Heap → Prop) (a S gn i : Nat) (H : Hp) (us : List Value) (s : Shared) : Prop where
  inv : Inv GX [] σ H s
  at_ : tn i s.heap
  its : ∀ b ∈ fp, FpOk GX [] H b
  un : H a = none ∧ H S = none
  gen : s.heap.IsGen a gn
  gs : ∃ gs, s.gens[gn]? = some gs ∧ ∀ Φ s', tn i s'.heap → Sg (model GX.prog GX.w) A1 Φ (cL elt tg iter scope pos it GX.env) ((model GX.prog GX.w).den (cL elt tg iter scope pos it GX.env)) [] s' → Wk (model GX.prog GX.w) A1 Φ gs s'
  lst : ∃ c, s.heap.get? S = some { cls := .type "list", data := .seq us.toArray c }
theorem next_alive {a S gn : Nat} {us : List Value} (hA : A.in1.over (cL elt tg iter scope pos it GX.env) [] = GX.A) (hco : GX.env.scope.isCoroutine = false) (hc : GX.calm = true) (hxe : GX.xe = fun _ _ => False) (hpn : GX.pn = []) (hh : A.handled = none) (hroom : A.depth < recursionLimit)
    (hg : PG GX tg g) (he : PE GX elt te) (T : Turn GX.prog GX.w GX.K tg J fp it tn) (ea : Apart GX fp a) (eS : Apart GX fp S) (haS : a ≠ S) (al : Alive GX A.in1 elt tg iter scope pos it σ fp tn a S gn i H us s)
    (hl : σ.length = σ.length) {B : Prop} {Post : V → Hp → Prop} (turn : (B ∧ J.stop i H) ∨ (J.go i H ∧ ∀ x H', J.yld i H x H' → g x σ H' fun σ2 H2 => wipe σ2 vs = σ ∧ te σ2 H2 fun y H3 => Post y H3)) :
    wpAny (model GX.prog GX.w) A (pyNext (.ref a)) (fun r s' => (r = none ∧ B ∧ Inv GX [] σ H s' ∧ ∃ c, s'.heap.get? S = some { cls := .type "list", data := .seq us.toArray c }) ∨
      (∃ u y H', r = some u ∧ RelV y u ∧ Post y H' ∧ Alive GX A.in1 elt tg iter scope pos it σ fp tn a S gn (i + 1) H' us s')) E s := by
  obtain ⟨gs, hgs, wk⟩ := al.gs
  obtain ⟨cS, hS⟩ := al.lst
  obtain ⟨oa, nm, qn, hoa, ra⟩ := id al.gen
  have hgl : gn < s.gens.size := (Array.getElem?_eq_some_iff.mp hgs).1
  have I0 : Inv GX [] σ H (s.setGen gn .running) := inv_gens (s0 := s) al.inv ⟨s.gens, rfl⟩ (allBare_setGen al.inv.bare rfl)
  -- pins: a and S
  have I1 : Inv GX [(a, oa), (S, { cls := .type "list", data := .seq us.toArray cS })] σ H (s.setGen gn .running) := I0.pins_of fun p hp => by
    rcases List.mem_cons.mp hp with rfl | hp
    · refine ⟨hoa, al.un.1, ea.loc, ea.fs, fun v z => ?_⟩
      have := ra.2.1
      rw [z] at this
      cases this
    · obtain rfl := List.mem_singleton.mp hp
      exact ⟨hS, al.un.2, eS.loc, eS.fs, fun v z => by cases z⟩
  have hf : ∀ b ∈ fp, FpOk GX [(a, oa), (S, { cls := .type "list", data := .seq us.toArray cS })] H b := fun b hb => by
    obtain ⟨f0, f1, f2, f3, f4, _⟩ := al.its b hb
    refine ⟨f0, f1, f2, f3, f4, fun p hp => ?_⟩
    rw [hpn] at hp
    rcases List.mem_cons.mp hp with rfl | hp
    · exact fun z => ea.fp (by rw [show a = b from z]; exact hb)
    · obtain rfl := List.mem_singleton.mp hp
      exact fun z => eS.fp (by rw [show S = b from z]; exact hb)
  refine wpAny_gsz (n := gn + 1) hgl ?_
  refine next_gx (Φ := fun e s1 => (∃ v l k p y σ1 pl H1, e = .susp v false l k (cL elt tg iter scope pos it GX.env) p [] ∧ Inv GX ([(a, oa), (S, { cls := .type "list", data := .seq us.toArray cS })] ++ pl) σ1 H1 s1 ∧ wipe σ1 vs = σ ∧ tn (i + 1) s1.heap ∧ (∀ b ∈ fp, H1 b = none) ∧ RelV y v ∧ Post y H1 ∧
      Again GX.prog GX.w A.in1 (cL elt tg iter scope pos it GX.env) [] k) ∨ (e = .ret (.ok .next) ∧ B ∧ Inv GX [(a, oa), (S, { cls := .type "list", data := .seq us.toArray cS })] σ H s1)) hh al.inv.nolimit hroom al.gen hgs ?_ ?_
  · refine wk _ _ al.at_ ?_
    rcases turn with ⟨stop', stop⟩ | ⟨go, step⟩
    · exact sg_done hA hc T I1 hf al.at_ stop fun s1 I2 => .inr ⟨rfl, stop', I2⟩
    · exact sg_item (vs := vs) hA hco hc hxe hg he T I1 hf al.at_ go step fun v y σ1 pl H3 s1 I2 hw t2 f2 rv q k l p ag => .inl ⟨v, l, k, p, y, σ1, pl, H3, rfl, I2, hw, t2, f2, rv, q, ag⟩
  · rintro e s1 (⟨v, l, k, p, y, σ1, pl, H1, rfl, I2, hw, t2, f2, rv, q, ag⟩ | ⟨rfl, stop, I2⟩)
    · refine .inl ⟨v, l, k, _, p, [], rfl, rfl, fun hsz => ?_⟩
      have egs : (End.susp v false l k (cL elt tg iter scope pos it GX.env) p []).genState = .suspended k l (cL elt tg iter scope pos it GX.env) p [] false := rfl
      rw [egs] at hsz ⊢
      rw [setGen_size] at hsz
      have pa := I2.pin (a, oa) (List.mem_append_right _ (List.mem_append_left _ List.mem_cons_self))
      have pS := I2.pin (S, { cls := .type "list", data := .seq us.toArray cS }) (List.mem_append_right _ (List.mem_append_left _ (List.mem_cons_of_mem _ List.mem_cons_self)))
      have hlen : σ.length = σ1.length := by rw [← hw, wipe_length]
      have I3 : Inv GX [] σ H1 s1 := ((I2.unpinned (pins := [(a, oa), (S, { cls := .type "list", data := .seq us.toArray cS })])).unpinned (pins := [])).weak hlen fun j v e => by
        rw [← hw] at e
        exact (wipe_some e).1
      refine .inr ⟨v, y, H1, rfl, rv, q, ⟨inv_gens (s0 := s1) I3 ⟨s1.gens, rfl⟩ (allBare_setGen I3.bare rfl), t2, fun b hb => ⟨f2 b hb, (al.its b hb).2⟩, ⟨pa.2.1, pS.2.1⟩, ⟨oa, nm, qn, pa.1, ra⟩, ⟨_, setGen_at hsz, fun Φ' s' _ h' => ag Φ' s' h'⟩, cS, pS.1⟩⟩
    · refine .inr ⟨rfl, fun h' hk _ => .inl ⟨rfl, stop, ?_, cS, ?_⟩⟩
      · have I3 : Inv GX [] σ H s1 := I2.unpinned (pins := [])
        have I4 : Inv GX [] σ H (s1.setGen gn .finished) := inv_gens (s0 := s1) I3 ⟨s1.gens, rfl⟩ (allBare_setGen I3.bare rfl)
        exact I4.kept (t' := s1.toks) hk
      · exact hk _ _ (I2.pin (S, { cls := .type "list", data := .seq us.toArray cS }) (List.mem_append_right _ (List.mem_cons_of_mem _ List.mem_cons_self))).1
/-- what the reading asks of the generator's turns -/
def Wx (J : It) (g : TG) (te : TE) (vs : List Nat) (σ : L2.St) (W : Nat → Nat → List V → Hp → Prop) (Fin : List V → Hp → Prop) : Prop :=
  ∀ i m acc H, W i m acc H → (J.stop i H ∧ acc.length ≤ sizeLine ∧ Fin acc H) ∨ (J.go i H ∧ acc.length < sizeLine ∧ ∃ Nx : V → Hp → Prop, (∀ y H', Nx y H' → ∃ m', m' < m ∧ W (i + 1) m' (acc ++ [y]) H') ∧
    ∀ x H', J.yld i H x H' → g x σ H' fun σ2 H2 => wipe σ2 vs = σ ∧ te σ2 H2 Nx)
theorem drain {A0 : Around} {a S gn : Nat} {res : Value} {R : Result → Shared → Prop} {W : Nat → Nat → List V → Hp → Prop} {Fin : List V → Hp → Prop} (hA : A0.in1.in1.over (cL elt tg iter scope pos it GX.env) [] = GX.A) (hco : GX.env.scope.isCoroutine = false) (hc : GX.calm = true) (hxe : GX.xe = fun _ _ => False) (hpn : GX.pn = []) (hh : A0.handled = none) (hroom : A0.depth < recursionLimit)
    (hg : PG GX tg g) (he : PE GX elt te) (T : Turn GX.prog GX.w GX.K tg J fp it tn) (ea : Apart GX fp a) (eS : Apart GX fp S) (haS : a ≠ S) (wx : Wx J g te vs σ W Fin)
    (hR : ∀ s' H' acc us c, Inv GX [] σ H' s' → Vals acc us → acc.length ≤ sizeLine → Fin acc H' → s'.heap.get? S = some { cls := .type "list", data := .seq us.toArray c } → R (.ok (.ret res)) s') :
    ∀ m i H acc us s, Alive GX A0.in1.in1 elt tg iter scope pos it σ fp tn a S gn i H us s → Vals acc us → W i m acc H → codeAny (model GX.prog GX.w) A0 (.builtin "list.extend.loop" ⟨[.ref S, .ref a, res], []⟩) R s := by
  intro m
  induction m using Nat.strongRecOn with
  | ind m ih =>
  intro i H acc us s al rv w0
  refine codeAny_builtin F.entry_extend_loop ?_
  rw [Around.under_plainId F.plain_extend_loop _]
  show wpAny _ A0.in1 (pyNext (.ref a) >>= _) _ _ s
  rcases wx i m acc H w0 with ⟨stop, hz, fin⟩ | ⟨go, hz, Nx, hNx, step⟩
  · refine wpAny_bind (wpAny_mono (next_alive (E := fun _ _ => False) (A := A0.in1) (vs := vs) (B := True) (Post := fun _ _ => False) hA hco hc hxe hpn hh hroom hg he T ea eS haS al rfl (.inl ⟨trivial, stop⟩)) (fun r s1 h1 => ?_) fun _ _ z => z.elim)
    rcases h1 with ⟨rfl, _, I1, c, e1⟩ | ⟨_, _, _, _, _, z, _⟩
    · exact wpAny_pure (hR s1 H acc us c I1 rv hz fin e1)
    · exact z.elim
  · refine wpAny_bind (wpAny_mono (next_alive (E := fun _ _ => False) (A := A0.in1) (vs := vs) (B := False) (Post := Nx) hA hco hc hxe hpn hh hroom hg he T ea eS haS al rfl (.inr ⟨go, step⟩)) (fun r s1 h1 => ?_) fun _ _ z => z.elim)
    rcases h1 with ⟨rfl, stop, I1, c, e1⟩ | ⟨u, y, H1, rfl, ry, nx, al1⟩
    · exact stop.elim
    · obtain ⟨c, e1⟩ := al1.lst
      have lenV := rv.length
      show wpAny _ _ (updateSeq S (·.push u) >>= _) _ _ _
      have b1 : us.toArray.size ≤ sizeLine := by rw [List.size_toArray]; omega
      have b2 : (us.toArray.push u).size ≤ sizeLine + 1 := by rw [Array.size_push, List.size_toArray]; omega
      refine wpAny_bind ?_
      refine wpAny_updateSeq e1 rfl (wpAny_pure ⟨plainId_quiet F.plain_extend_loop _, ?_⟩) b1 b2
      obtain ⟨m', hm, w1⟩ := hNx y H1 nx
      have oth : ∀ b o, b ≠ S → s1.heap.get? b = some o → (s1.heap.update S (Obj.mapSeq (·.push u))).get? b = some o := fun b o h q => (Heap.get?_update_other _ _ (Ne.symm h)).trans q
      refine ih m' hm (i + 1) H1 (acc ++ [y]) (us ++ [u]) _ ⟨?_, ?_, al1.its, al1.un, ?_, al1.gs, ?_⟩ (rv.append (.cons ry .nil)) w1
      · exact al1.inv.turned (it := S) (t' := s1.toks) oth al1.un.2 eS.loc (.inr eS.new) eS.cell fun p hp => by
          rw [hpn] at hp
          exact absurd hp (by simp)
      · refine T.keep _ _ _ al1.at_ fun b hb o q => oth b o (fun z => eS.fp (by rw [← z]; exact hb)) q
      · obtain ⟨o, nm, qn, ho, r⟩ := al1.gen
        exact ⟨o, nm, qn, oth a o haS ho, r⟩
      · have := Heap.get?_update_self (Obj.mapSeq (·.push u)) e1 rfl
        refine ⟨c + 1, ?_⟩
        rw [this]
        simp [Obj.mapSeq]
end
end Tg

namespace Tg
open PySem PySem.Spec PyProof.Rows L2 GenW Gl GxR
section
variable {prog : Program} {w : World} {A : Around} {E : Value → Shared → Prop} {s : Shared} {I : Addr} {Fin : Array Value → Shared → Prop}
/-- the loop that the collector runs, from its list S just laid -/
def LoopOk (prog : Program) (w : World) (A : Around) (I : Addr) (s : Shared) (Fin : Array Value → Shared → Prop) : Prop :=
  ∀ (h1 : Heap) (t1 : Nat) (R : Result → Shared → Prop), (∀ b o, s.heap.get? b = some o → h1.get? b = some o) → (∃ c, h1.get? s.heap.objs.size = some { cls := .type "list", data := .seq #[] c }) →
    (∀ s' acc c, Fin acc s' → s'.heap.get? s.heap.objs.size = some { cls := .type "list", data := .seq acc c } → R (.ok (.ret (.ref s.heap.objs.size))) s') →
    codeAny (model prog w) A (.builtin "list.extend.loop" ⟨[.ref s.heap.objs.size, .ref I, .ref s.heap.objs.size], []⟩) R { s with heap := h1 }
theorem collect_g {Q : List Value → Shared → Prop} {gn : Nat} (hg : s.heap.IsGen I gn) (hl : LoopOk prog w A I s Fin) (hQ : ∀ s' acc, Fin acc s' → Q acc.toList s') : wpAny (model prog w) A (collect (.ref I)) Q E s := by
  obtain ⟨oa, _, _, hoa, _⟩ := id hg
  have hSI : s.heap.objs.size ≠ I := Nat.ne_of_gt (Heap.lt_size hoa)
  have gty : ∀ {h : Heap}, (∀ b o, s.heap.get? b = some o → h.get? b = some o) → h.IsGen I gn := fun {h} q => hg.keeps q
  unfold collect
  refine wpAny_bind (wpAny_runValue (codeAny_builtin F.entry_proto_collect ?_))
  rw [Around.under_plainId F.plain_proto_collect _]
  show wpAny _ A.in1 (newList [] >>= fun l => again (.builtin "list.__iadd__" ⟨[l, .ref I], []⟩)) _ _ s
  refine wpAny_bind (wpAny_newObj_type ?_ (by show 0 ≤ sizeLine; decide))
  refine wpAny_pure ⟨plainId_quiet F.plain_list_iadd _, codeAny_builtin F.entry_list_iadd ?_⟩
  rw [Around.under_plainId F.plain_list_iadd _]
  show wpAny _ A.in1 (Builtin.List.listExtendWith (.ref s.heap.objs.size) (.ref I) (.ref s.heap.objs.size)) _ _ _
  have k1 : ∀ b o, s.heap.get? b = some o → (s.heap.push { cls := .type "list", data := .seq ([] : List Value).toArray }).get? b = some o := fun b o e => Heap.get?_push_of_some _ e
  unfold Builtin.List.listExtendWith
  refine wpAny_bind (wpAny_typeOf (Heap.IsGen.typeIs (s := { s with heap := _ }) (gty k1)) ?_)
  have h1 : Builtin.List.listSameRef (.ref s.heap.objs.size) (.ref I) = false := by simp [Builtin.List.listSameRef, hSI]
  have h2 : (Value.type "generator" == Value.type "list") = false := by decide
  have h3 : (Value.type "generator" == Value.type "tuple") = false := by decide
  simp only [h1, h2, h3, Bool.or_false, Bool.false_eq_true, if_false]
  refine wpAny_bind (wpAny_pyIter_gen (s := { s with heap := _ }) (gty k1) ?_)
  refine wpAny_bind (wpAny_holding ?_)
  unfold Builtin.List.listLengthHint
  refine wpAny_bind (wpAny_specialOf (Heap.IsGen.typeIs (s := { s with heap := _ }) (gty k1)) F.gen_no_len ?_)
  show wpAny _ A.in1 (specialOf (Value.ref I) (Str.ofString "__length_hint__") >>= _) _ _ _
  refine wpAny_bind (wpAny_specialOf (Heap.IsGen.typeIs (s := { s with heap := _ }) (gty k1)) F.gen_no_hint ?_)
  refine wpAny_pure ?_
  show wpAny _ A.in1 (rule "list.extend.makes-room" >>= fun _ => Builtin.List.listTouch (.ref s.heap.objs.size) >>= fun _ =>
    again (.builtin "list.extend.loop" ⟨[.ref s.heap.objs.size, .ref I, .ref s.heap.objs.size], []⟩)) _ _ _
  refine wpAny_bind (wpAny_rule ?_)
  have hS₁ : (s.heap.push { cls := .type "list", data := .seq ([] : List Value).toArray }).get? s.heap.objs.size = some { cls := .type "list", data := .seq ([] : List Value).toArray } := Heap.get?_push_size _ rfl
  refine wpAny_bind ?_
  show wpAny _ A.in1 (updateSeq s.heap.objs.size (·.push .none) >>= fun _ => updateSeq s.heap.objs.size (·.pop)) _ _ _
  refine wpAny_bind (wpAny_updateSeq hS₁ rfl ?_)
  have hS₂ := Heap.get?_update_self (Obj.mapSeq (·.push Value.none)) hS₁ rfl
  refine wpAny_updateSeq (hz := by seq_fits) hS₂ rfl ?_
  have hS₃ := Heap.get?_update_self (Obj.mapSeq (·.pop)) hS₂ rfl
  have oth : ∀ b o, s.heap.get? b = some o →
      (((s.heap.push { cls := .type "list", data := .seq ([] : List Value).toArray }).update s.heap.objs.size (Obj.mapSeq (·.push Value.none))).update s.heap.objs.size (Obj.mapSeq (·.pop))).get? b = some o :=
    fun b o e => have hb := Nat.ne_of_lt (Heap.lt_size e); (Heap.get?_update_other _ _ (Ne.symm hb)).trans ((Heap.get?_update_other _ _ (Ne.symm hb)).trans (k1 b o e))
  refine wpAny_pure ⟨plainId_quiet F.plain_extend_loop _, hl _ s.toks _ oth ⟨_, hS₃⟩ fun s' acc c hm hS' => ?_⟩
  show wpAny _ A (load s.heap.objs.size >>= _) _ _ s'
  refine wpAny_bind (wpAny_load hS' ?_)
  exact wpAny_pure (hQ s' acc hm)
theorem code_tuple_g {Q₁ : Value → Shared → Prop} {gn : Nat} (hg : s.heap.IsGen I gn) (hl : LoopOk prog w A.in1 I s Fin) (hsz : ∀ s' acc, Fin acc s' → acc.size ≤ sizeLine)
    (h : ∀ s' acc, Fin acc s' → Q₁ (.ref s'.heap.objs.size) { s' with heap := s'.heap.push { cls := .type "tuple", data := .seq acc } }) :
    codeAny (model prog w) A (.call (.builtin "tuple.__new__") ⟨[.type "tuple", .ref I], []⟩) (wants Q₁ E) s := by
  refine codeAny_of_tree ?_
  show wpAny _ A.in1 (do checkBuiltinCall "tuple.__new__" ⟨[.type "tuple", .ref I], []⟩; again (.builtin "tuple.__new__" ⟨[.type "tuple", .ref I], []⟩)) _ _ s
  refine wpAny_bind (wpAny_of_eq (F.newCall_tuple_1 _) (wpAny_pure ⟨plainId_quiet F.plain_tuple_new _, codeAny_builtin F.entry_tuple_new ?_⟩))
  rw [Around.under_plainId F.plain_tuple_new _]
  have hsub := sub_tuple_self
  have hinit := init_tuple_lookup
  have hmh := madeHere_tuple
  have hTI := hg.typeIs (s := s)
  wp_walk using wpAny_typeOf hTI, collect_g (Fin := Fin) hg hl
  intro s' acc hacc
  show wpAny _ _ (Builtin.Tuple.tupleExact acc.toList.toArray >>= fun v => ret v) _ _ _
  unfold Builtin.Tuple.tupleExact
  refine wpAny_bind (wpAny_newObj_type ?_ (by show acc.toList.toArray.size ≤ sizeLine; simp only [Array.toArray_toList]; exact hsz _ _ hacc))
  refine wpAny_pure ?_
  have e : acc.toList.toArray = acc := by simp
  rw [e]
  exact h s' acc hacc
theorem call_tuple_g {Q : Value → Shared → Prop} {gn : Nat} (hg : s.heap.IsGen I gn) (hl : LoopOk prog w A.in1.in1 I s Fin) (hsz : ∀ s' acc, Fin acc s' → acc.size ≤ sizeLine)
    (hQ : ∀ s' acc, Fin acc s' → Q (.ref s'.heap.objs.size) { s' with heap := s'.heap.push { cls := .type "tuple", data := .seq acc } }) :
    wpAny (model prog w) A (call (.type "tuple") [.ref I]) Q E s := by
  refine callType_codes (Q₁ := fun obj s₁ => s₁.TypeIs obj "tuple" ∧ Q obj s₁) F.called_tuple (F.typeCall_tuple_1 _) F.entry_object_init
    (code_tuple_g hg hl hsz fun s' acc hacc => ⟨⟨_, Heap.get?_push_size _ rfl, rfl⟩, hQ s' acc hacc⟩) fun obj s₁ h₁ => ?_
  exact ⟨h₁.1, F.args_object_init_2 obj _, object_init_meets F.called_tuple.init.lookup F.called_tuple.made (by decide) prog w A.in1 _ s₁ ⟨h₁.1, rfl, h₁.2⟩⟩
end
section
variable {X : Cx} {k : Nat} {c P : Addr} {elt tg iter : Expr} {scope : Scope} {own : List (Str × Nat)} {pos gpos p : Pos} {wi : TI} {g : TG} {te : TE}
/-- tuple(e for target in iter): W by the turn, a measure and the values so far -/
def tTupG (P : Addr) (wi : TI) (g : TG) (te : TE) (vs : List Nat) : TE := fun σ H Q => wi σ H fun J H1 => TabG H1 P ∧ ∀ H2, Tabbed P H1 H2 → ∃ W : Nat → Nat → List V → Hp → Prop, (∃ m, W 0 m [] H2) ∧
  Wx J g te vs (wipe σ vs) W fun acc H' => ∀ q, H' q = none → Q (.ref q) (upd H' q (.tup acc))
theorem pe_tupG (hr : Room (k + 1) X.A) (TB : TabB X.base X.mg c P) (hcode : X.env.code = .ref c) (hN : X.N.Nodup) (hi : PI X tg iter wi) (ok : BlkOk X.N X.env.scope scope own) (hcell : ∀ y ∈ scope.names, y.2 ≠ .cell)
    (h0 : scope.names.lookup (".0" : Str) = some NameKind.local) (hco : scope.isCoroutine = false)
    (hg : ∀ (A' : Around) (s : Shared) (H : Hp) (C : Addr) (code : Value) (cl : List (Str × Addr)) (fp : List Addr), PG (gx X A' s H (genEnv scope cl C code builtinsNs X.env) fp) tg g)
    (he : ∀ (A' : Around) (s : Shared) (H : Hp) (C : Addr) (code : Value) (cl : List (Str × Addr)) (fp : List Addr), Room k A' → PE (gx X A' s H (genEnv scope cl C code builtinsNs X.env) fp) elt te)
    (hgl : Gl X "tuple") (hml : X.mg "tuple" = none)
    (hs : ∀ x, genFold iter X.env x = pure x := by intro _; rfl)
    (hst : starEach [.GeneratorExp elt [⟨tg, iter, [], 0⟩] scope gpos] X.env = (false, eval (.GeneratorExp elt [⟨tg, iter, [], 0⟩] scope gpos) X.env) :: starEach [] X.env := by rfl) :
    PE X (.Call (.Name "tuple" p) [.GeneratorExp elt [⟨tg, iter, [], 0⟩] scope gpos] [] pos) (tTupG P wi g te (own.map (·.2))) := by
  refine ⟨fun pins s σ H Q I h => ?_⟩
  refine wpAny_Call_Name_kw (ld_blt I hgl hml (by decide +kernel : bootBuiltins "tuple" = some (.type "tuple")) ?_)
  refine PyProof.Rows.callWith_type1 ?_ hst rfl
  rw [hst]
  show wpAny _ _ (spliced ((false, eval (.GeneratorExp elt [⟨tg, iter, [], 0⟩] scope gpos) X.env) :: backTo pos (starEach [] X.env))) _ _ s
  have hfree : ∀ y ∈ scope.names, y.2 = .free → ∃ c, X.env.cells.lookup y.1 = some c := fun y hy e => by
    rcases ok.free y hy e with k | k
    · exact I.ok.has _ (.inl k)
    · exact I.ok.has _ (.inr k)
  -- the generator is made
  have mk : wpAny (model X.prog X.w) X.A (eval (.GeneratorExp elt [⟨tg, iter, [], 0⟩] scope gpos) X.env) (fun v s6 => ∃ (it : Addr) (fp : List Addr) (tn : Nat → Heap → Prop) (J : It) (H2 : Hp) (s4 : Shared) (code : Value) (a gn : Nat), v = .ref a ∧
      Inv X pins σ H2 s4 ∧ Turn X.prog X.w X.K tg J fp it tn ∧ tn 0 s6.heap ∧ (∀ b ∈ fp, FpOk X pins H2 b ∧ b < s4.heap.objs.size) ∧ (∃ W : Nat → Nat → List V → Hp → Prop, (∃ m, W 0 m [] H2) ∧ Wx J g te (own.map (·.2)) (wipe σ (own.map (·.2))) W fun acc H' => ∀ q, H' q = none → Q (.ref q) (upd H' q (.tup acc))) ∧
      (∀ b o, s4.heap.get? b = some o → s6.heap.get? b = some o) ∧ s6.os = s4.os ∧ AllBare s6.gens ∧ (∃ m, s6.heap.Ns s4.heap.objs.size m) ∧ s6.heap.IsGen a gn ∧ s4.heap.objs.size < a ∧
      s6.gens[gn]? = some (.fresh (cS elt tg iter scope gpos it (genEnv scope (cloFrom X.env.cells scope.names []) s4.heap.objs.size code builtinsNs X.env)))) X.xe s := by
    refine wpAny_GeneratorExp_make hco (closure_ok hfree) hcell h0 ok.kind (by have := hr.dp; omega) ?_ hs
    refine thn (hi.run pins s σ H _ I h) fun xv s1 hx => thn hx fun itv s2 h2 => ?_
    obtain ⟨it, fp, tn, J, H1, rfl, I1, T, st, f1, ⟨ps, hP, ht⟩, q⟩ := h2
    have hPs : s2.heap.get? P = some { cls := .none, data := .fields ps } := I1.hok P _ hP
    have cd : PySem.W.CodeHd s2.heap c P := TB.code.keeps fun b u e => I1.bk b u e
    have nPfp : P ∉ fp := fun z => by
      have := (f1 P z).1
      rw [hP] at this; cases this
    have cont : ∀ (code : Value) (h3 : Heap) (tk : Nat) (more : Array Value), Heap.ExtBut P s2.heap h3 → s2.heap.objs.size ≤ h3.objs.size → h3.get? P = some { cls := .none, data := .fields (ps ++ more) } → TriplesOk (ps ++ more).toList →
        wpAny (model X.prog X.w) X.A (builtinsFor X.env.globals X.env.builtins) (fun bi s₄ =>
          ∀ h', h'.Ns s₄.heap.objs.size (fun y => if y = ".0" then some (Value.ref it) else none) → Heap.SameBut s₄.heap.objs.size (s₄.heap.push { cls := .type "frame", data := .dict #[] }) h' →
            ∃ (it1 : Addr) (fp : List Addr) (tn : Nat → Heap → Prop) (J : It) (H2 : Hp) (s4 : Shared) (code' : Value) (a gn : Nat), Value.ref h'.objs.size = .ref a ∧
      Inv X pins σ H2 s4 ∧ Turn X.prog X.w X.K tg J fp it1 tn ∧ tn 0 (h'.push { cls := .type "generator", data := .fields #[.int s₄.gens.size 0, .str "<genexpr>" (s₄.toks + 1), .str (X.env.qual ++ "<genexpr>") (s₄.toks + 1 + 1)] }) ∧ (∀ b ∈ fp, FpOk X pins H2 b ∧ b < s4.heap.objs.size) ∧ (∃ W : Nat → Nat → List V → Hp → Prop, (∃ m, W 0 m [] H2) ∧ Wx J g te (own.map (·.2)) (wipe σ (own.map (·.2))) W fun acc H' => ∀ q, H' q = none → Q (.ref q) (upd H' q (.tup acc))) ∧
      (∀ b o, s4.heap.get? b = some o → (h'.push { cls := .type "generator", data := .fields #[.int s₄.gens.size 0, .str "<genexpr>" (s₄.toks + 1), .str (X.env.qual ++ "<genexpr>") (s₄.toks + 1 + 1)] }).get? b = some o) ∧ s₄.os = s4.os ∧ AllBare (s₄.gens.push (.fresh (cS elt tg iter scope gpos it (genEnv scope (cloFrom X.env.cells scope.names []) s₄.heap.objs.size code bi X.env)))) ∧
      (∃ m, (h'.push { cls := .type "generator", data := .fields #[.int s₄.gens.size 0, .str "<genexpr>" (s₄.toks + 1), .str (X.env.qual ++ "<genexpr>") (s₄.toks + 1 + 1)] }).Ns s4.heap.objs.size m) ∧ (h'.push { cls := .type "generator", data := .fields #[.int s₄.gens.size 0, .str "<genexpr>" (s₄.toks + 1), .str (X.env.qual ++ "<genexpr>") (s₄.toks + 1 + 1)] }).IsGen a gn ∧ s4.heap.objs.size < a ∧
      (s₄.gens.push (.fresh (cS elt tg iter scope gpos it (genEnv scope (cloFrom X.env.cells scope.names []) s₄.heap.objs.size code bi X.env))))[gn]? = some (.fresh (cS elt tg iter scope gpos it1 (genEnv scope (cloFrom X.env.cells scope.names []) s4.heap.objs.size code' builtinsNs X.env)))) X.xe { s2 with heap := h3, toks := tk } := by
      intro code h3 tk more hx hsz hP3 ht3
      obtain ⟨bm, ob, e1, e2, e3, e4, e5, e6, e7, e8⟩ := TB.bm
      have keep3 : ∀ b u, b ≠ P → s2.heap.get? b = some u → h3.get? b = some u := fun b u hb e => hx b u hb e
      refine wpAny_builtinsFor (m := X.mg) (by rw [I1.ok.glob]; exact (I1.mod.glob.keeps I1.bk).extBut hx TB.gP) e1 e2 (keep3 _ _ e4 (I1.bk _ _ e5)) e6 e7 e8 ?_
      intro h' hn' hs'
      have I2 := inv_tab (more := more) (h' := h3) (g' := s2.gens) (d' := s2.drawn) (t' := tk) I1 hP (fun b o hb e => keep3 b o hb e) hP3 I1.bare
      have keep4 : ∀ b o, h3.get? b = some o → h'.get? b = some o := fun b o e => hs'.extBut b o (Nat.ne_of_lt (Heap.lt_size e)) (Heap.get?_push_of_some _ e)
      have hsz' : h'.objs.size = h3.objs.size + 1 := by rw [hs'.1, Heap.size_push]
      have q2 := q (upd H1 P (.tbl (ps ++ more))) ⟨⟨ps ++ more, upd_same, ht3⟩, fun b hb => upd_ne hb⟩
      refine ⟨it, fp, tn, J, _, _, code, h'.objs.size, s2.gens.size, rfl, I2, T, ?_, fun b hb => ?_, q2, fun b o e => Heap.get?_push_of_some _ (keep4 b o e), rfl, AllBare.push I1.bare rfl, ⟨_, hn'.push _⟩, ⟨_, _, _, Heap.get?_push_size _ rfl, rfl, rfl, rfl⟩, ?_, Array.getElem?_push_size ..⟩
      · refine T.keep _ _ _ st fun b hb o e => Heap.get?_push_of_some _ (keep4 b o (keep3 b o (fun z => nPfp (by rw [← z]; exact hb)) e))
      · obtain ⟨f0, fr⟩ := f1 b hb
        obtain ⟨o, e, _⟩ := T.obj _ _ st b hb
        refine ⟨⟨?_, fr⟩, Heap.lt_size (keep3 b o (fun z => nPfp (by rw [← z]; exact hb)) e)⟩
        rw [upd_ne (fun z => nPfp (by rw [← z]; exact hb))]
        exact f0
      · show h3.objs.size < h'.objs.size
        omega
    refine ⟨I1.nolimit, ?_⟩
    cases hf : codeAmong gpos ps.toList with
    | none =>
      refine wpAny_genexprCodeX hcode (cd.code hPs ht) (cd.tab hPs) hf fun c' h' tk hx hge hlt hco' _ htab' _ => ?_
      obtain ⟨o1, vs, f1, tf, fl, tg, inF, tx, tt, op, _, _, _, _, _, _, _, _, _, htr, _⟩ := hco'
      exact cont _ h' tk _ hx (Nat.le_trans hge (Nat.le_of_lt hlt)) htab'.2 htr
    | some cv =>
      refine wpAny_genexprCode_hit hcode (cd.code hPs ht) hf ?_
      have := cont cv s2.heap s2.toks #[] (Heap.ExtBut.refl _ _) (Nat.le_refl _) (by rw [Array.append_empty]; exact hPs) (by rw [Array.append_empty]; exact ht)
      exact this
  refine Calls.spliced_cons (thn mk fun v s6 hv => ?_)
  obtain ⟨it, fp, tn, J, H2, s4, code, a, gn, rfl, I4, T, st6, f4, ⟨W, ⟨m0, w0⟩, wx⟩, k6, os6, b6, ns6, gen6, ha6, gs6⟩ := hv
  refine Calls.spliced_nil ?_
  generalize hce : genEnv scope (cloFrom X.env.cells scope.names []) s4.heap.objs.size code builtinsNs X.env = ce at gs6
  have hceL : ce.locals = s4.heap.objs.size := by rw [← hce]; rfl
  have hAf : (X.A.in1.in1.in1.in1.deeper ce).frames = some (ce :: X.stack) := Around.frames_deeper (env := ce) I4.ok.frames
  have IG : Inv (gx X (X.A.in1.in1.in1.in1.deeper ce) s4 H2 ce fp) [] (wipe σ (own.map (·.2))) H2 s6 := by
    rw [← hce]
    exact gen_start I4 ok hcell hN f4 hr.hd (by rw [hce]; exact hAf) k6 os6 b6 ns6
  have hroom : Room k (X.A.in1.in1.in1.in1.deeper ce) := ⟨hr.hd, by have := hr.dp; show X.A.depth + 1 + 3 * k + 5 < _; omega, by have := hr.un; show X.A.units + 1 + 1 + 1 + 1 + 3 + 16 * k + 200 < _; omega⟩
  have pg := hg (X.A.in1.in1.in1.in1.deeper ce) s4 H2 s4.heap.objs.size code (cloFrom X.env.cells scope.names []) fp
  have pe := he (X.A.in1.in1.in1.in1.deeper ce) s4 H2 s4.heap.objs.size code (cloFrom X.env.cells scope.names []) fp hroom
  rw [hce] at pg pe
  have cell4 : ∀ x c, ce.cells.lookup x = some c → c < s4.heap.objs.size := fun x c e => by
    rw [← hce] at e
    rcases cloFrom_mem (PySem.mem_of_lookup (show (cloFrom X.env.cells scope.names []).lookup x = some c from e)) with hm | ⟨h1, rfl⟩
    · cases hm
    · obtain ⟨c, hc⟩ := hfree _ h1 rfl
      rw [hc]
      obtain ⟨w, z⟩ := I4.cell _ _ hc
      exact z.lt
  have fs4 : ∀ b, s4.heap.objs.size ≤ b → b ∉ frs X.stack := fun b hb z => by
    obtain ⟨_, o, ho, _⟩ := I4.stack.mem z
    exact absurd (Nat.lt_of_lt_of_le (Heap.lt_size ho) hb) (Nat.lt_irrefl _)
  have apart : ∀ b, s4.heap.objs.size < b → Apart (gx X (X.A.in1.in1.in1.in1.deeper ce) s4 H2 ce fp) fp b := fun b hb =>
    ⟨by show b ≠ ce.locals; rw [hceL]; exact Nat.ne_of_gt hb, fs4 b (Nat.le_of_lt hb), Nat.le_of_lt hb, fun x c e => Nat.ne_of_lt (Nat.lt_trans (cell4 x c e) hb), fun z => absurd (Nat.lt_trans hb (f4 b z).2) (Nat.lt_irrefl _)⟩
  obtain ⟨oa, nm, qn, hoa, ra⟩ := id gen6
  have aS : a < s6.heap.objs.size := Heap.lt_size hoa
  have ha2 : H2 a = none := I4.hok.fresh (Nat.le_of_lt ha6)
  have hS2 : H2 s6.heap.objs.size = none := I4.hok.fresh (Nat.le_of_lt (Nat.lt_trans ha6 aS))
  refine call_tuple_g (Fin := fun acc s' => ∃ vs H', Vals vs acc.toList ∧ vs.length ≤ sizeLine ∧ Inv X pins σ H' s' ∧ ∀ q, H' q = none → Q (.ref q) (upd H' q (.tup vs))) gen6 ?_ ?_ ?_
  · intro h1 t1 R kh ⟨cS, hS⟩ hR
    refine drain (iter := iter) (scope := scope) (pos := gpos) (GX := gx X (X.A.in1.in1.in1.in1.deeper ce) s4 H2 ce fp) (A0 := X.A.in1.in1) (W := W) (Fin := fun acc H' => ∀ q, H' q = none → Q (.ref q) (upd H' q (.tup acc))) (vs := own.map (·.2)) over_cL (by show ce.scope.isCoroutine = false; rw [← hce]; exact hco) rfl rfl rfl hr.hd (by have := hr.dp; show X.A.depth < _; omega) pg pe T (apart a ha6) (apart _ (Nat.lt_trans ha6 aS)) (Nat.ne_of_lt aS) wx ?_ m0 0 H2 [] [] _
      ⟨IG.kept (t' := s6.toks) kh, T.keep _ _ _ st6 fun b _ o e => kh b o e, fun b hb => ?_, ⟨ha2, hS2⟩, gen6.keeps kh, ⟨_, gs6, fun Φ s' st' loop => ?_⟩, cS, hS⟩ .nil w0
    · intro s' H' acc us cc I' rv hz fin e
      have I7 : Inv X pins σ H' s' := I4.call' (ch := fp) I'.os I'.base I'.hok I'.bare fun b hb => ⟨(f4 b hb).1.2.2.2.1, (f4 b hb).1.2.1, (f4 b hb).1.2.2.2.2.1, (f4 b hb).1.2.2.2.2.2⟩
      exact hR s' us.toArray cc ⟨acc, H', by simpa using rv, hz, I7, fin⟩ e
    · obtain ⟨⟨f0, f1, f2, f3, f4', f5⟩, hlt⟩ := f4 b hb
      refine ⟨f0, ?_, ?_, .inl hb, fun x c e => ?_, fun p hp => absurd (show p ∈ ([] : List (Addr × Obj)) ++ [] from hp) (by simp)⟩
      · exact (IG.ok.exf b hb).1
      · exact IG.ok.exfs b hb
      · exact (IG.ok.exf b hb).2 x c e
    · exact sg_start T st' loop
  · rintro s' acc ⟨vs, H', rv, hz, _⟩
    have := rv.length
    have e2 : acc.toList.length = acc.size := Array.length_toList
    omega
  · rintro s' acc ⟨vs, H', rv, hz, I7, fin⟩
    refine ⟨.ref s'.heap.objs.size, upd H' s'.heap.objs.size (.tup vs), ?_, rfl, fin _ (I7.hok.fresh (Nat.le_refl _))⟩
    refine I7.laid (t' := s'.toks) (fun b o e => Heap.get?_push_of_some _ e) (Nat.le_refl _) ⟨hz, acc.toList, rv, ?_⟩
    exact ⟨_, Heap.get?_push_size _ rfl, rfl, 0, by simp⟩
end
end Tg

namespace Tg
open PySem PySem.Spec PyProof.Rows L2 Z GxR LamX
/-- all but the tables of code objects is kept -/
structure SameX (H H' : Hp) : Prop where
  keep : ∀ b x, (∀ ps, x ≠ .tbl ps) → H b = some x → H' b = some x
  tab : ∀ P, TabG H P → TabG H' P
section
variable {K : PySem.W.Frag} {H H' H'' : Hp}
theorem SameX.of (s : Same H H') : SameX H H' := ⟨fun b x _ h => s b x h, fun P ⟨ps, h, t⟩ => ⟨ps, s _ _ h, t⟩⟩
theorem SameX.refl : SameX H H := ⟨fun _ _ _ h => h, fun _ h => h⟩
theorem SameX.trans (a : SameX H H') (b : SameX H' H'') : SameX H H'' := ⟨fun c x n h => b.keep c x n (a.keep c x n h), fun P h => b.tab P (a.tab P h)⟩
theorem SameX.th (a : SameX H H') (b : Same H' H'') : SameX H H'' := a.trans (.of b)
theorem SameX.ofTab {P : Addr} (t : Tabbed P H H') (h : TabG H P) : SameX H H' := by
  obtain ⟨t1, t2⟩ := t
  refine ⟨fun b x n e => ?_, fun R q => ?_⟩
  · by_cases hb : b = P
    · obtain ⟨ps, hP, _⟩ := h
      rw [hb, hP] at e
      cases e
      exact absurd rfl (n ps)
    · rw [t2 b hb]; exact e
  · by_cases hb : R = P
    · rw [hb]; exact t1
    · obtain ⟨ps, hR, z⟩ := q
      exact ⟨ps, by rw [t2 R hb]; exact hR, z⟩
theorem SameX.lst {a : Addr} {xs : List V} (s : SameX H H') (h : H a = some (.lst xs)) : H' a = some (.lst xs) := s.keep _ _ (fun _ z => by cases z) h
theorem SameX.tup {a : Addr} {xs : List V} (s : SameX H H') (h : H a = some (.tup xs)) : H' a = some (.tup xs) := s.keep _ _ (fun _ z => by cases z) h
theorem SameX.seqT {a : Addr} {xs : List V} (s : SameX H H') (h : SqT K H a xs) : SqT K H' a xs := by
  rcases h with (h | ⟨o, h⟩) | h
  · exact .inl (.inl (s.tup h))
  · exact .inl (.inr ⟨o, s.keep _ _ (fun _ z => by cases z) h⟩)
  · exact .inr h
theorem SameX.seqL {a : Addr} {xs : List V} (s : SameX H H') (h : SqL K H a xs) : SqL K H' a xs := by
  rcases h with (h | ⟨o, h⟩) | h
  · exact .inl (.inl (s.lst h))
  · exact .inl (.inr ⟨o, s.keep _ _ (fun _ z => by cases z) h⟩)
  · exact .inr h
mutual
theorem SameX.dp (s : SameX H H') : ∀ {d : PyData} {v : V}, Dp K H v d → Dp K H' v d
  | _, _, .non => .non
  | _, _, .bl b => .bl b
  | _, _, .int i => .int i
  | _, _, .str x => .str x
  | _, _, .lst h a => .lst (s.seqL h) (SameX.dpA s a)
  | _, _, .tup h a => .tup (s.seqT h) (SameX.dpA s a)
theorem SameX.dpA (s : SameX H H') : ∀ {ds : List PyData} {vs : List V}, DpAll K H vs ds → DpAll K H' vs ds
  | _, _, .nil => .nil
  | _, _, .cons h a => .cons (SameX.dp s h) (SameX.dpA s a)
end
theorem dpA_app : ∀ {vs ws : List V} {ds es : List PyData}, DpAll K H vs ds → DpAll K H ws es → DpAll K H (vs ++ ws) (ds ++ es)
  | _, _, _, _, .nil, k => k
  | _, _, _, _, .cons h a, k => .cons h (dpA_app a k)
end
section
variable {K : PySem.W.Frag} {H : Hp} {Q : VK} {σ : L2.St} {wi : TI} {J : It} {m : Nat} {G : Hp → Prop} {Y : Nat → Hp → V → Hp → Prop} {g : TG} {te : TE} {P : Addr} {vs : List Nat}
theorem z_tupG (w : Walk J m G Y) (hm : m ≤ 1000) (hi : ∀ R : It → Hp → Prop, R J H → wi σ H R) (hP : TabG H P) (Pv : Nat → List V → Hp → Prop) (h0 : ∀ H', SameX H H' → Pv 0 [] H') (hG : ∀ i acc H', Pv i acc H' → G H')
    (hs : ∀ i x acc H' H2, i < m → acc.length = i → Pv i acc H' → Y i H' x H2 → g x (wipe σ vs) H2 fun σ2 H3 => wipe σ2 vs = wipe σ vs ∧ te σ2 H3 fun y H4 => Pv (i + 1) (acc ++ [y]) H4)
    (hd : ∀ acc H' p H'', acc.length = m → Pv m acc H' → H' p = none → Same H' H'' → H'' p = some (.tup acc) → Q (.ref p) H'') : tTupG P wi g te vs σ H Q := by
  refine hi _ ⟨hP, fun H2 t => ⟨fun i n acc H' => n = m - i ∧ i ≤ m ∧ acc.length = i ∧ Pv i acc H', ⟨m, by simp, Nat.zero_le _, rfl, h0 _ (.ofTab t hP)⟩, ?_⟩⟩
  rintro i n acc H' ⟨rfl, hi', hl, p⟩
  have q := hG i acc H' p
  have h1000 : (1000 : Nat) < sizeLine := by decide
  by_cases hlt : i < m
  · refine .inr ⟨w.goes i H' hlt q, by omega, fun y H4 => Pv (i + 1) (acc ++ [y]) H4, fun y H4 p4 => ⟨m - (i + 1), by omega, rfl, hlt, by rw [List.length_append, hl]; rfl, p4⟩, fun x H2 y => hs i x acc H' H2 hlt hl p (w.yields i H' x H2 hlt q y)⟩
  · have e : i = m := by omega
    subst e
    exact .inl ⟨w.stops H' q, by omega, fun p' hp => hd acc H' p' _ hl p hp (same_upd hp) upd_same⟩
/-- .. whose elements are data -/
theorem z_tupD (ds : List PyData) (w : Walk J m G Y) (hl : ds.length = m) (hm : m ≤ 1000) (hi : ∀ R : It → Hp → Prop, R J H → wi σ H R) (hP : TabG H P) (hG : ∀ H', SameX H H' → G H')
    (hs : ∀ i x d H' H2 (R : VK), ds[i]? = some d → i < m → SameX H H' → Y i H' x H2 → (∀ v H3, SameX H' H3 → Dp K H3 v d → R v H3) → g x (wipe σ vs) H2 fun σ2 H3 => wipe σ2 vs = wipe σ vs ∧ te σ2 H3 R)
    (hd : ∀ acc p H', SameX H H' → acc.length = m → H' p = some (.tup acc) → DpAll K H' acc ds → Q (.ref p) H') : tTupG P wi g te vs σ H Q := by
  refine z_tupG w hm hi hP (fun i acc H' => SameX H H' ∧ DpAll K H' acc (ds.take i)) (fun H' s => ⟨s, .nil⟩) (fun i acc H' h => hG _ h.1) (fun i x acc H' H2 hi' hl' ⟨s, a⟩ y => ?_) fun acc H' p H'' hl' ⟨s, a⟩ hp s2 e => ?_
  · have hw : ds[i]? = some ds[i] := List.getElem?_eq_getElem (by omega)
    refine hs i x ds[i] H' H2 _ hw hi' s y fun v H3 s3 dv => ⟨s.trans s3, ?_⟩
    rw [List.take_add_one, hw]
    exact dpA_app (s3.dpA a) (.cons dv .nil)
  · rw [← hl, List.take_length] at a
    exact hd acc p H'' (s.th s2) hl' e (SameX.dpA (.of s2) a)
end
/-! ### defs with a generator expression; the end of a law with tables -/
section
variable {P : Program} {w : World} {K : PySem.W.Frag} {mg : Str → Option Value} {base : Heap}
theorem _root_.L2.Fun.okC {x qual : Str} {st : Stmt} {f c : Addr} {fd : FuncData} {N ps : List Str} {k : Nat} {sp : Sp} (F : Fun K x qual st f fd) (hc : fd.code = .ref c) (S : FnScope N ps (defScope st)) (len : ∀ vs H Q E, sp vs H Q E → vs.length = ps.length)
    (hbody : ∀ (A : Around) (outer : List Env) (s : Shared) (H : Hp) (vs : List V) (Q : VK) (E : XK), Room k (A.deeper (envOfC qual (defScope st) s.heap.objs.size f (.ref c))) → sp vs H Q E →
      ∃ t, PSs (cxOf (L2.CX P w) P w K mg base N qual (defScope st) f (.ref c) A outer s H E) (defBody st) t ∧ t { nx := fun _ H' => Q .non H', rt := Q } (start N vs) H) : FnOk P w K mg base (L2.CX P w) (k + 1) f fd ps sp := by
  obtain ⟨oc, od, kV, doc, pm, an, cdv, ct, osl, rfl, lk, hcd⟩ := F.ex
  obtain rfl : cdv = .ref c := hc
  exact fn_of lk hcd S len fun A outer s H vs Q E hr hsp => hbody A outer s H vs Q E hr hsp
end
/-- the tables of the module's defs stand empty -/
def TabAll (q : Program) (K : PySem.W.Frag) (mg : Str → Option Value) (h : Heap) : Prop := ∀ (x : Str) (fa c P : Addr) (o : Obj) (fd : FuncData) (e : Value) (dd : Option Addr) (vs : Array Value) (sl : Array (Option Value)), ((recsOf q).any fun e => e.name == x) = true → mg x = some (.ref fa) →
  K.lookup fa = some o → o.data = .func fd → fd.code = .ref c → K.lookup c = some ⟨e, dd, .fields vs, sl⟩ → vs[11]? = some (.ref P) → h.get? P = some { cls := .none, data := .fields #[] } ∧ PySem.W.CodeHd h c P
theorem walk_tabs {l : PySem.W.OpenLaw} {n k : Nat} {q : Program} {loose : List Str} {XP : (Str → Option Value) → Heap → Prop} {YP : World → Heap → Prop} {d : DefRec} {K : Params → PySem.W.Frag} {CX : World → CXT} {x : Str}
    (hn : l.most = some n) (hn2 : n ≤ sizeLine) (hdf : d.params.defaults = []) (hr : Room k callerA) (hY : ∀ (w : World) (h : Heap), YP w h → (K w.params).In h)
    (F : ∀ (w : World) (mg : Str → Option Value) (fa : Addr) (h : Heap), (K w.params).In h → h.Ns mainGlobals mg → mg d.name = some (.ref fa) → TabAll q (K w.params) mg h → LawAtS l w (K w.params) (CX w) k n x mg fa h)
    (hCX : ∀ (w : World) (H : Hp) (s : Shared) (e : Value) (s' : Shared), CX w [] H s (fun _ _ _ => False) e s' → False) :
    PySem.W.WalkO q loose XP YP l.row.toRowW d [] (fun f vs => PySem.call f vs) := by
  refine Att.attach_callB hn hdf fun w s₀ s₁ mg mb fa o pm cd doc a vs ns G Y ho hd hcd hmg hobj hints hlen hbits hg => ?_
  have KX := hY w _ Y
  have own : TabAll q (K w.params) mg s₁.heap := fun y fb c P o1 fd1 e dd vs1 sl k0 kg k1 k2 k3 k4 k5 => by
    obtain ⟨dL, hm, hn1⟩ := List.any_eq_true.mp k0
    have hn2 : dL.name = y := beq_iff_eq.mp hn1
    obtain ⟨a', o', fd', c', P', h1, h2, h3, h4, h5, h6⟩ := G.T.tab dL hm
    rw [hn2, kg] at h1
    cases h1
    have g1 := KX _ _ k1
    rw [g1] at h2
    cases h2
    rw [k2] at h3
    cases h3
    rw [k3] at h4
    cases h4
    have hcd := PySem.W.CodeHd.of h5 h6
    obtain ⟨⟨oc, vc, e1, _, e3, e4⟩, hP⟩ := h6
    have g2 := KX _ _ k4
    rw [g2] at e1
    cases e1
    cases e3
    rw [k5] at e4
    cases e4
    exact ⟨hP, hcd⟩
  obtain ⟨fd, cs, sp, hT, nT, C, hb, hsp, hF⟩ := F w mg fa _ KX G.T.g hmg own
  exact law_callTs KX G.T.g G.T.b G.T.builtins G.T.nolimit hg hT nT C G.T.bmain hobj hints (Nat.le_trans hlen hn2) hr hF hb (fun H hH hS => hsp H a ns hlen hbits hH hS) fun H e s' => hCX w H s₁ e s'
end Tg

/-! t[:h:-1] of a tuple -/
namespace Tg
open PySem PySem.Spec PyProof.Rows L2 Z GxR HT
def cntR (n : Nat) : Option Int → Nat
  | none => n
  | some h => n - (h.toNat + 1)
theorem adjust_rev (hi : Option Int) (n : Nat) (h0 : ∀ h, hi = some h → 0 ≤ h) : Builtin.Slice.slicePlaces (Builtin.Slice.sliceAdjust none hi (-1) (n : Int)).1 (Builtin.Slice.sliceAdjust none hi (-1) (n : Int)).2 (-1) = cntR n hi ∧ (Builtin.Slice.sliceAdjust none hi (-1) (n : Int)).1 = (n : Int) - 1 := by
  refine ⟨?_, rfl⟩
  unfold Builtin.Slice.slicePlaces Builtin.Slice.sliceAdjust cntR
  have h1 : ¬ ((-1 : Int) > 0) := by omega
  have h2 : ((-1 : Int) < 0) := by omega
  have h3 : (- -1 : Int) = 1 := by decide
  simp only [h1, h2, if_true, if_false, h3, Int.ediv_one]
  cases hi with
  | none => dsimp only; split <;> omega
  | some h =>
    have := h0 h rfl
    have h4 : ¬ h < 0 := by omega
    simp only [h4, if_false]
    split <;> omega
theorem fm_congr {α β : Type} {f g : α → Option β} : ∀ {l : List α}, (∀ a ∈ l, f a = g a) → l.filterMap f = l.filterMap g
  | [], _ => rfl
  | a :: l, h => by
    rw [List.filterMap_cons, List.filterMap_cons, h a List.mem_cons_self, fm_congr fun b hb => h b (List.mem_cons_of_mem _ hb)]
theorem pick_rev (xs : Array Value) (k : Nat) (hk : k ≤ xs.size) : ((List.range k).filterMap fun (m : Nat) => xs[(((xs.size : Int) - 1) + (m : Int) * (-1)).toNat]?).toArray = (xs.toList.reverse.take k).toArray := by
  have e : (List.range k).filterMap (fun (m : Nat) => xs[(((xs.size : Int) - 1) + (m : Int) * (-1)).toNat]?) = (List.range k).filterMap fun m => xs.reverse[m]? := by
    refine fm_congr fun m hm => ?_
    have hm := List.mem_range.mp hm
    have : (((xs.size : Int) - 1) + (m : Int) * (-1)).toNat = xs.size - 1 - m := by omega
    rw [this, Array.getElem?_eq_getElem (by omega), Array.getElem?_eq_getElem (by rw [Array.size_reverse]; omega), Array.getElem_reverse]
  rw [e]
  have := pick_run xs.reverse 0 k
  have e2 : (List.range k).map (0 + ·) = List.range k := by
    rw [show ((0 + ·) : Nat → Nat) = id from funext fun k => Nat.zero_add k, List.map_id]
  rw [e2, List.drop_zero, Array.toList_reverse] at this
  rw [this]
section
variable {prog : Program} {w : World} {A : Around} {E : Value → Shared → Prop} {s : Shared}
theorem sliceApplied_rev {sl : Addr} {vu vs : Value} {hi : Option Int} {n : Nat} {Q : Int × Int × Nat → Shared → Prop} (hs : s.heap.IsSliceOf sl .none vu vs) (pu : IsPart vu hi) (ps : IsPart vs (some (-1))) (h0 : ∀ h, hi = some h → 0 ≤ h)
    (h : Q ((n : Int) - 1, -1, cntR n hi) s) : wpAny (model prog w) A (Builtin.Slice.sliceApplied (.ref sl) (pure (n : Int))) Q E s := by
  obtain ⟨os, hos, hcs, hds⟩ := id hs
  unfold Builtin.Slice.sliceApplied Builtin.Slice.sliceFields
  refine wpAny_bind (wpAny_bind (wpAny_field hos hds (x := .none) rfl (wpAny_bind (wpAny_field hos hds (x := vu) rfl (wpAny_bind (wpAny_field hos hds (x := vs) rfl (wpAny_pure ?_)))))))
  refine wpAny_bind (slicePart_ ps ?_)
  show wpAny _ _ (if ((-1 : Int) == 0) = true then _ else _) _ _ s
  rw [if_neg (by decide)]
  refine wpAny_bind (slicePart_none (wpAny_bind (slicePart_ pu (wpAny_bind (wpAny_pure ?_)))))
  obtain ⟨e1, e2⟩ := adjust_rev hi n h0
  show wpAny _ _ (pure ((Builtin.Slice.sliceAdjust none hi (-1) (n : Int)).1, (-1 : Int), Builtin.Slice.slicePlaces (Builtin.Slice.sliceAdjust none hi (-1) (n : Int)).1 (Builtin.Slice.sliceAdjust none hi (-1) (n : Int)).2 (-1))) _ _ s
  rw [e1, e2]
  exact wpAny_pure h
theorem cntR_le (n : Nat) (hi : Option Int) : cntR n hi ≤ n := by
  cases hi with
  | none => exact Nat.le_refl _
  | some h => exact Nat.sub_le _ _
theorem getItem_tuple_rev {t sl : Addr} {items : Array Value} {vu vs : Value} {hi : Option Int} {Q : Value → Shared → Prop} (ht : IsTup s.heap t items) (hs : s.heap.IsSliceOf sl .none vu vs) (pu : IsPart vu hi) (ps : IsPart vs (some (-1))) (h0 : ∀ h, hi = some h → 0 ≤ h)
    (h : Q (.ref s.heap.objs.size) { s with heap := s.heap.push { cls := .type "tuple", data := .seq (items.toList.reverse.take (cntR items.size hi)).toArray } })
    (hsz : items.size ≤ sizeLine) : wpAny (model prog w) A (getItem (.ref t) (.ref sl)) Q E s := by
  have htake : sizeOk (.seq (items.toList.reverse.take (cntR items.size hi)).toArray) := by
    show (items.toList.reverse.take (cntR items.size hi)).toArray.size ≤ sizeLine
    rw [List.size_toArray, List.length_take, List.length_reverse, Array.length_toList]
    omega
  obtain ⟨os, hos, hcs, hds⟩ := id hs
  have hTs : s.TypeIs (.ref sl) "slice" := ⟨os, hos, hcs⟩
  unfold getItem
  try with_reducible refine wpAny_holding ?_
  first | refine wpAny_bind (wpAny_pure ?_) | skip
  refine wpAny_bind (wpAny_sequenceKey ht.typeIs (by decide) ?_)
  refine wpAny_bind (wpAny_callSpecial?_slot (name := Str.ofString "__getitem__") ht.typeIs PyProof.Rows.slot_tuple_getitem
    (wpAny_call_entry PyProof.Rows.slot_tuple_getitem ht.typeIs entry_tuple_getitem ?_ (args_tuple_getitem _ _)))
  show wpAny _ _ (Builtin.Tuple.tupleItemsOf (.ref t) >>= _) _ _ s
  refine wpAny_bind (tupleItemsOf_ ht ?_)
  refine wpAny_bind (wpAny_typeOf hTs ?_)
  rw [if_pos (by decide)]
  refine wpAny_bind (sliceApplied_rev hs pu ps h0 ?_)
  have hno : ¬ ((((items.size : Int) - 1) == 0 && (-1 : Int) == 1 && cntR items.size hi == items.size) = true) := by
    intro q
    rw [Bool.and_eq_true, Bool.and_eq_true] at q
    exact absurd q.1.2 (by decide)
  show wpAny _ _ (if (((items.size : Int) - 1) == 0 && (-1 : Int) == 1 && cntR items.size hi == items.size) = true then _ else _) _ _ s
  rw [if_neg hno, pick_rev _ _ (cntR_le _ _)]
  first
    | exact wpAny_bind (m := Builtin.Tuple.tupleExact _) (wpAny_newObj_type (wpAny_pure ⟨_, rfl, wpAny_pure h⟩) htake)
    | exact wpAny_bind (m := Builtin.Tuple.tupleExact _) (wpAny_newObj_type (wpAny_bind (wpAny_pure (wpAny_pure ⟨_, rfl, wpAny_pure h⟩))) htake)
    | exact wpAny_bind (wpAny_bind (m := Builtin.Tuple.tupleExact _) (wpAny_newObj_type (wpAny_pure (wpAny_pure ⟨_, rfl, wpAny_pure h⟩)) htake))
    | exact wpAny_bind (wpAny_bind (m := Builtin.Tuple.tupleExact _) (wpAny_newObj_type (wpAny_pure ⟨_, rfl, wpAny_pure h⟩) htake))
end
/-- t[:h:-1] -/
def tRevT (K : PySem.W.Frag) (te : TE) (tu : TO) : TE := fun σ H Q => te σ H fun x H1 => tu σ H1 fun hi H2 => ∃ a xs, x = .ref a ∧ SqT K H2 a xs ∧ (∀ h, hi = some h → 0 ≤ h) ∧ ∀ p, H2 p = none → Q (.ref p) (upd H2 p (.tup (xs.reverse.take (cntR xs.length hi))))
theorem pe_revT {X : Cx} {e : Expr} {te : TE} {hi : Option Expr} {tu : TO} {k : Nat} {p1 p2 p3 pos : Pos} (he : PE X e te) (hu : PO X hi tu) : PE X (.Subscript e (.Slice none hi (some (.UnaryOp .USub (.Constant (.int 1) k p1) p2)) p3) pos) (tRevT X.K te tu) := by
  refine ⟨fun pins s σ H Q I h => ?_⟩
  refine Subscript_ (thn (he.run pins s σ H _ I h) fun v s1 ⟨x, H1, I1, r1, q1⟩ => ?_)
  have hst : PO X (some (.UnaryOp .USub (.Constant (.int 1) k p1) p2)) (tPart (tUn (rU fun i => .int (-i)) (tC (.int 1)))) := po_some (pe_un un_neg pe_int)
  refine wpAny_Slice (thn (po_none.run pins s1 σ H1 (fun o H2 => o = none ∧ H2 = H1) I1 ⟨rfl, rfl⟩) fun vl s2 ⟨l, H2, I2, pl, el, e2⟩ => ?_)
  subst el e2
  refine thn (hu.run pins s2 σ H2 _ I2 q1) fun vu s3 ⟨u, H3, I3, pu, q3⟩ => ?_
  obtain ⟨a, xs, ex, hx, h0, q⟩ := q3
  subst ex
  cases r1
  refine thn (hst.run pins s3 σ H3 (fun o H4 => o = some (-1) ∧ H4 = H3) I3 ⟨1, rfl, -1, rfl, rfl, rfl⟩) fun vs s4 ⟨o, H4, I4, ps, eo, e4⟩ => ?_
  subst eo e4
  cases pl
  have I5 : Inv X pins σ H4 { s4 with heap := s4.heap.push { cls := .type "slice", data := .fields #[.none, vu, vs] } } := I4.kept (t' := s4.toks) fun b ob q => Heap.get?_push_of_some _ q
  obtain ⟨its, r, ht, hz⟩ := I5.tuple hx
  have hlen := r.length
  show wpAny (model X.prog X.w) X.A (subscriptTail e (.Slice none hi (some (.UnaryOp .USub (.Constant (.int 1) k p1) p2)) p3) (.ref a) (.ref s4.heap.objs.size)) (EP X pins σ Q) X.xe { s4 with heap := s4.heap.push { cls := .type "slice", data := .fields #[.none, vu, vs] } }
  refine tail_any (ops := [.ref a, .ref s4.heap.objs.size]) ht.typeIs (PyProof.Rows.slot_tuple_getitem.lookup) ?_ (by with_unfolding_all rfl)
  refine getItem_tuple_rev ht (Heap.IsSliceOf.new _ .none vu vs) pu ps h0 ?_ (by rw [List.size_toArray]; omega)
  have e9 : its.toArray.size = xs.length := by rw [List.size_toArray]; exact hlen.symm
  rw [e9]
  refine ⟨.ref _, _, I5.laid (t' := s4.toks) (o := .tup (xs.reverse.take (cntR xs.length u))) (fun b ob q => Heap.get?_push_of_some _ q) (Nat.le_refl _) ?_, rfl, q _ (I5.hok.fresh (Nat.le_refl _))⟩
  exact ⟨by rw [List.length_take, List.length_reverse]; omega, _, r.reverse.take _, _, Heap.get?_push_size _ rfl, rfl, 0, rfl⟩
section
variable {K : PySem.W.Frag} {H : Hp} {Q : VK} {σ : L2.St} {te : TE} {tu : TO} {a : Addr} {xs : List V}
theorem z_revT {hi : Option Int} (ht : ∀ R : VK, R (.ref a) H → te σ H R) (hx : SqT K H a xs) (hu : ∀ R : Option Int → Hp → Prop, R hi H → tu σ H R) (h0 : ∀ h, hi = some h → 0 ≤ h) (q : ∀ p H', H p = none → Same H H' → H' p = some (.tup (xs.reverse.take (cntR xs.length hi))) → Q (.ref p) H') : tRevT K te tu σ H Q :=
  ht _ (hu _ ⟨a, xs, rfl, hx, h0, fun p hp => q p _ hp (same_upd hp) upd_same⟩)
/-- t[lo:hi], whole or not -/
theorem z_slA {lo hi : Option Int} (h : SqT K H a xs) (q : ∀ p H', Same H H' → SqT K H' p (cutV xs lo hi) → Q (.ref p) H') : rSlA K (.ref a) lo hi H Q := by
  refine ⟨a, xs, rfl, h, fun hw => q a H (fun _ _ z => z) ?_, fun _ p hp => q p _ (same_upd hp) (.inl (.inl upd_same))⟩
  have e : cutV xs lo hi = xs := by
    unfold cutV
    rw [hw.1, hw.2, List.drop_zero]
    exact List.take_of_length_le (by omega)
  rw [e]
  exact h
end
end Tg

/-! raise X(f'.. {N} ..') -/
namespace Tg
open PySem PySem.Spec PyProof.Rows L2 Z
def okF (m1 : Str) (k : Int) (m2 : Str) : Bool := decide (k.natAbs.log2 < 1920) && decide ((Str.empty ++ m1).length ≤ sizeLine) && decide ((Str.empty ++ m1 ++ (toString k : Str)).length ≤ sizeLine) && decide ((Str.empty ++ m1 ++ (toString k : Str) ++ m2).length ≤ sizeLine)
theorem pmkF {X : Cx} {C : Addr} {x m1 m2 : Str} {k : Int} {e : Expr} {j1 j2 : Nat} {p p1 p2 p3 p4 pos : Pos} (E : ExcX X.K X.mg x C) (hg : Gl X x) (hc : PE X e (tC (.int k))) (ok : okF m1 k m2 = true)
    (hs : starEach [Expr.JoinedStr [.Constant (.str m1) j1 p1, .FormattedValue e (-1) none p2, .Constant (.str m2) j2 p3] p4] X.env = (false, eval (Expr.JoinedStr [.Constant (.str m1) j1 p1, .FormattedValue e (-1) none p2, .Constant (.str m2) j2 p3] p4) X.env) :: starEach [] X.env := by rfl) (hdb : (x == ("__debug__" : Str)) = false := by decide) :
    PMk X (.Call (.Name x p) [.JoinedStr [.Constant (.str m1) j1 p1, .FormattedValue e (-1) none p2, .Constant (.str m2) j2 p3] p4] [] pos) (fun _ H Q => Q (.ref C) none H) := by
  intro pins s σ H Q I h
  unfold okF at ok
  rw [Bool.and_eq_true, Bool.and_eq_true, Bool.and_eq_true, decide_eq_true_eq, decide_eq_true_eq, decide_eq_true_eq, decide_eq_true_eq] at ok
  refine SkE.pmk_own1 PySem.F.excBase_ValueError E.q E.g E.k (raises_own E.c.hs E.t) hg (pe_joined (.cons pe_str (.cons (pe_fmt hc) (.cons pe_str .nil)))) hs hdb pins s σ H Q I ?_
  exact ⟨m1, rfl, ok.1.1.2, .inr ⟨k, rfl, ok.1.1.1, _, rfl, ok.1.2, m2, rfl, ok.2, h⟩⟩
end Tg
namespace Tg
open PySem PySem.Spec PyProof.Rows L2 Z
def tCallNS (n m : Nat) (sp : Sp) (gV : List V → List V → List V) (E : L2.St → XK) (t tk : TA) : TE := fun σ H Q => t σ H fun vs H1 => tk σ H1 fun zs H2 => vs.length = n ∧ zs.length = m ∧ sp (gV vs zs) H2 Q (E σ)
section
variable {X : Cx} {CX : CXT} {k n : Nat} {f : Addr} {fd : FuncData} {ps ks : List Str} {sp : Sp} {E : L2.St → XK} {x : Str} {p pos : Pos} {e : Expr} {es : List Expr} {kws : List Keyword} {t tk : TA} {g : List Value → List Value → List Value} {gV : List V → List V → List V}
/-- f(e, .., k = v, ..) within a try -/
theorem pe_callNS (F : FnOk X.prog X.w X.K X.mg X.base CX k f fd ps sp) (hr : Room k X.A) (hg : Gl X x) (hm : X.mg x = some (.ref f)) (hk : PySem.W.keepIn X.K (.ref f) = true) (hb : KBn X.K fd ps n ks g gV) (hx : ∀ σ, PassesAt CX X σ (E σ))
    (ha : PA X (e :: es) t) (hkw : PK X kws tk) (hall : (backToKw pos (keywordEach kws X.env)).all (·.1.isSome) = true := by rfl) (hks : (backToKw pos (keywordEach kws X.env)).filterMap (·.1) = ks := by rfl)
    (hdb : (x == ("__debug__" : Str)) = false := by decide) (he : starEach (e :: es) X.env = (false, eval e X.env) :: starEach es X.env := by rfl)
    (hpl : ((backTo pos (starEach (e :: es) X.env)).any (·.1) || (backToKw pos (keywordEach kws X.env)).any (·.1.isNone)) = false := by rfl) :
    PE X (.Call (.Name x p) (e :: es) kws pos) (tCallNS n ks.length sp gV E t tk) := by
  refine ⟨fun pins s σ H Q I h => ?_⟩
  refine wpAny_Call_Name_kw (ld_glob I hg hm ?_ hdb)
  refine PySem.W.callWith_KW (h₀ := X.base) I.ok.mod.kin hk hall (thn (ha.run pos pins s σ H _ I h) fun us s1 ⟨vs, H1, I1, r, q⟩ => ?_) hpl he
  refine thn (hkw.run pos pins s1 σ H1 _ I1 q) fun ws s2 ⟨zs, H2, I2, rz, l1, l2, q2⟩ => ⟨I2.kIn, ?_⟩
  rw [hks]
  exact Cw.run_fnNS F hr hb (hx σ) I2 r rz l1 l2 q2
end
section
variable {H : Hp} {Q : VK} {σ : L2.St} {n m : Nat} {sp : Sp} {gV : List V → List V → List V} {t tk : TA}
theorem z_callN {E : XK} (h : t σ H fun vs H1 => tk σ H1 fun zs H2 => vs.length = n ∧ zs.length = m ∧ sp (gV vs zs) H2 Q E) : tCallN n m sp gV E t tk σ H Q := h
theorem z_callNS {E : L2.St → XK} (h : t σ H fun vs H1 => tk σ H1 fun zs H2 => vs.length = n ∧ zs.length = m ∧ sp (gV vs zs) H2 Q (E σ)) : tCallNS n m sp gV E t tk σ H Q := h
end
end Tg

/-! tuple * int, also 0 and 1 -/
namespace Tg
open PySem PySem.Spec PyProof.Rows L2 Z
theorem tuple_mul1 (l : Addr) (items : Array Value) (n : Nat) (dd : Option Addr) (sl : Array (Option Value)) (u : Tok) :
    Meets (Builtin.«tuple.__mul__» ⟨[.ref l, .int 1 u], []⟩) (fun _ R s => s.heap.get? l = some { cls := .type "tuple", dict := dd, data := .seq items n, slots := sl } ∧ R (.ok (.ret (Value.ref l))) s) :=
  .of_wp fun prog w A R s h => by
    obtain ⟨hp, g, d, tk, os⟩ := s
    obtain ⟨hl, h⟩ := h
    have f1 := AutoSeq1.idx_int
    wp_walk using wpAny_loadPart' hl
    repeat (first
      | (refine wpAny_ite_false (by decide) ?_; wp_walk using wpAny_loadPart' hl)
      | (refine wpAny_ite_true (by simp) ?_; wp_walk using wpAny_loadPart' hl))
    exact ⟨_, rfl, h⟩
theorem tuple_mul0 (l : Addr) (items : Array Value) (n : Nat) (dd : Option Addr) (sl : Array (Option Value)) (u : Tok) (c1 : items.isEmpty = false) :
    Meets (Builtin.«tuple.__mul__» ⟨[.ref l, .int 0 u], []⟩) (fun _ R s => s.heap.get? l = some { cls := .type "tuple", dict := dd, data := .seq items n, slots := sl } ∧
      R (.ok (.ret (Value.ref s.heap.objs.size))) { s with heap := s.heap.push { cls := Value.type "tuple", data := Data.seq #[] }, toks := s.toks }) :=
  .of_wp fun prog w A R s h => by
    obtain ⟨hp, g, d, tk, os⟩ := s
    obtain ⟨hl, h⟩ := h
    have f1 := AutoSeq1.idx_int
    wp_walk using wpAny_loadPart' hl
    repeat (first
      | (refine wpAny_ite_false (decide_eq_false (by rw [c1]; exact Bool.false_ne_true)) ?_; wp_walk using wpAny_loadPart' hl)
      | (refine wpAny_ite_false (by rw [c1]; decide) ?_; wp_walk using wpAny_loadPart' hl)
      | (refine wpAny_ite_true (by simp) ?_; wp_walk using wpAny_loadPart' hl))
    exact ⟨_, rfl, h⟩
/-- t * k, k at least 0 -/
def rRepA (K : PySem.W.Frag) : R2 := fun x y H Q => ∃ l k xs, x = .ref l ∧ y = .int k ∧ SqT K H l xs ∧ xs ≠ [] ∧ 0 ≤ k ∧ k ≤ 1000 ∧ xs.length ≤ 1000 ∧ ∀ p H', Same H H' → SqT K H' p (List.replicate k.toNat xs).flatten → Q (.ref p) H'
theorem op_repA {X : Cx} : OpR X (binaryOp .Mult) (rRepA X.K) := by
  intro pins s σ H x y v u Q I rx ry h
  obtain ⟨l, k, xs, rfl, rfl, hT, hne, h1, h2, hz, q⟩ := h
  by_cases hk : 2 ≤ k
  · exact op_repT pins s σ H _ _ v u Q I rx ry ⟨l, k, xs, rfl, rfl, hT, hne, hk, h2, hz, fun p hp => q p _ (same_upd hp) (.inl (.inl upd_same))⟩
  cases rx
  obtain ⟨t, rfl⟩ := ry
  obtain ⟨its, r, ⟨⟨cls, dd, data, sl⟩, ho, hc, n, hd⟩, hs⟩ := I.tuple hT
  simp only at hc hd
  subst hc hd
  have hn : its ≠ [] := fun e => hne (by
    have := r.length
    rw [e] at this
    exact List.eq_nil_of_length_eq_zero this)
  have hi : its.toArray.isEmpty = false := by
    cases its with
    | nil => exact absurd rfl hn
    | cons a b => rfl
  by_cases k1 : k = 1
  · subst k1
    refine wpAny_binaryOp_repeat_ref (T := "tuple") (U := "int") (by decide) ⟨_, ho, rfl⟩ (fun s' => typeIs_int s' 1 t) noFill_tuple_mul F.fills_int_mul F.slot_int_rmul repeat_tuple F.slot_int_index.lookup
      (call_meets F.slot_int_rmul (typeIs_int s 1 t) F.entry_int_rmul (F.args_int_rmul_2 _ _) (int_rmul_tuple 1 t l its.toArray n dd sl)
        ⟨ho, rfl, ⟨_, ho, rfl⟩, call_meets F.slot_tuple_mul ⟨_, ho, rfl⟩ F.entry_tuple_mul (F.args_tuple_mul_2 _ _) (tuple_mul1 l its.toArray n dd sl t) ⟨ho, ?_⟩⟩)
    refine ⟨.ref l, H, I, rfl, q l H (fun _ _ z => z) ?_⟩
    have e : (List.replicate (Int.toNat 1) xs).flatten = xs := by
      show [xs].flatten = xs
      simp
    rw [e]
    exact hT
  · obtain rfl : k = 0 := by omega
    refine wpAny_binaryOp_repeat_ref (T := "tuple") (U := "int") (by decide) ⟨_, ho, rfl⟩ (fun s' => typeIs_int s' 0 t) noFill_tuple_mul F.fills_int_mul F.slot_int_rmul repeat_tuple F.slot_int_index.lookup
      (call_meets F.slot_int_rmul (typeIs_int s 0 t) F.entry_int_rmul (F.args_int_rmul_2 _ _) (int_rmul_tuple 0 t l its.toArray n dd sl)
        ⟨ho, rfl, ⟨_, ho, rfl⟩, call_meets F.slot_tuple_mul ⟨_, ho, rfl⟩ F.entry_tuple_mul (F.args_tuple_mul_2 _ _) (tuple_mul0 l its.toArray n dd sl t hi) ⟨ho, ?_⟩⟩)
    have f := I.hok.fresh (Nat.le_refl s.heap.objs.size)
    refine ⟨.ref s.heap.objs.size, _, I.laid (t' := s.toks) (o := .tup []) (fun b ob q => Heap.get?_push_of_some _ q) (Nat.le_refl _) ?_, rfl, q _ _ (same_upd f) (.inl (.inl upd_same))⟩
    exact ⟨Nat.zero_le _, [], .nil, IsTup.new _ _⟩
theorem z_repA {K : PySem.W.Frag} {H : Hp} {Q : VK} {l : Addr} {k : Int} {xs : List V} (h : SqT K H l xs) (hne : xs ≠ []) (h1 : 0 ≤ k) (h2 : k ≤ 1000) (hz : xs.length ≤ 1000) (q : ∀ p H', Same H H' → SqT K H' p (List.replicate k.toNat xs).flatten → Q (.ref p) H') : rRepA K (.ref l) (.int k) H Q :=
  ⟨l, k, xs, rfl, rfl, h, hne, h1, h2, hz, q⟩
end Tg

/-! several except clauses, with names -/
namespace Tg
open PySem PySem.Spec PyProof.Rows L2 Z
abbrev Cl := Value × Option Nat × (Addr → Value → Option Addr → TS)
/-- how a clause's suite is run: a name's slot is set, and goes behind it -/
def enterB (D : Ends) (o : Option Nat) (ts : TS) (a : Addr) (σ : L2.St) (H : Hp) : Prop := match o with
  | none => ts D σ H
  | some i => ts { nx := fun σ' H' => D.nx (σ'.set i none) H', rt := D.rt, bk := fun σ' H' => D.bk (σ'.set i none) H', ct := fun σ' H' => D.ct (σ'.set i none) H' } (σ.set i (some (.ref a))) H
def wManyB (K : PySem.W.Frag) (Wout : WX) (D : Ends) : List Cl → WX
  | [] => Wout
  | (c, o, ts) :: r => fun cls d σ H => ∃ b, PySem.W.exmOne K cls c = some b ∧ (b = true → ∀ a, H a = none → enterB D o (ts a cls d) a σ H) ∧ (b = false → wManyB K Wout D r cls d σ H)
inductive HdsB (X : Cx) : List ExceptHandler → List Cl → Prop
  | nil : HdsB X [] []
  | cons {x : Str} {c : Value} {ts : Addr → Value → Option Addr → TS} {b₀ : Stmt} {suite : List Stmt} {np pos' : Pos} {hds : List ExceptHandler} {l : List Cl} (hc : Names X x c)
      (hsu : ∀ (a : Addr) (oe : Obj) (cls : Value) (d : Option Addr) (pn : List (Addr × Obj)), Zc cls d oe → (∃ vs, oe.data = .fields vs) → PSs (X.suite a ((a, oe) :: pn)) (b₀ :: suite) (ts a cls d)) (r : HdsB X hds l) :
      HdsB X (.ExceptHandler (some (.Name x np)) none (b₀ :: suite) pos' :: hds) ((c, none, ts) :: l)
  | name {x n : Str} {i : Nat} {c : Value} {ts : Addr → Value → Option Addr → TS} {b₀ : Stmt} {suite : List Stmt} {np pos' : Pos} {hds : List ExceptHandler} {l : List Cl} (hN : X.N.Nodup) (hi : X.N[i]? = some n) (hln : X.env.kindOf n = some .local) (hc : Names X x c)
      (hsu : ∀ (a : Addr) (oe : Obj) (cls : Value) (d : Option Addr) (pn : List (Addr × Obj)), Zc cls d oe → (∃ vs, oe.data = .fields vs) → PSs (X.suite a ((a, oe) :: pn)) (b₀ :: suite) (ts a cls d)) (r : HdsB X hds l) :
      HdsB X (.ExceptHandler (some (.Name x np)) (some n) (b₀ :: suite) pos' :: hds) ((c, some i, ts) :: l)
section
variable {X : Cx} {body : List Stmt} {h₀ : ExceptHandler} {hds : List ExceptHandler} {l : List Cl} {pos : Pos} {tb : WX → TS} {Wout : WX}
theorem ps_try_manyB (hs : X.stack = X.env :: X.outer) (hf : X.env.frame = some X.env.locals) (tk : Takes X Wout)
    (hb : ∀ (W : WX) (pn : List (Addr × Obj)) (xe : Value → Shared → Prop), Takes (X.tr pn xe) W → PassesOwn (model X.prog X.w) X.A X.env xe → PSs (X.tr pn xe) body (tb W))
    (hh : HdsB X (h₀ :: hds) l) : PS X (.Try body (h₀ :: hds) [] [] pos) (fun D σ H => tb (wManyB X.K Wout D l) D σ H) := by
  refine ⟨fun pins s σ H D I h => ?_⟩
  have ok := I.ok
  have hfr : X.A.frames = some (X.env :: X.outer) := by rw [ok.frames, hs]
  refine wpAny_Try_except ?_
  refine wpAny_mono ((hb (wManyB X.K Wout D l) (X.pn ++ pins) (fun e s₁ => wpAny (model X.prog X.w) X.A (noteFrame e X.env) (fun _ s₂ => wpAny (model X.prog X.w) X.A (setFlight e none) (fun _ s₃ =>
    wpAny (model X.prog X.w) X.A (handleBy e X.env (h₀ :: hds)) (SP X pins D) X.xe s₃) X.xe s₂) X.xe s₁) (fun u s' xx => ?_) PassesOwn.looking).run [] s σ H D (I.toTry _) h) (fun f s1 hsp => ?_) (fun e s1 he => he)
  · -- the catch
    obtain ⟨a, B, sI, pins', σ', H', cls, d, rfl, J', nb, up, sky, na, os, ag, w⟩ := xx
    have J : Inv X pins σ' H' sI := J'.ofTry ok
    have sky' : Sky B (X.env :: X.outer) a (Zc cls d) X.env.locals s'.heap := by rw [← hs]; exact sky
    show wpAny (model X.prog X.w) X.A (noteFrame (.ref a) X.env) _ _ _
    refine Sky.land Zc.steady hfr hf sky' fun h3 fl3 up3 => ?_
    have J3 : Inv X pins σ' H' { s' with heap := h3 } := J.landed nb fl3.1 (up.trans up3) os ag
    obtain ⟨oe3, vs3, he3, hz3, hd3⟩ := fl3.there
    have notFr : ∀ {h : Heap} {o : Obj} {vs : Array Value}, h.FunFrames B (X.env :: X.outer) → h.get? a = some o → o.data = .fields vs → a ∉ frs (X.env :: X.outer) := fun {h o vs} ff e dd hm => by
      obtain ⟨_, o', e', hnf⟩ := ff.mem hm
      rw [e] at e'; cases e'
      exact hnf _ dd
    have nfr := notFr fl3.2.2.1 he3 hd3
    have nL : a ≠ X.env.locals := fun z => nfr (List.mem_filterMap.mpr ⟨X.env, List.mem_cons_self, by rw [hf, z]⟩)
    have nF : a ∉ X.fs := fun hm => by
      obtain ⟨e, he, q⟩ := List.mem_filterMap.mp hm
      exact nfr (List.mem_filterMap.mpr ⟨e, List.mem_cons_of_mem _ he, q⟩)
    have S3 := J3.suite he3 hd3 na nL nF
    have test : ∀ {x : Str} {c : Value} {np : Pos} (hc : Names X x c) {Q : Value → Shared → Prop} {E : Value → Shared → Prop}, Q c { s' with heap := h3 } → wpAny (model X.prog X.w) (X.A.mark (some (.ref a))) (eval (.Name x np) X.env) Q E { s' with heap := h3 } := fun {x c np} hc {Q E} q => by
      obtain ⟨hg, hdbg, hm | ⟨hm, hv, hnn⟩⟩ := hc
      · exact ld_glob (X := X.suite a ((a, oe3) :: (X.pn ++ pins))) S3 hg hm q hdbg
      · exact ld_blt (X := X.suite a ((a, oe3) :: (X.pn ++ pins))) S3 hg hm hv q hnn hdbg
    have LT : PySem.W.Looks (model X.prog X.w) h3 (typeOf (.ref a)) cls := fun A Q E s k q => wpAny_typeOf_ref (k _ _ he3) (by rw [hz3.1]; exact q)
    have go : ∀ {hds' : List ExceptHandler} {l' : List Cl}, HdsB X hds' l' → wManyB X.K Wout D l' cls d σ' H' →
        wpAny (model X.prog X.w) X.A (handleBy (.ref a) X.env hds') (SP X pins D) X.xe { s' with heap := h3 } := by
      intro hds' l' hk
      induction hk with
      | nil =>
        intro w
        refine wpAny_handleBy_nil ?_
        obtain ⟨k1, k2, k3, oe, vs, T, oT, ts', he, hz, hd, h1, hr⟩ := id fl3
        unfold PySem.passOn
        refine wpAny_bind (wpAny_field he hd h1 ?_)
        rw [if_neg (show ¬ ((Value.ref T == Value.none) = true) from by simp)]
        have fin : wpAny (model X.prog X.w) X.A (setFlight (.ref a) X.env.frame) (fun _ s4 => wpAny (model X.prog X.w) X.A (throw (.ref a) : Sem Flow) (SP X pins D) X.xe s4) X.xe { s' with heap := h3 } := by
          rw [hf]
          refine HandSPX.setFlight_upZ fl3 fun h4 hh4 up4 => wpAny_throw (tk _ _ ?_)
          exact ⟨a, B, sI, pins, σ', H', cls, d, rfl, J, nb, (up.trans up3).trans up4, .inr (.inr (by rw [hs]; exact hh4)), na, os, ag, w⟩
        first
          | exact wpAny_bind (wpAny_pure (wpAny_bind fin))
          | exact wpAny_bind fin
      | @cons x c ts b₀ suite np pos' hds2 l2 hc hsu r ih =>
        intro w
        obtain ⟨b, hb1, hyes, hno⟩ := w
        refine wpAny_handleBy_cons (codeAny_handlers_test ?_) (by intro q; cases q)
        have LM := PySem.W.exm_one (M := model X.prog X.w) (J3.kIn) LT hb1
        refine test hc (LM.here ?_)
        cases b with
        | true =>
          refine codeAny_handlers_suite ?_
          refine HandSPX.lands_againZ fl3 fun h4 fl4 up4 => ?_
          have J4 : Inv X pins σ' H' { s' with heap := h4 } := J.landed nb fl4.1 ((up.trans up3).trans up4) os ag
          obtain ⟨oe4, vs4, he4, hz4, hd4⟩ := fl4.there
          have S4 := J4.suite he4 hd4 na nL nF
          refine wpAny_mono ((hsu a oe4 cls d (X.pn ++ pins) hz4 ⟨_, hd4⟩).run [] _ _ H' _ S4 (hyes rfl a na)) (fun f s6 hsp => ?_) (fun _ _ z => False.elim z)
          cases f with
          | next =>
            obtain ⟨σ6, H6, S6, q6⟩ := hsp
            exact ⟨_, _, S6.unsuite ok, q6⟩
          | brk =>
            obtain ⟨σ6, H6, S6, q6⟩ := hsp
            exact ⟨_, _, S6.unsuite ok, q6⟩
          | cont =>
            obtain ⟨σ6, H6, S6, q6⟩ := hsp
            exact ⟨_, _, S6.unsuite ok, q6⟩
          | ret u =>
            obtain ⟨v6, σ6, H6, S6, r6, q6⟩ := hsp
            exact ⟨_, _, _, S6.unsuite ok, r6, q6⟩
        | false =>
          show wpAny _ X.A (handleBy (.ref a) X.env hds2) _ _ _
          exact ih (hno rfl)
      | @name x n i c ts b₀ suite np pos' hds2 l2 hN hi hln hc hsu r ih =>
        intro w
        obtain ⟨b, hb1, hyes, hno⟩ := w
        refine wpAny_handleBy_cons (codeAny_handlers_test ?_) (by intro q; cases q)
        have LM := PySem.W.exm_one (M := model X.prog X.w) (J3.kIn) LT hb1
        refine test hc (LM.here ?_)
        cases b with
        | true =>
          refine codeAny_handlers_suite_as ?_
          refine HandSPX.lands_againZ fl3 fun h4 fl4 up4 => ?_
          have J4 : Inv X pins σ' H' { s' with heap := h4 } := J.landed nb fl4.1 ((up.trans up3).trans up4) os ag
          obtain ⟨oe4, vs4, he4, hz4, hd4⟩ := fl4.there
          have S4 := J4.suite he4 hd4 na nL nF
          refine store_ok (X := X.suite a ((a, oe4) :: (X.pn ++ pins))) (v := .ref a) S4 hN hi (.inl hln) rfl (fun s5 S5 => ?_) (.inr hln)
          refine wpAny_mono ((hsu a oe4 cls d (X.pn ++ pins) hz4 ⟨_, hd4⟩).run [] s5 _ H' _ S5 (hyes rfl a na)) (fun f s6 hsp => ?_) (fun _ _ z => False.elim z)
          have end_ : ∀ {σ6 : L2.St} {H6 : Hp} {Q : Shared → Prop}, Inv (X.suite a ((a, oe4) :: (X.pn ++ pins))) [] σ6 H6 s6 → (∀ s7, Inv X pins (σ6.set i none) H6 s7 → Q s7) →
              wpAny (model X.prog X.w) X.A (do bindName X.env n .none; unbindBehindTheSuite X.env n pos') (fun _ s7 => Q s7) X.xe s6 := fun {σ6 H6 Q} S6 hq => gone_ok (S6.unsuite ok) hN hi hln hq
          cases f with
          | next =>
            obtain ⟨σ6, H6, S6, q6⟩ := hsp
            exact end_ S6 fun s7 J7 => ⟨_, _, J7, q6⟩
          | brk =>
            obtain ⟨σ6, H6, S6, q6⟩ := hsp
            exact end_ S6 fun s7 J7 => ⟨_, _, J7, q6⟩
          | cont =>
            obtain ⟨σ6, H6, S6, q6⟩ := hsp
            exact end_ S6 fun s7 J7 => ⟨_, _, J7, q6⟩
          | ret u =>
            obtain ⟨v6, σ6, H6, S6, r6, q6⟩ := hsp
            exact end_ S6 fun s7 J7 => ⟨_, _, _, J7, r6, q6⟩
        | false =>
          show wpAny _ X.A (handleBy (.ref a) X.env hds2) _ _ _
          exact ih (hno rfl)
    exact go hh w
  · cases f with
    | next =>
      obtain ⟨σ', H', J', q⟩ := hsp
      exact wpAny_execs_nil ⟨σ', H', J'.ofTry ok, q⟩
    | brk =>
      obtain ⟨σ', H', J', q⟩ := hsp
      exact ⟨σ', H', J'.ofTry ok, q⟩
    | cont =>
      obtain ⟨σ', H', J', q⟩ := hsp
      exact ⟨σ', H', J'.ofTry ok, q⟩
    | ret u =>
      obtain ⟨v, σ', H', J', r, q⟩ := hsp
      exact ⟨v, σ', H', J'.ofTry ok, r, q⟩
end
section
variable {K : PySem.W.Frag} {Wout : WX} {D : Ends} {c cls : Value} {ts : Addr → Value → Option Addr → TS} {l : List Cl} {σ : L2.St} {H : Hp} {d : Option Addr} {o : Option Nat}
theorem z_manyB1 (e : PySem.W.exmOne K cls c = some true) (h : ∀ a, H a = none → enterB D o (ts a cls d) a σ H) : WE (wManyB K Wout D ((c, o, ts) :: l)) σ cls d H := ⟨true, e, fun _ a ha => h a ha, fun z => Bool.noConfusion z⟩
theorem z_manyB0 (e : PySem.W.exmOne K cls c = some false) (h : WE (wManyB K Wout D l) σ cls d H) : WE (wManyB K Wout D ((c, o, ts) :: l)) σ cls d H := ⟨false, e, fun z => Bool.noConfusion z, fun _ => h⟩
theorem z_enter {n : L2.St → Hp → Prop} {r : VK} {b c : L2.St → Hp → Prop} {t : TS} {a : Addr} {i : Nat} (h : t ⟨fun σ' H' => n (σ'.set i none) H', r, fun σ' H' => b (σ'.set i none) H', fun σ' H' => c (σ'.set i none) H'⟩ (σ.set i (some (.ref a))) H) : enterB ⟨n, r, b, c⟩ (some i) t a σ H := h
end
end Tg
namespace Tg
open PySem PySem.Spec PyProof.Rows L2 Z
/-- x[i] of a tuple or of a text -/
def rIxA (K : PySem.W.Frag) : R2 := fun x y H Q => rIxT K x y H Q ∨ rIxS x y H Q
theorem ix_any {X : Cx} : IxR X (rIxA X.K) := by
  intro value slice pins s σ H x y v u Q I rx ry h hs
  rcases h with h | h
  · exact ix_tup value slice pins s σ H x y v u Q I rx ry h hs
  · exact ix_str value slice pins s σ H x y v u Q I rx ry h hs
end Tg

/-! a def with defaults that has a table: the table's emptiness is asked of the start -/
namespace Tg
open PySem PySem.Spec PyProof.Rows L2 Z GxR LamX
abbrev bareTab : Obj := { cls := .none, data := .fields #[] }
def hookT (Ps : List Addr) (K : Params → PySem.W.Frag) (as : List Addr) (e : ∀ P, as = (K P).map (·.1)) : PySem.W.Hook :=
  ⟨List (Option Obj) × List (Option Obj), fun s => (as.map s.heap.get?, Ps.map s.heap.get?), fun w => ((K w.params).map fun p => some p.2, Ps.map fun _ => some bareTab),
    fun w h => PySem.W.InK K w h ∧ ∀ P ∈ Ps, h.get? P = some bareTab,
    fun w s x => ⟨PySem.W.InK.of e w s (congrArg Prod.fst x), fun P hP => List.map_inj_left.mp (congrArg Prod.snd x) P hP⟩,
    fun w h h' x k => ⟨PySem.W.InK.keeps w h h' x.1 k, fun P hP => k _ _ (x.2 P hP)⟩⟩
def TabAllZ (q : Program) (Ps : List Addr) (K : PySem.W.Frag) (mg : Str → Option Value) (h : Heap) : Prop := TabAll q K mg h ∧ ∀ P ∈ Ps, h.get? P = some bareTab
theorem TabAllZ.at {q : Program} {Ps : List Addr} {K : PySem.W.Frag} {mg : Str → Option Value} {h : Heap} {c P : Addr} (Z : TabAllZ q Ps K mg h) (X : K.In h) (hP : P ∈ Ps) (hc : PySem.W.codeHdIn K c P = true) : h.get? P = some { cls := .none, data := .fields #[] } ∧ PySem.W.CodeHd h c P :=
  ⟨Z.2 P hP, PySem.W.codeHd_of_K X hc⟩
theorem walk_tabsZ {l : PySem.W.OpenLaw} {n k : Nat} {q : Program} {loose : List Str} {XP : (Str → Option Value) → Heap → Prop} {YP : World → Heap → Prop} {d : DefRec} {K : Params → PySem.W.Frag} {CX : World → CXT} {x : Str} (Ps : List Addr)
    (hn : l.most = some n) (hn2 : n ≤ sizeLine) (hdf : d.params.defaults = []) (hr : Room k callerA) (hY : ∀ (w : World) (h : Heap), YP w h → (K w.params).In h ∧ ∀ P ∈ Ps, h.get? P = some bareTab)
    (F : ∀ (w : World) (mg : Str → Option Value) (fa : Addr) (h : Heap), (K w.params).In h → h.Ns mainGlobals mg → mg d.name = some (.ref fa) → TabAllZ q Ps (K w.params) mg h → LawAtS l w (K w.params) (CX w) k n x mg fa h)
    (hCX : ∀ (w : World) (H : Hp) (s : Shared) (e : Value) (s' : Shared), CX w [] H s (fun _ _ _ => False) e s' → False) :
    PySem.W.WalkO q loose XP YP l.row.toRowW d [] (fun f vs => PySem.call f vs) := by
  refine Att.attach_callB hn hdf fun w s₀ s₁ mg mb fa o pm cd doc a vs ns G Y ho hd hcd hmg hobj hints hlen hbits hg => ?_
  obtain ⟨KX, KP⟩ := hY w _ Y
  have own : TabAll q (K w.params) mg s₁.heap := fun y fb c P o1 fd1 e dd vs1 sl k0 kg k1 k2 k3 k4 k5 => by
    obtain ⟨dL, hm, hn1⟩ := List.any_eq_true.mp k0
    have hn2 : dL.name = y := beq_iff_eq.mp hn1
    obtain ⟨a', o', fd', c', P', h1, h2, h3, h4, h5, h6⟩ := G.T.tab dL hm
    rw [hn2, kg] at h1
    cases h1
    have g1 := KX _ _ k1
    rw [g1] at h2
    cases h2
    rw [k2] at h3
    cases h3
    rw [k3] at h4
    cases h4
    have hcd := PySem.W.CodeHd.of h5 h6
    obtain ⟨⟨oc, vc, e1, _, e3, e4⟩, hP⟩ := h6
    have g2 := KX _ _ k4
    rw [g2] at e1
    cases e1
    cases e3
    rw [k5] at e4
    cases e4
    exact ⟨hP, hcd⟩
  obtain ⟨fd, cs, sp, hT, nT, C, hb, hsp, hF⟩ := F w mg fa _ KX G.T.g hmg ⟨own, KP⟩
  exact law_callTs KX G.T.g G.T.b G.T.builtins G.T.nolimit hg hT nT C G.T.bmain hobj hints (Nat.le_trans hlen hn2) hr hF hb (fun H hH hS => hsp H a ns hlen hbits hH hS) fun H e s' => hCX w H s₁ e s'
end Tg

namespace G
open PySem PySem.Spec PyProof.Rows L2 Z
def topS (i : Nat) : Stmt := PySem.Challenge.pw_fontwinding_k15_subpaths.main.body.getD i (.Pass ⟨0, 0, 0, 0⟩)
abbrev s_ratio : Stmt := topS 10
abbrev s_add : Stmt := topS 11
abbrev s_subtract : Stmt := topS 12
abbrev s_multiply : Stmt := topS 13
abbrev s_divide : Stmt := topS 14
abbrev s_compare : Stmt := topS 15
abbrev s_floor_of : Stmt := topS 16
abbrev s_check_knots : Stmt := topS 19
abbrev s_length : Stmt := topS 20
abbrev s_reverse : Stmt := topS 21
abbrev s_exchanged : Stmt := topS 22
abbrev s_between : Stmt := topS 24
abbrev s_part_between : Stmt := topS 25
abbrev s_cut_segment : Stmt := topS 26
abbrev s_point_at : Stmt := topS 27
abbrev s_time_on : Stmt := topS 28
abbrev s_clamped : Stmt := topS 29
abbrev s_segment_at : Stmt := topS 30
abbrev s_subpath : Stmt := topS 31
abbrev s_part_of : Stmt := topS 32
abbrev s_ceiling_of : Stmt := topS 33
abbrev s_piece : Stmt := topS 34
abbrev s__law_cell : Stmt := topS 36
abbrev s__law_stream : Stmt := topS 37
abbrev s__law_next : Stmt := topS 38
abbrev s__law_ratio : Stmt := topS 40
abbrev s__law_sum : Stmt := topS 42
abbrev s__law_difference : Stmt := topS 43
abbrev s__law_product : Stmt := topS 44
abbrev s__law_small : Stmt := topS 46
abbrev s__law_point : Stmt := topS 47
abbrev s__law_path : Stmt := topS 49
abbrev s__law_bernstein : Stmt := topS 50
abbrev s__law_on_segment : Stmt := topS 51
abbrev s__law_time : Stmt := topS 52
abbrev s__law_less : Stmt := topS 53
abbrev s__law_on_path : Stmt := topS 54
abbrev s__law_times : Stmt := topS 55
abbrev s__law_refused : Stmt := topS 56
abbrev s__law_is_part : Stmt := topS 57
abbrev s_law : Stmt := topS 58
theorem sc_ratio : FnScope ["n", "d", "common", "top", "bottom"] ["n", "d"] (defScope s_ratio) := ⟨rfl, rfl, rfl, by decide +kernel, rfl, by decide +kernel, by decide +kernel⟩
theorem sc_add : FnScope ["a", "b"] ["a", "b"] (defScope s_add) := ⟨rfl, rfl, rfl, by decide +kernel, rfl, by decide +kernel, by decide +kernel⟩
theorem sc_subtract : FnScope ["a", "b"] ["a", "b"] (defScope s_subtract) := ⟨rfl, rfl, rfl, by decide +kernel, rfl, by decide +kernel, by decide +kernel⟩
theorem sc_multiply : FnScope ["a", "b"] ["a", "b"] (defScope s_multiply) := ⟨rfl, rfl, rfl, by decide +kernel, rfl, by decide +kernel, by decide +kernel⟩
theorem sc_divide : FnScope ["a", "b"] ["a", "b"] (defScope s_divide) := ⟨rfl, rfl, rfl, by decide +kernel, rfl, by decide +kernel, by decide +kernel⟩
theorem sc_compare : FnScope ["a", "b", "left", "right"] ["a", "b"] (defScope s_compare) := ⟨rfl, rfl, rfl, by decide +kernel, rfl, by decide +kernel, by decide +kernel⟩
theorem sc_floor_of : FnScope ["a"] ["a"] (defScope s_floor_of) := ⟨rfl, rfl, rfl, by decide +kernel, rfl, by decide +kernel, by decide +kernel⟩
theorem sc_check_knots : FnScope ["count"] ["count"] (defScope s_check_knots) := ⟨rfl, rfl, rfl, by decide +kernel, rfl, by decide +kernel, by decide +kernel⟩
theorem sc_length : FnScope ["path"] ["path"] (defScope s_length) := ⟨rfl, rfl, rfl, by decide +kernel, rfl, by decide +kernel, by decide +kernel⟩
theorem sc_reverse : FnScope ["path", "knots", "segments", "is_cycle", "turned", "segment"] ["path"] (defScope s_reverse) := ⟨rfl, rfl, rfl, by decide +kernel, rfl, by decide +kernel, by decide +kernel⟩
theorem sc_exchanged : FnScope ["segment"] ["segment"] (defScope s_exchanged) := ⟨rfl, rfl, rfl, by decide +kernel, rfl, by decide +kernel, by decide +kernel⟩
theorem sc_between : FnScope ["p", "q", "fraction"] ["p", "q", "fraction"] (defScope s_between) := ⟨rfl, rfl, rfl, by decide +kernel, rfl, by decide +kernel, by decide +kernel⟩
theorem sc_part_between : FnScope ["p", "q", "fraction"] ["p", "q", "fraction"] (defScope s_part_between) := ⟨rfl, rfl, rfl, by decide +kernel, rfl, by decide +kernel, by decide +kernel⟩
theorem sc_cut_segment : FnScope ["a", "segment", "b", "fraction", "first_control", "second_control", "first", "second", "third", "before", "after"] ["a", "segment", "b", "fraction"] (defScope s_cut_segment) := ⟨rfl, rfl, rfl, by decide +kernel, rfl, by decide +kernel, by decide +kernel⟩
theorem sc_point_at : FnScope ["path", "time", "place", "n", "a", "segment", "b"] ["path", "time"] (defScope s_point_at) := ⟨rfl, rfl, rfl, by decide +kernel, rfl, by decide +kernel, by decide +kernel⟩
theorem sc_time_on : FnScope ["path", "time", "n", "d"] ["path", "time"] (defScope s_time_on) := ⟨rfl, rfl, rfl, by decide +kernel, rfl, by decide +kernel, by decide +kernel⟩
theorem sc_clamped : FnScope ["path", "time", "whole"] ["path", "time"] (defScope s_clamped) := ⟨rfl, rfl, rfl, by decide +kernel, rfl, by decide +kernel, by decide +kernel⟩
theorem sc_segment_at : FnScope ["path", "n", "knots", "segments", "_", "at"] ["path", "n"] (defScope s_segment_at) := ⟨rfl, rfl, rfl, by decide +kernel, rfl, by decide +kernel, by decide +kernel⟩
theorem sc_subpath : FnScope ["path", "start", "end"] ["path", "start", "end"] (defScope s_subpath) := ⟨rfl, rfl, rfl, by decide +kernel, rfl, by decide +kernel, by decide +kernel⟩
theorem sc_part_of : FnScope ["path", "start", "end", "first", "last", "knots", "n", "segments"] ["path", "start", "end"] (defScope s_part_of) := ⟨rfl, rfl, rfl, by decide +kernel, rfl, by decide +kernel, by decide +kernel⟩
theorem sc_ceiling_of : FnScope ["a"] ["a"] (defScope s_ceiling_of) := ⟨rfl, rfl, rfl, by decide +kernel, rfl, by decide +kernel, by decide +kernel⟩
theorem sc_piece : FnScope ["path", "n", "start", "end", "a", "segment", "b", "later", "_", "earlier"] ["path", "n", "start", "end"] (defScope s_piece) := ⟨rfl, rfl, rfl, by decide +kernel, rfl, by decide +kernel, by decide +kernel⟩
theorem sc__law_cell : FnScope ["script", "k"] ["script", "k"] (defScope s__law_cell) := ⟨rfl, rfl, rfl, by decide +kernel, rfl, by decide +kernel, by decide +kernel⟩
theorem sc__law_stream : FnScope ["cell"] ["cell"] (defScope s__law_stream) := ⟨rfl, rfl, rfl, by decide +kernel, rfl, by decide +kernel, by decide +kernel⟩
theorem sc__law_next : FnScope ["stream", "size", "drawn", "mixed"] ["stream", "size"] (defScope s__law_next) := ⟨rfl, rfl, rfl, by decide +kernel, rfl, by decide +kernel, by decide +kernel⟩
theorem sc__law_ratio : FnScope ["n", "d", "a", "b", "k"] ["n", "d"] (defScope s__law_ratio) := ⟨rfl, rfl, rfl, by decide +kernel, rfl, by decide +kernel, by decide +kernel⟩
theorem sc__law_sum : FnScope ["a", "b"] ["a", "b"] (defScope s__law_sum) := ⟨rfl, rfl, rfl, by decide +kernel, rfl, by decide +kernel, by decide +kernel⟩
theorem sc__law_difference : FnScope ["a", "b"] ["a", "b"] (defScope s__law_difference) := ⟨rfl, rfl, rfl, by decide +kernel, rfl, by decide +kernel, by decide +kernel⟩
theorem sc__law_product : FnScope ["a", "b"] ["a", "b"] (defScope s__law_product) := ⟨rfl, rfl, rfl, by decide +kernel, rfl, by decide +kernel, by decide +kernel⟩
theorem sc__law_small : FnScope ["stream"] ["stream"] (defScope s__law_small) := ⟨rfl, rfl, rfl, by decide +kernel, rfl, by decide +kernel, by decide +kernel⟩
theorem sc__law_point : FnScope ["stream", "x"] ["stream"] (defScope s__law_point) := ⟨rfl, rfl, rfl, by decide +kernel, rfl, by decide +kernel, by decide +kernel⟩
theorem sc__law_path : FnScope ["stream", "most", "count", "is_cycle", "knots", "k", "segments", "first"] ["stream", "most"] (defScope s__law_path) := ⟨rfl, rfl, rfl, by decide +kernel, rfl, by decide +kernel, by decide +kernel⟩
theorem sc__law_bernstein : FnScope ["numbers", "u", "rest", "factors", "total", "k"] ["numbers", "u"] (defScope s__law_bernstein) := ⟨rfl, rfl, rfl, by decide +kernel, rfl, by decide +kernel, by decide +kernel⟩
theorem sc__law_on_segment : FnScope ["a", "segment", "b", "u", "x", "points", "point"] ["a", "segment", "b", "u"] (defScope s__law_on_segment) := ⟨rfl, rfl, rfl, by decide +kernel, rfl, by decide +kernel, by decide +kernel⟩
theorem sc__law_time : FnScope ["stream", "d"] ["stream"] (defScope s__law_time) := ⟨rfl, rfl, rfl, by decide +kernel, rfl, by decide +kernel, by decide +kernel⟩
theorem sc__law_less : FnScope ["a", "b"] ["a", "b"] (defScope s__law_less) := ⟨rfl, rfl, rfl, by decide +kernel, rfl, by decide +kernel, by decide +kernel⟩
theorem sc__law_on_path : FnScope ["path", "time", "index", "fraction", "knots", "segment"] ["path", "time"] (defScope s__law_on_path) := ⟨rfl, rfl, rfl, by decide +kernel, rfl, by decide +kernel, by decide +kernel⟩
theorem sc__law_times : FnScope ["start", "end", "times", "first", "k"] ["start", "end"] (defScope s__law_times) := ⟨rfl, rfl, rfl, by decide +kernel, rfl, by decide +kernel, by decide +kernel⟩
theorem sc__law_refused : FnScope ["path", "start", "end", "e"] ["path", "start", "end"] (defScope s__law_refused) := ⟨rfl, rfl, rfl, by decide +kernel, rfl, by decide +kernel, by decide +kernel⟩
theorem sc__law_is_part : FnScope ["actual", "path", "times", "time", "k", "index", "own", "u"] ["actual", "path", "times"] (defScope s__law_is_part) := ⟨rfl, rfl, rfl, by decide +kernel, rfl, by decide +kernel, by decide +kernel⟩
theorem sc_law : FnScope ["script", "path", "stream", "start", "end", "turned", "low", "high", "many", "times", "actual", "segments", "segment"] ["script"] (defScope s_law) := ⟨rfl, rfl, rfl, by decide +kernel, rfl, by decide +kernel, by decide +kernel⟩
structure Txt (K : PySem.W.Frag) (mg : Str → Option Value) (A : Nat → Addr) (D : Nat → FuncData) (base : Heap) : Prop where
  F_ratio : Fun K "ratio" "ratio" s_ratio (A 4) (D 4)
  m_ratio : mg "ratio" = some (.ref (A 4))
  b_ratio : Binds K (D 4) ["n", "d"] []
  F_add : Fun K "add" "add" s_add (A 5) (D 5)
  m_add : mg "add" = some (.ref (A 5))
  b_add : Binds K (D 5) ["a", "b"] []
  F_subtract : Fun K "subtract" "subtract" s_subtract (A 6) (D 6)
  m_subtract : mg "subtract" = some (.ref (A 6))
  b_subtract : Binds K (D 6) ["a", "b"] []
  F_multiply : Fun K "multiply" "multiply" s_multiply (A 7) (D 7)
  m_multiply : mg "multiply" = some (.ref (A 7))
  b_multiply : Binds K (D 7) ["a", "b"] []
  F_divide : Fun K "divide" "divide" s_divide (A 8) (D 8)
  m_divide : mg "divide" = some (.ref (A 8))
  b_divide : Binds K (D 8) ["a", "b"] []
  F_compare : Fun K "compare" "compare" s_compare (A 9) (D 9)
  m_compare : mg "compare" = some (.ref (A 9))
  b_compare : Binds K (D 9) ["a", "b"] []
  F_floor_of : Fun K "floor_of" "floor_of" s_floor_of (A 10) (D 10)
  m_floor_of : mg "floor_of" = some (.ref (A 10))
  b_floor_of : Binds K (D 10) ["a"] []
  F_check_knots : Fun K "check_knots" "check_knots" s_check_knots (A 11) (D 11)
  m_check_knots : mg "check_knots" = some (.ref (A 11))
  b_check_knots : Binds K (D 11) ["count"] []
  F_length : Fun K "length" "length" s_length (A 12) (D 12)
  m_length : mg "length" = some (.ref (A 12))
  b_length : Binds K (D 12) ["path"] []
  F_reverse : Fun K "reverse" "reverse" s_reverse (A 13) (D 13)
  m_reverse : mg "reverse" = some (.ref (A 13))
  b_reverse : Binds K (D 13) ["path"] []
  k_reverse : (D 13).code = .ref (A 45)
  t_reverse : GxR.TabB base mg (A 45) (A 46)
  F_exchanged : Fun K "exchanged" "exchanged" s_exchanged (A 14) (D 14)
  m_exchanged : mg "exchanged" = some (.ref (A 14))
  b_exchanged : Binds K (D 14) ["segment"] []
  F_between : Fun K "between" "between" s_between (A 15) (D 15)
  m_between : mg "between" = some (.ref (A 15))
  b_between : Binds K (D 15) ["p", "q", "fraction"] []
  F_part_between : Fun K "part_between" "part_between" s_part_between (A 16) (D 16)
  m_part_between : mg "part_between" = some (.ref (A 16))
  b_part_between : Binds K (D 16) ["p", "q", "fraction"] []
  F_cut_segment : Fun K "cut_segment" "cut_segment" s_cut_segment (A 17) (D 17)
  m_cut_segment : mg "cut_segment" = some (.ref (A 17))
  b_cut_segment : Binds K (D 17) ["a", "segment", "b", "fraction"] []
  F_point_at : Fun K "point_at" "point_at" s_point_at (A 18) (D 18)
  m_point_at : mg "point_at" = some (.ref (A 18))
  b_point_at : Binds K (D 18) ["path", "time"] []
  F_time_on : Fun K "time_on" "time_on" s_time_on (A 19) (D 19)
  m_time_on : mg "time_on" = some (.ref (A 19))
  b_time_on : Binds K (D 19) ["path", "time"] []
  F_clamped : Fun K "clamped" "clamped" s_clamped (A 20) (D 20)
  m_clamped : mg "clamped" = some (.ref (A 20))
  b_clamped : Binds K (D 20) ["path", "time"] []
  F_segment_at : Fun K "segment_at" "segment_at" s_segment_at (A 21) (D 21)
  m_segment_at : mg "segment_at" = some (.ref (A 21))
  b_segment_at : Binds K (D 21) ["path", "n"] []
  F_subpath : Fun K "subpath" "subpath" s_subpath (A 22) (D 22)
  m_subpath : mg "subpath" = some (.ref (A 22))
  b_subpath : Binds K (D 22) ["path", "start", "end"] []
  F_part_of : Fun K "part_of" "part_of" s_part_of (A 23) (D 23)
  m_part_of : mg "part_of" = some (.ref (A 23))
  b_part_of : Binds K (D 23) ["path", "start", "end"] []
  k_part_of : (D 23).code = .ref (A 47)
  t_part_of : GxR.TabB base mg (A 47) (A 48)
  F_ceiling_of : Fun K "ceiling_of" "ceiling_of" s_ceiling_of (A 24) (D 24)
  m_ceiling_of : mg "ceiling_of" = some (.ref (A 24))
  b_ceiling_of : Binds K (D 24) ["a"] []
  F_piece : Fun K "piece" "piece" s_piece (A 25) (D 25)
  m_piece : mg "piece" = some (.ref (A 25))
  b_piece : Binds K (D 25) ["path", "n", "start", "end"] []
  F__law_cell : Fun K "_law_cell" "_law_cell" s__law_cell (A 26) (D 26)
  m__law_cell : mg "_law_cell" = some (.ref (A 26))
  b__law_cell : Binds K (D 26) ["script", "k"] []
  F__law_stream : Fun K "_law_stream" "_law_stream" s__law_stream (A 27) (D 27)
  m__law_stream : mg "_law_stream" = some (.ref (A 27))
  b__law_stream : Binds K (D 27) ["cell"] []
  F__law_next : Fun K "_law_next" "_law_next" s__law_next (A 28) (D 28)
  m__law_next : mg "_law_next" = some (.ref (A 28))
  b__law_next : Binds K (D 28) ["stream", "size"] []
  F__law_ratio : Fun K "_law_ratio" "_law_ratio" s__law_ratio (A 29) (D 29)
  m__law_ratio : mg "_law_ratio" = some (.ref (A 29))
  b__law_ratio : Binds K (D 29) ["n", "d"] []
  F__law_sum : Fun K "_law_sum" "_law_sum" s__law_sum (A 30) (D 30)
  m__law_sum : mg "_law_sum" = some (.ref (A 30))
  b__law_sum : Binds K (D 30) ["a", "b"] []
  F__law_difference : Fun K "_law_difference" "_law_difference" s__law_difference (A 31) (D 31)
  m__law_difference : mg "_law_difference" = some (.ref (A 31))
  b__law_difference : Binds K (D 31) ["a", "b"] []
  F__law_product : Fun K "_law_product" "_law_product" s__law_product (A 32) (D 32)
  m__law_product : mg "_law_product" = some (.ref (A 32))
  b__law_product : Binds K (D 32) ["a", "b"] []
  F__law_small : Fun K "_law_small" "_law_small" s__law_small (A 33) (D 33)
  m__law_small : mg "_law_small" = some (.ref (A 33))
  b__law_small : Binds K (D 33) ["stream"] []
  F__law_point : Fun K "_law_point" "_law_point" s__law_point (A 34) (D 34)
  m__law_point : mg "_law_point" = some (.ref (A 34))
  b__law_point : Binds K (D 34) ["stream"] []
  F__law_path : Fun K "_law_path" "_law_path" s__law_path (A 35) (D 35)
  m__law_path : mg "_law_path" = some (.ref (A 35))
  b__law_path : Binds K (D 35) ["stream", "most"] []
  F__law_bernstein : Fun K "_law_bernstein" "_law_bernstein" s__law_bernstein (A 36) (D 36)
  m__law_bernstein : mg "_law_bernstein" = some (.ref (A 36))
  b__law_bernstein : Binds K (D 36) ["numbers", "u"] []
  F__law_on_segment : Fun K "_law_on_segment" "_law_on_segment" s__law_on_segment (A 37) (D 37)
  m__law_on_segment : mg "_law_on_segment" = some (.ref (A 37))
  b__law_on_segment : Binds K (D 37) ["a", "segment", "b", "u"] []
  F__law_time : Fun K "_law_time" "_law_time" s__law_time (A 38) (D 38)
  m__law_time : mg "_law_time" = some (.ref (A 38))
  b__law_time : Binds K (D 38) ["stream"] []
  F__law_less : Fun K "_law_less" "_law_less" s__law_less (A 39) (D 39)
  m__law_less : mg "_law_less" = some (.ref (A 39))
  b__law_less : Binds K (D 39) ["a", "b"] []
  F__law_on_path : Fun K "_law_on_path" "_law_on_path" s__law_on_path (A 40) (D 40)
  m__law_on_path : mg "_law_on_path" = some (.ref (A 40))
  b__law_on_path : Binds K (D 40) ["path", "time"] []
  F__law_times : Fun K "_law_times" "_law_times" s__law_times (A 41) (D 41)
  m__law_times : mg "_law_times" = some (.ref (A 41))
  b__law_times : Binds K (D 41) ["start", "end"] []
  F__law_refused : Fun K "_law_refused" "_law_refused" s__law_refused (A 42) (D 42)
  m__law_refused : mg "_law_refused" = some (.ref (A 42))
  b__law_refused : Binds K (D 42) ["path", "start", "end"] []
  F__law_is_part : Fun K "_law_is_part" "_law_is_part" s__law_is_part (A 43) (D 43)
  m__law_is_part : mg "_law_is_part" = some (.ref (A 43))
  b__law_is_part : Binds K (D 43) ["actual", "path", "times"] []
  F_law : Fun K "law" "law" s_law (A 44) (D 44)
  m_law : mg "law" = some (.ref (A 44))
  b_law : Binds K (D 44) ["script"] []
  x_FontError : Z.ExcX K mg "FontError" (A 0)
  x_TooGreat : Z.ExcX K mg "TooGreat" (A 1)
  x_DivisionByZero : Z.ExcX K mg "DivisionByZero" (A 2)
  x_TooMany : Z.ExcX K mg "TooMany" (A 3)
  e_FontError_FontError : PySem.W.subIn K (.ref (A 0)) (.ref (A 0)) = some true
  e_FontError_TooGreat : PySem.W.subIn K (.ref (A 0)) (.ref (A 1)) = some false
  e_FontError_DivisionByZero : PySem.W.subIn K (.ref (A 0)) (.ref (A 2)) = some false
  e_FontError_TooMany : PySem.W.subIn K (.ref (A 0)) (.ref (A 3)) = some false
  e_TooGreat_FontError : PySem.W.subIn K (.ref (A 1)) (.ref (A 0)) = some true
  e_TooGreat_TooGreat : PySem.W.subIn K (.ref (A 1)) (.ref (A 1)) = some true
  e_TooGreat_DivisionByZero : PySem.W.subIn K (.ref (A 1)) (.ref (A 2)) = some false
  e_TooGreat_TooMany : PySem.W.subIn K (.ref (A 1)) (.ref (A 3)) = some false
  e_DivisionByZero_FontError : PySem.W.subIn K (.ref (A 2)) (.ref (A 0)) = some true
  e_DivisionByZero_TooGreat : PySem.W.subIn K (.ref (A 2)) (.ref (A 1)) = some false
  e_DivisionByZero_DivisionByZero : PySem.W.subIn K (.ref (A 2)) (.ref (A 2)) = some true
  e_DivisionByZero_TooMany : PySem.W.subIn K (.ref (A 2)) (.ref (A 3)) = some false
  e_TooMany_FontError : PySem.W.subIn K (.ref (A 3)) (.ref (A 0)) = some true
  e_TooMany_TooGreat : PySem.W.subIn K (.ref (A 3)) (.ref (A 1)) = some false
  e_TooMany_DivisionByZero : PySem.W.subIn K (.ref (A 3)) (.ref (A 2)) = some false
  e_TooMany_TooMany : PySem.W.subIn K (.ref (A 3)) (.ref (A 3)) = some true
  z_abs : mg "abs" = none
  z_int : mg "int" = none
  z_isinstance : mg "isinstance" = none
  z_len : mg "len" = none
  z_range : mg "range" = none
  z_tuple : mg "tuple" = none
  l_gcd : mg "gcd" = some (.builtin "math.gcd")
  c_ZERO : mg "ZERO" = some (.ref (A 49))
  d_ZERO : ∀ H : Hp, Dp K H (.ref (A 49)) (.tuple [(.int (0)), (.int (1))])
  c_ONE : mg "ONE" = some (.ref (A 50))
  d_ONE : ∀ H : Hp, Dp K H (.ref (A 50)) (.tuple [(.int (1)), (.int (1))])
  c_LIMIT : ∃ u, mg "LIMIT" = some u ∧ RelV (.int (1000000000000000000)) u
  c_MOST_KNOTS : ∃ u, mg "MOST_KNOTS" = some u ∧ RelV (.int (24)) u
local macro_rules | `(tactic| walk_at "z1") => `(tactic| first
  | with_reducible refine z_seq ?_
  | with_reducible refine z_asg ?_
  | with_reducible refine z_asgS ?_
  | with_reducible refine z_ifs ?_
  | ((with_reducible refine' z_var ?h ?_); case h => with_unfolding_all exact rfl)
  | with_reducible refine z_c ?_
  | with_reducible refine z_op ?_
  | with_reducible refine z_un ?_
  | with_reducible refine z_I0 ?_
  | ((with_reducible refine z_I ?h ?_); case h => first | (exact Or.inr ⟨by decide, by decide⟩) | (exact Or.inl ⟨by decide, by decide⟩) | (show (0 : Int) < _; first | assumption | omega))
  | with_reducible refine z_U ?_
  | with_reducible refine z_eqI ?_
  | with_reducible refine z_neI ?_
  | with_reducible refine z_test ?_
  | with_reducible refine z_tB ?_
  | with_reducible refine z_bl ?_
  | with_reducible refine z_notT ?_
  | with_reducible refine z_andT ?_
  | with_reducible refine z_orT ?_
  | with_reducible refine z_andV ?_
  | with_reducible refine z_orV ?_
  | with_reducible refine z_notV ?_
  | with_reducible refine z_ifE ?_
  | with_reducible refine z_ifT ?_
  | with_reducible refine z_ifF ?_
  | with_reducible refine z_ifNT ?_
  | with_reducible refine z_ifNF ?_
  | with_reducible refine z_chain ?_
  | with_reducible refine z_nil ?_
  | with_reducible refine z_cons ?_
  | with_reducible refine z_tup ?_
  | with_reducible refine z_lst ?_
  | with_reducible refine z_cb ?_
  | with_reducible refine z_call ?_
  | with_reducible refine z_callS ?_
  | with_reducible refine z_int1 ?_
  | with_reducible refine z_int1b ?_
  | with_reducible refine z_abs ?_
  | with_reducible refine z_gcd ?_
  | with_reducible refine z_ret ?_
  | with_reducible refine z_retN ?_
  | with_reducible refine z_drop ?_
  | with_reducible refine z_next ?_
  | with_reducible refine z_brk ?_
  | with_reducible refine z_cont ?_
  | with_reducible refine z_par ?_
  | with_reducible refine z_two ?_
  | with_reducible refine z_asgT ?_
  | with_reducible refine z_sl ?_
  | with_reducible refine z_noPart ?_
  | with_reducible refine z_part ?_
  | with_reducible refine z_partI ?_
  | with_reducible refine z_gName ?_
  | with_reducible refine z_gcons ?_
  | with_reducible refine z_gnil ?_
  | ((with_reducible refine' z_up ?h ?hm ?_); (case h => walk_at "sq"); (case hm => exact rfl))
  | ((with_reducible refine' z_gT ?h ?hm ?_); (case h => walk_at "sq"); (case hm => exact rfl))
  | with_reducible refine z_isII ?_
  | with_reducible refine z_isNN ?_
  | with_reducible refine z_isNR ?_
  | with_reducible refine z_notNN ?_
  | with_reducible refine z_notNR ?_
  | with_reducible refine z_isIB ?_
  | with_reducible refine z_isBB ?_
  | ((with_reducible refine' z_isT ?h ?_); (case h => walk_at "sq"))
  | ((with_reducible refine' z_isLL ?h ?_); case h => assumption)
  | ((with_reducible refine z_newT ?h ?_); case h => exact Nat.le_of_ble_eq_true rfl)
  | ((with_reducible refine z_newL ?h ?_); case h => exact Nat.le_of_ble_eq_true rfl)
  | ((with_reducible refine' z_ixL ?h ?h2 ?_); (case h => walk_at "sq"); (case h2 => exact rfl))
  | ((with_reducible refine' z_ixT ?h ?h2 ?_); (case h => walk_at "sq"); (case h2 => exact rfl))
  | ((with_reducible refine' z_lenL ?h ?_); case h => walk_at "sq")
  | ((with_reducible refine' z_lenT ?h ?_); case h => walk_at "sq")
  | ((with_reducible refine z_ifYes ?h ?_); (case h => exact rfl))
  | ((with_reducible refine z_ifNo ?h ?_); (case h => exact rfl)))
local macro_rules | `(tactic| walk_at "sq") => `(tactic| first | assumption | exact Or.inl (Or.inl (by assumption)) | exact Or.inl (Or.inl upd_same))
local macro_rules | `(tactic| walk_at "z") => `(tactic| repeat (walk_at "z1"))
/-! ### promises -/
def sp__law_cell (K : PySem.W.Frag) : Sp := fun vs H Q _ => ∃ (l : Addr) (ns : List Int) (j : Nat), vs = [.ref l, .int (j : Int)] ∧ SqL K H l (ns.map V.int) ∧ ∀ v, Q (.int v) H
/-- a stream: three ints, whatever they are -/
def IsStm (H : Hp) (p : Addr) : Prop := ∃ a b m : Int, H p = some (.lst [.int a, .int b, .int m])
def sp__law_stream : Sp := fun vs H Q _ => ∃ c : Int, vs = [.int c] ∧ ∀ p H' a b m, H p = none → Same H H' → H' p = some (.lst [.int a, .int b, .int m]) → Q (.ref p) H'
def sp__law_next : Sp := fun vs H Q _ => ∃ (p : Addr) (z : Int), vs = [.ref p, .int z] ∧ IsStm H p ∧ 0 < z ∧ z.natAbs < 2 ^ 1000 ∧ ∀ v a b m, 0 ≤ v → v < z → Q (.int v) (upd H p (.lst [.int a, .int b, .int m]))
section
theorem ok__law_cell {P : Program} {w : World} {K : PySem.W.Frag} {mg : Str → Option Value} {base : Heap} {A : Nat → Addr} {D : Nat → FuncData} (T : Txt K mg A D base) : FnOk P w K mg base (L2.CX P w) 1 (A 26) (D 26) ["script", "k"] (sp__law_cell K) := by
  refine T.F__law_cell.okX sc__law_cell (fun vs H Q E h => ?_) (fun cdv A' outer s H vs Q E hr h => ?_)
  · obtain ⟨l, ns, j, rfl, _⟩ := h
    rfl
  obtain ⟨l, ns, j, rfl, hS, q⟩ := h
  refine ⟨_, (pss_cons (ps_if (pt_cmpR op_lt (pv 1) (pe_callB Z.c_len (by rfl) T.z_len (by decide +kernel) (pa_cons (pv 0) pa_nil)) (nomark _))
  (pss_one (ps_ret (pe_ix ix_list (pv 0) (pv 1) (fun _ _ => rfl))))
  pss_nil)
  (pss_one (ps_ret pe_int))), ?_⟩
  walk_at "z"
  refine z_if (fun hj => ?_) (fun _ => ?_)
  · walk_at "z"
    rw [List.length_map] at hj
    have hj' : j < ns.length := by omega
    refine z_ixL hS (v := .int ns[j]) (atI_nat (by rw [List.getElem?_map, List.getElem?_eq_getElem hj']; rfl)) (q _)
  · walk_at "z"
    exact q 0
theorem ok__law_stream {P : Program} {w : World} {K : PySem.W.Frag} {mg : Str → Option Value} {base : Heap} {A : Nat → Addr} {D : Nat → FuncData} (T : Txt K mg A D base) : FnOk P w K mg base (L2.CX P w) 1 (A 27) (D 27) ["cell"] sp__law_stream := by
  refine T.F__law_stream.okX sc__law_stream (fun vs H Q E h => ?_) (fun cdv A' outer s H vs Q E hr h => ?_)
  · obtain ⟨c, rfl, _⟩ := h
    rfl
  obtain ⟨c, rfl, q⟩ := h
  refine ⟨_, (pss_cons (ps_if (pt_cmpR op_ge (pv 0) (Z.pe_powc (v := 1000000000000000000) ⟨by decide, by decide, by decide⟩ (by decide)) (nomark _))
  (pss_one (ps_ret (pe_lst (pa_cons (pv 0) (pa_cons pe_int (pa_cons (pe_op op_mod (pe_callTy Z.c_int (by rfl) T.z_int (by decide +kernel) (pa_cons (pv 0) pa_nil)) pe_int) pa_nil))))))
  pss_nil)
  (pss_one (ps_ret (pe_lst (pa_cons pe_int (pa_cons pe_int (pa_cons (pe_op op_mod (pe_callTy Z.c_int (by rfl) T.z_int (by decide +kernel) (pa_cons (pv 0) pa_nil)) pe_int) pa_nil))))))), ?_⟩
  walk_at "z"
  refine z_if (fun hj => ?_) (fun _ => ?_)
  · walk_at "z"
    exact fun p H' hp s h => q p H' _ _ _ hp s h
  · walk_at "z"
    exact fun p H' hp s h => q p H' _ _ _ hp s h
theorem ok__law_next {P : Program} {w : World} {K : PySem.W.Frag} {mg : Str → Option Value} {base : Heap} {A : Nat → Addr} {D : Nat → FuncData} (T : Txt K mg A D base) : FnOk P w K mg base (L2.CX P w) 1 (A 28) (D 28) ["stream", "size"] sp__law_next := by
  refine T.F__law_next.okX sc__law_next (fun vs H Q E h => ?_) (fun cdv A' outer s H vs Q E hr h => ?_)
  · obtain ⟨p, z, rfl, _⟩ := h
    rfl
  obtain ⟨p, z, rfl, ⟨a, b, m, hp⟩, hz, hz2, q⟩ := h
  refine ⟨_, (pss_cons (ps_if (pt_cmpR op_gt (pe_ix ix_list (pv 0) pe_int (fun _ _ => rfl)) pe_int (nomark _))
  (pss_cons (ps_set (i := 2) sc__law_next.nd rfl (.inl rfl) (pe_op op_mod (pe_callTy Z.c_int (by rfl) T.z_int (by decide +kernel) (pa_cons (pe_ix ix_list (pv 0) pe_int (fun _ _ => rfl)) pa_nil)) (pv 1)))
  (pss_cons (ps_asg (pe_op op_fdivW (pe_ix ix_list (pv 0) pe_int (fun _ _ => rfl)) (pv 1)) (pg_sub (pv 0) pe_int set_list))
  (pss_one (ps_ret (pv 2)))))
  pss_nil)
  (pss_cons (ps_asg (pe_op op_add (pe_ix ix_list (pv 0) pe_int (fun _ _ => rfl)) pe_int) (pg_sub (pv 0) pe_int set_list))
  (pss_cons (ps_set (i := 3) sc__law_next.nd rfl (.inl rfl) (pe_op op_mod (pe_callTy Z.c_int (by rfl) T.z_int (by decide +kernel) (pa_cons (pe_op op_add (pe_op op_mul (pe_ix ix_list (pv 0) pe_int (fun _ _ => rfl)) pe_int) (pe_op op_mul (pe_ix ix_list (pv 0) pe_int (fun _ _ => rfl)) pe_int)) pa_nil)) pe_int))
  (pss_cons (ps_set (i := 3) sc__law_next.nd rfl (.inl rfl) (pe_op op_mod (pe_callTy Z.c_int (by rfl) T.z_int (by decide +kernel) (pa_cons (pe_op op_add (pe_op op_mulW (pv 3) (pv 3)) (pe_op op_mul (pe_ix ix_list (pv 0) pe_int (fun _ _ => rfl)) pe_int)) pa_nil)) pe_int))
  (pss_cons (ps_set (i := 3) sc__law_next.nd rfl (.inl rfl) (pe_op op_mod (pe_callTy Z.c_int (by rfl) T.z_int (by decide +kernel) (pa_cons (pe_op op_add (pe_op op_mul (pv 3) pe_int) (pe_ix ix_list (pv 0) pe_int (fun _ _ => rfl))) pa_nil)) pe_int))
  (pss_one (ps_ret (pe_op op_mod (pe_callTy Z.c_int (by rfl) T.z_int (by decide +kernel) (pa_cons (pv 3) pa_nil)) (pv 1))))))))), ?_⟩
  walk_at "z"
  refine z_if (fun hj => ?_) (fun _ => ?_)
  · walk_at "z"
    refine z_I (wide_div hz hz2 (by decide) (by decide)) ?_
    walk_at "z"
    refine z_setL hp rfl ?_
    walk_at "z"
    exact q _ _ _ _ (Int.emod_nonneg _ (by omega)) (Int.emod_lt_of_pos _ hz)
  · walk_at "z"
    refine z_setL hp rfl ?_
    have hp1 : (upd H p (HO.lst ([V.int a, V.int b, V.int m].set (Int.toNat 1) (V.int (b + 1))))) p = some (.lst [V.int a, V.int (b + 1), V.int m]) := upd_same
    walk_at "z"
    refine z_I ?_ ?_
    · exact wide_mul (a := 32) (b := 32) (by omega) (by omega) (by decide) (by decide) (by decide)
    walk_at "z"
    exact q _ _ _ _ (Int.emod_nonneg _ (by omega)) (Int.emod_lt_of_pos _ hz)
end

/-! ### numbers in lowest terms -/
theorem gd_pos {n d : Int} (h : d ≠ 0) : 0 < gd n d := by
  unfold gd
  have : 0 < Nat.gcd n.natAbs d.natAbs := Nat.gcd_pos_of_pos_right _ (by omega)
  omega
theorem gd_dvd_l (n d : Int) : gd n d ∣ n := by
  unfold gd
  exact Int.dvd_trans (Int.natCast_dvd_natCast.mpr (Nat.gcd_dvd_left _ _)) (Int.natAbs_dvd_self)
theorem gd_dvd_r (n d : Int) : gd n d ∣ d := by
  unfold gd
  exact Int.dvd_trans (Int.natCast_dvd_natCast.mpr (Nat.gcd_dvd_right _ _)) (Int.natAbs_dvd_self)
theorem rd_pos {n d : Int} (h : d ≠ 0) : 0 < rd n d := by
  have g := gd_pos (n := n) h
  obtain ⟨k, hk⟩ := gd_dvd_r n d
  unfold rd
  split
  · rename_i hd
    have e : -d = gd n d * (-k) := by rw [Int.mul_neg, ← hk]
    rw [e, Int.mul_ediv_cancel_left _ (by omega)]
    have : ¬ 0 ≤ k := fun z => by have := Int.mul_nonneg (Int.le_of_lt g) z; omega
    omega
  · rename_i hd
    have e : d / gd n d = k := Int.ediv_eq_of_eq_mul_right (by omega) hk
    rw [e]
    have : ¬ k ≤ 0 := fun z => by have := Int.mul_nonpos_of_nonneg_of_nonpos (Int.le_of_lt g) z; omega
    omega
/-- what the program divides: by the negative of the common divisor where d is negative -/
theorem fdiv_neg {n g : Int} (hg : 0 < g) (h : g ∣ n) : Int.fdiv n (-g) = -n / g := by
  obtain ⟨k, rfl⟩ := h
  rw [show g * k = (-g) * (-k) by rw [Int.neg_mul_neg], Int.mul_fdiv_cancel_left _ (by omega), Int.neg_mul_neg, show -(g * k) = g * (-k) by rw [Int.mul_neg], Int.mul_ediv_cancel_left _ (by omega)]
theorem fdiv_pos {n g : Int} (hg : 0 < g) : Int.fdiv n g = n / g := Int.fdiv_eq_ediv_of_nonneg _ (by omega)
theorem gd_log {n d : Int} {k : Nat} (h : d ≠ 0) (hd : d.natAbs < 2 ^ k) : (gd n d).natAbs < 2 ^ k := by
  have : Nat.gcd n.natAbs d.natAbs ≤ d.natAbs := Nat.gcd_le_right _ (by omega)
  unfold gd
  omega
theorem cfd {j : Int} (h : j ≠ 0) (hj : j.natAbs < 2 ^ 1000) : CFd 0 j := ⟨h, Nat.lt_of_lt_of_le (PySem.Flt.log2_lt_of (by decide) hj) (by decide)⟩
theorem lt4 {a : Nat} (h : a < 2 ^ 400) : a < 2 ^ 1000 := Nat.lt_of_lt_of_le h (Nat.pow_le_pow_right (by decide) (by decide))
theorem lt1000 {a : Nat} (h : a < 2 ^ 100) : a < 2 ^ 1000 := Nat.lt_of_lt_of_le h (Nat.pow_le_pow_right (by decide) (by decide))
/-! ### ratio -/
/-- a value that stands for d is handed back -/
def RetD (K : PySem.W.Frag) (H : Hp) (d : PyData) (Q : VK) : Prop := ∀ v H', Same H H' → Dp K H' v d → Q v H'
def OutQ (K : PySem.W.Frag) (A : Nat → Addr) (r : Rat) (H : Hp) (Q : VK) (E : XK) : Prop := (¬ fitsQ r → E (.ref (A 1)) none H) ∧ (fitsQ r → RetD K H (qD r) Q)
def sp_ratio (K : PySem.W.Frag) (A : Nat → Addr) : Sp := fun vs H Q E => ∃ n d : Int, vs = [.int n, .int d] ∧ n.natAbs < 2 ^ 1000 ∧ d.natAbs < 2 ^ 1000 ∧ (d = 0 → E (.ref (A 2)) none H) ∧ (d ≠ 0 → OutQ K A (Rat.divInt n d) H Q E)
theorem fits_q {n d : Int} (h : d ≠ 0) : fitsQ (Rat.divInt n d) ↔ (-lim ≤ rn n d ∧ rn n d ≤ lim ∧ rd n d ≤ lim) := by
  rw [rn_q h, rd_q h]
  rfl
section
theorem ok_ratio {P : Program} {w : World} {K : PySem.W.Frag} {mg : Str → Option Value} {base : Heap} {A : Nat → Addr} {D : Nat → FuncData} (T : Txt K mg A D base) : FnOk P w K mg base (L2.CX P w) 1 (A 4) (D 4) ["n", "d"] (sp_ratio K A) := by
  refine T.F_ratio.okX sc_ratio (fun vs H Q E h => ?_) (fun cdv A' outer s H vs Q E hr h => ?_)
  · obtain ⟨n, d, rfl, _⟩ := h
    rfl
  obtain ⟨n, d, rfl, hn, hd, k0, kO⟩ := h
  refine ⟨_, (pss_cons (ps_if (pt_cmpR op_eq (pv 1) pe_int (nomark _))
  (pss_one (ps_raise rfl (takes_of rfl rfl rfl rfl) (Z.pmk T.x_DivisionByZero (by rfl))))
  pss_nil)
  (pss_cons (ps_set (i := 2) sc_ratio.nd rfl (.inl rfl) (pe_callBfun cr_gcd (by rfl) T.l_gcd (pa_cons (pv 0) (pa_cons (pv 1) pa_nil))))
  (pss_cons (ps_if (pt_cmpR op_lt (pv 1) pe_int (nomark _))
  (pss_one (ps_set (i := 2) sc_ratio.nd rfl (.inl rfl) (pe_un un_neg (pv 2))))
  pss_nil)
  (pss_cons (ps_set (i := 3) sc_ratio.nd rfl (.inl rfl) (pe_op Z.op_fdivZ (pv 0) (pv 2)))
  (pss_cons (ps_set (i := 4) sc_ratio.nd rfl (.inl rfl) (pe_op Z.op_fdivZ (pv 1) (pv 2)))
  (pss_cons (ps_if (PW.pt (pw_or (pt_not (pt_chain op_le op_le (pe_un un_neg (Z.pe_globE T.c_LIMIT)) (pv 3) (Z.pe_globE T.c_LIMIT))) (pw_or1 (pt_cmpR op_gt (pv 4) (Z.pe_globE T.c_LIMIT) (nomark _)))))
  (pss_one (ps_raise rfl (takes_of rfl rfl rfl rfl) (Z.pmk T.x_TooGreat (by rfl))))
  pss_nil)
  (pss_one (ps_ret (pe_tup (pa_cons (pv 3) (pa_cons (pv 4) pa_nil))))))))))), ?_⟩
  walk_at "z"
  refine z_if (fun h0 => k0 h0) (fun h0 => ?_)
  walk_at "z"
  have hg := gd_pos (n := n) h0
  have hgl := gd_log (n := n) h0 hd
  have end1 : ¬ (-lim ≤ rn n d ∧ rn n d ≤ lim ∧ rd n d ≤ lim) → E (.ref (A 1)) none H := fun f => (kO h0).1 fun z => f ((fits_q h0).mp z)
  have end2 : (-lim ≤ rn n d ∧ rn n d ≤ lim ∧ rd n d ≤ lim) → ∀ p H', Same H H' → H' p = some (.tup [.int (rn n d), .int (rd n d)]) → Q (.ref p) H' := fun f p H' s h => (kO h0).2 ((fits_q h0).mpr f) (.ref p) H' s (dp_mkq (by rw [← rn_q h0, ← rd_q h0]; exact h))
  refine z_if (fun hd0 => ?_) (fun hd0 => ?_)
  · have e1 : Int.fdiv n (-((Nat.gcd n.natAbs d.natAbs : Nat) : Int)) = rn n d := by
      show Int.fdiv n (-gd n d) = rn n d
      rw [fdiv_neg hg (gd_dvd_l n d)]
      unfold rn
      rw [if_pos hd0]
    have e2 : Int.fdiv d (-((Nat.gcd n.natAbs d.natAbs : Nat) : Int)) = rd n d := by
      show Int.fdiv d (-gd n d) = rd n d
      rw [fdiv_neg hg (gd_dvd_r n d)]
      unfold rd
      rw [if_pos hd0]
    walk_at "z"
    refine z_I (show CFd _ (-gd n d) from cfd (by omega) (by omega)) ?_
    rw [e1]
    walk_at "z"
    refine z_I (show CFd _ (-gd n d) from cfd (by omega) (by omega)) ?_
    rw [e2]
    walk_at "z"
    refine z_if (fun c1 => ?_) (fun c1 => ?_)
    · walk_at "z"
      refine z_ifN (fun c2 => ?_) (fun c2 => ?_)
      · walk_at "z"
        exact end1 fun f => c2 f.2.1
      · walk_at "z"
        refine z_if (fun c3 => ?_) (fun c3 => ?_)
        · exact end1 fun f => by have := f.2.2; unfold lim at this; omega
        · walk_at "z"
          exact fun p H' _ s h => end2 ⟨c1, c2, by unfold lim; omega⟩ p H' s h
    · walk_at "z"
      exact end1 fun f => c1 f.1
  · have e1 : Int.fdiv n (((Nat.gcd n.natAbs d.natAbs : Nat) : Int)) = rn n d := by
      show Int.fdiv n (gd n d) = rn n d
      rw [fdiv_pos hg]
      unfold rn
      rw [if_neg hd0]
    have e2 : Int.fdiv d (((Nat.gcd n.natAbs d.natAbs : Nat) : Int)) = rd n d := by
      show Int.fdiv d (gd n d) = rd n d
      rw [fdiv_pos hg]
      unfold rd
      rw [if_neg hd0]
    walk_at "z"
    refine z_I (show CFd _ (gd n d) from cfd (by omega) (by omega)) ?_
    rw [e1]
    walk_at "z"
    refine z_I (show CFd _ (gd n d) from cfd (by omega) (by omega)) ?_
    rw [e2]
    walk_at "z"
    refine z_if (fun c1 => ?_) (fun c1 => ?_)
    · walk_at "z"
      refine z_ifN (fun c2 => ?_) (fun c2 => ?_)
      · walk_at "z"
        exact end1 fun f => c2 f.2.1
      · walk_at "z"
        refine z_if (fun c3 => ?_) (fun c3 => ?_)
        · exact end1 fun f => by have := f.2.2; unfold lim at this; omega
        · walk_at "z"
          exact fun p H' _ s h => end2 ⟨c1, c2, by unfold lim; omega⟩ p H' s h
    · walk_at "z"
      exact end1 fun f => c1 f.1
end

/-! ### the law's own Euclid -/
structure Eu (M : Nat) (G i a b : Nat) : Prop where
  g : Nat.gcd a b = G
  o : (i = 0 ∧ a * b = M) ∨ (b < a ∧ a * b * 2 ^ i ≤ 2 * M)
theorem Eu.start {a b : Nat} : Eu (a * b) (Nat.gcd a b) 0 a b := ⟨rfl, .inl ⟨rfl, rfl⟩⟩
theorem Eu.next {M G i a b : Nat} (h : Eu M G i a b) (hb : b ≠ 0) : Eu M G (i + 1) b (a % b) := by
  have hlt : a % b < b := Nat.mod_lt _ (by omega)
  refine ⟨?_, .inr ⟨hlt, ?_⟩⟩
  · rw [← h.g, Nat.gcd_comm a b, Nat.gcd_comm b (a % b)]
    exact (Nat.gcd_rec b a).symm
  · have hm : a * b * 2 ^ i ≤ 2 * M := by
      rcases h.o with ⟨z, w⟩ | ⟨_, w⟩
      · subst z
        rw [w]
        omega
      · exact w
    by_cases hab : a < b
    · have e : a % b = a := Nat.mod_eq_of_lt hab
      have hi : i = 0 ∧ a * b = M := by
        rcases h.o with z | z
        · exact z
        · omega
      obtain ⟨rfl, w⟩ := hi
      rw [e, Nat.mul_comm b a, w]
      omega
    · have h2 : 2 * (a % b) ≤ a := by
        have h3 : a % b ≤ a - b := by
          rw [Nat.mod_eq_sub_mod (by omega)]
          exact Nat.mod_le _ _
        omega
      have h4 : b * (a % b) * 2 ≤ a * b := by
        rw [Nat.mul_assoc, Nat.mul_comm (a % b) 2, Nat.mul_comm a b]
        exact Nat.mul_le_mul_left b h2
      calc b * (a % b) * 2 ^ (i + 1) = (b * (a % b) * 2) * 2 ^ i := by rw [Nat.pow_succ, Nat.mul_comm (2 ^ i) 2, ← Nat.mul_assoc]
        _ ≤ (a * b) * 2 ^ i := Nat.mul_le_mul_right _ h4
        _ ≤ 2 * M := hm
set_option exponentiation.threshold 2000 in
theorem Eu.zero {G a b x y : Nat} (h : Eu (x * y) G 1000 a b) (hx : x < 2 ^ 400) (hy : y < 2 ^ 400) : b = 0 := by
  have h1 : x * y < 2 ^ 400 * 2 ^ 400 := Nat.mul_lt_mul'' hx hy
  rcases h.o with ⟨z, _⟩ | ⟨w, h2⟩
  · omega
  have h3 : a * b = 0 := by
    rcases Nat.eq_zero_or_pos (a * b) with z | z
    · exact z
    · have : 2 ^ 1000 ≤ a * b * 2 ^ 1000 := Nat.le_mul_of_pos_left _ z
      have e : 2 * (2 ^ 400 * 2 ^ 400) < 2 ^ 1000 := by decide
      omega
  rcases Nat.mul_eq_zero.mp h3 with z | z
  · omega
  · exact z
def sp__law_ratio (K : PySem.W.Frag) : Sp := fun vs H Q _ => ∃ n d : Int, vs = [.int n, .int d] ∧ d ≠ 0 ∧ n.natAbs < 2 ^ 400 ∧ d.natAbs < 2 ^ 400 ∧ RetD K H (qD (Rat.divInt n d)) Q
theorem abs_eq (n : Int) : (if n < 0 then -n else n) = (n.natAbs : Int) := by
  split <;> omega
section
theorem ok__law_ratio {P : Program} {w : World} {K : PySem.W.Frag} {mg : Str → Option Value} {base : Heap} {A : Nat → Addr} {D : Nat → FuncData} (T : Txt K mg A D base) : FnOk P w K mg base (L2.CX P w) 1 (A 29) (D 29) ["n", "d"] (sp__law_ratio K) := by
  refine T.F__law_ratio.okX sc__law_ratio (fun vs H Q E h => ?_) (fun cdv A' outer s H vs Q E hr h => ?_)
  · obtain ⟨n, d, rfl, _⟩ := h
    rfl
  obtain ⟨n, d, rfl, h0, hn, hd, q⟩ := h
  refine ⟨_, (pss_cons (ps_set (i := 2) sc__law_ratio.nd rfl (.inl rfl) (pe_callB Z.c_abs (by rfl) T.z_abs (by decide +kernel) (pa_cons (pv 0) pa_nil)))
  (pss_cons (ps_set (i := 3) sc__law_ratio.nd rfl (.inl rfl) (pe_callB Z.c_abs (by rfl) T.z_abs (by decide +kernel) (pa_cons (pv 1) pa_nil)))
  (pss_cons (ps_for (passes_of rfl) rfl (pi_range1 (by rfl) T.z_range (pa_cons pe_int pa_nil)) (pg_name (i := 4) sc__law_ratio.nd rfl (.inl rfl))
  (pss_cons (ps_if (pt_cmpR op_eq (pv 3) pe_int (nomark _))
  (pss_one ps_break)
  pss_nil)
  (pss_one (ps_par (i := 2) (j := 3) (by rfl) sc__law_ratio.nd rfl rfl (by decide) rfl rfl (pa_cons (pv 3) (pa_cons (pe_op op_mod (pe_callTy Z.c_int (by rfl) T.z_int (by decide +kernel) (pa_cons (pv 2) pa_nil)) (pv 3)) pa_nil)) (by rfl)))))
  (pss_cons (ps_if (pt_cmpR op_lt (pv 1) pe_int (nomark _))
  (pss_one (ps_set (i := 0) sc__law_ratio.nd rfl (.inl rfl) (pe_op op_sub pe_int (pv 0))))
  pss_nil)
  (pss_one (ps_ret (pe_tup (pa_cons (pe_op op_fdivW (pv 0) (pv 2)) (pa_cons (pe_op op_fdivW (pe_callB Z.c_abs (by rfl) T.z_abs (by decide +kernel) (pa_cons (pv 1) pa_nil)) (pv 2)) pa_nil))))))))), ?_⟩
  walk_at "z"
  rw [abs_eq, abs_eq]
  have fin : ∀ (σ' : L2.St) (kv : Option V), σ' = [some (.int n), some (.int d), some (.int (gd n d)), some (.int 0), kv] →
      (tSeq (tIfS (tTest (tOp (rI0 fun i j => V.bl (decide (i < j))) (tVar 1) (tC (V.int 0)))) (tAsg (tOp (rI0 fun i j => V.int (i - j)) (tC (V.int 0)) (tVar 0)) (gName 0)) tNext)
          (tRet (tTup (tCons (tOp (rI CDivW fun i j => V.int (i / j)) (tVar 0) (tVar 2)) (tCons (tOp (rI CDivW fun i j => V.int (i / j)) (tCB rAbs (tCons (tVar 1) tNil)) (tVar 2)) tNil))))
          { nx := fun x H' => Q V.non H', rt := Q }) σ' H := by
    rintro σ' kv rfl
    have hg := gd_pos (n := n) h0
    have hgl := gd_log (n := n) h0 hd
    walk_at "z"
    refine z_if (fun c => ?_) (fun c => ?_)
    · walk_at "z"
      refine z_I (wide_div hg hgl (by decide) (by decide)) ?_
      walk_at "z"
      refine z_I (wide_div hg hgl (by decide) (by decide)) ?_
      walk_at "z"
      have e1 : (0 - n) / gd n d = rn n d := by
        unfold rn
        rw [if_pos c, Int.zero_sub]
      have e2 : (if d < 0 then -d else d) / gd n d = rd n d := rfl
      rw [e1, e2]
      exact fun p H' _ s h => q (.ref p) H' s (dp_mkq (by rw [← rn_q h0, ← rd_q h0]; exact h))
    · walk_at "z"
      refine z_I (wide_div hg hgl (by decide) (by decide)) ?_
      walk_at "z"
      refine z_I (wide_div hg hgl (by decide) (by decide)) ?_
      walk_at "z"
      have e1 : n / gd n d = rn n d := by
        unfold rn
        rw [if_neg c]
      have e2 : (if d < 0 then -d else d) / gd n d = rd n d := rfl
      rw [e1, e2]
      exact fun p H' _ s h => q (.ref p) H' s (dp_mkq (by rw [← rn_q h0, ← rd_q h0]; exact h))
  refine z_forR1 1000 (by decide) (fun R q => by walk_at "z"; exact q) (fun i σ' H' => H' = H ∧ ∃ (a b : Nat) (kv : Option V), σ' = [some (.int n), some (.int d), some (.int (a : Int)), some (.int (b : Int)), kv] ∧ Eu (n.natAbs * d.natAbs) (Nat.gcd n.natAbs d.natAbs) i a b)
    ⟨rfl, _, _, _, rfl, Eu.start⟩ ?_ ?_
  · rintro i σ' H' hi ⟨rfl, a, b, kv, rfl, eu⟩
    walk_at "z"
    refine z_if (fun c => ?_) (fun c => ?_)
    · walk_at "z1"
      have hb : b = 0 := by omega
      subst hb
      have ha : a = Nat.gcd n.natAbs d.natAbs := by rw [← eu.g, Nat.gcd_zero_right]
      subst ha
      exact fin _ _ rfl
    · walk_at "z"
      refine ⟨rfl, b, a % b, some (.int (i : Int)), ?_, eu.next (by omega)⟩
      rw [Int.natCast_emod]
      rfl
  · rintro σ' H' ⟨rfl, a, b, kv, rfl, eu⟩
    have hb := eu.zero hn hd
    subst hb
    have ha : a = Nat.gcd n.natAbs d.natAbs := by rw [← eu.g, Nat.gcd_zero_right]
    subst ha
    exact fin _ _ rfl
end


/-! ### the draws of a law: the heap H0 stands, a stream stands at p -/
structure Sd (H0 H : Hp) (p : Addr) : Prop where
  same : Same H0 H
  fresh : H0 p = none
  stm : IsStm H p
theorem Sd.mk0 {H H' : Hp} {p : Addr} {a b m : Int} (h : H p = none) (s : Same H H') (e : H' p = some (.lst [.int a, .int b, .int m])) : Sd H H' p := ⟨s, h, a, b, m, e⟩
theorem Sd.mono {H0 H H' : Hp} {p : Addr} (S : Sd H0 H p) (s : Same H H') : Sd H0 H' p := by
  obtain ⟨a, b, m, e⟩ := S.stm
  exact ⟨S.same.trans s, S.fresh, a, b, m, s _ _ e⟩
theorem nx {H0 H : Hp} {p : Addr} {z : Int} {Q : VK} {E : XK} (S : Sd H0 H p) (hz : 0 < z) (hz2 : z.natAbs < 2 ^ 1000) (q : ∀ v H', 0 ≤ v → v < z → Sd H0 H' p → (∀ b, b ≠ p → H' b = H b) → Q (.int v) H') : sp__law_next [.ref p, .int z] H Q E := by
  refine ⟨p, z, rfl, S.stm, hz, hz2, fun v a b m h0 h1 => q v _ h0 h1 ⟨fun c o e => ?_, S.fresh, a, b, m, upd_same⟩ fun b hb => upd_ne hb⟩
  rw [upd_ne (ne_of_none e S.fresh)]
  exact S.same c o e
theorem Sd.ext {H0 H : Hp} {p q : Addr} {o : HO} (S : Sd H0 H p) (h : H q = none) : Sd H0 (upd H q o) p := by
  obtain ⟨a, b, m, hp⟩ := S.stm
  exact ⟨S.same.trans (same_upd h), S.fresh, a, b, m, by rw [upd_ne (ne_of_none hp h)]; exact hp⟩
theorem kp_refl {p : Addr} {H : Hp} : Kp p H H := fun _ _ _ e => e
theorem _root_.Z.Kp.trans' {p : Addr} {H H1 H2 : Hp} (a : Kp p H H1) (b : Kp p H1 H2) : Kp p H H2 := fun c o h e => b c o h (a c o h e)
theorem kp_eq {p : Addr} {H H' : Hp} (k : ∀ b, b ≠ p → H' b = H b) : Kp p H H' := fun b o h e => by
  rw [k b h]
  exact e
theorem kp_of {p : Addr} {H H' : Hp} (s : Same H H') : Kp p H H' := fun b x _ e => s b x e
theorem Sd.ne {H0 H : Hp} {p q : Addr} {xs : List V} (S : Sd H0 H p) (h : H q = some (.tup xs)) : q ≠ p := by
  obtain ⟨_, _, _, e⟩ := S.stm
  exact ne_of h e (by intro z; cases z)
theorem Sd.ne0 {H0 H : Hp} {p q : Addr} (S : Sd H0 H p) (h : H q = none) : q ≠ p := by
  obtain ⟨_, _, _, e⟩ := S.stm
  exact Ne.symm (ne_of_none e h)
theorem lt400 {a : Nat} (h : a < 2 ^ 100) : a < 2 ^ 400 := Nat.lt_of_lt_of_le h (Nat.pow_le_pow_right (by decide) (by decide))
theorem kp_sd {H0 H H' : Hp} {p : Addr} {K : PySem.W.Frag} {v : V} {d : PyData} (S : Sd H0 H p) (k : Kp p H H') (t : tupOnly d = true) (h : Dp K H v d) : Dp K H' v d := by
  obtain ⟨a, b, m, e⟩ := S.stm
  exact dp_kp k e t h
/-! ### the four operations, and comparing -/
def Bg (r : Rat) : Prop := r.num.natAbs < 2 ^ 200 ∧ r.den < 2 ^ 200
theorem _root_.Z.Bd.bg {r : Rat} {p q : Nat} (h : Bd r p q) (h1 : p < 2 ^ 200) (h2 : q < 2 ^ 200) : Bg r := ⟨Nat.lt_of_le_of_lt h.1 h1, Nat.lt_of_le_of_lt h.2 h2⟩
theorem fits_bg {r : Rat} (h : fitsQ r) : Bg r := by
  unfold fitsQ lim at h
  unfold Bg
  omega
theorem mul600 {a b : Int} (ha : a.natAbs < 2 ^ 200) (hb : b.natAbs < 2 ^ 200) : (a * b).natAbs < 2 ^ 400 := wide_lt ha hb
theorem add600 {a b : Int} (ha : a.natAbs < 2 ^ 400) (hb : b.natAbs < 2 ^ 400) : (a + b).natAbs < 2 ^ 1000 := by
  have h1 : (a + b).natAbs ≤ a.natAbs + b.natAbs := Int.natAbs_add_le a b
  have h2 : (2 : Nat) ^ 400 + 2 ^ 400 ≤ 2 ^ 1000 := by
    rw [show (2 : Nat) ^ 400 + 2 ^ 400 = 2 ^ 401 by rw [← Nat.two_mul, ← Nat.pow_succ']]
    exact Nat.pow_le_pow_right (by decide) (by decide)
  omega
theorem sub600 {a b : Int} (ha : a.natAbs < 2 ^ 400) (hb : b.natAbs < 2 ^ 400) : (a - b).natAbs < 2 ^ 1000 := by
  rw [Int.sub_eq_add_neg]
  exact add600 ha (by rw [Int.natAbs_neg]; exact hb)
theorem nat200 {n : Nat} (h : n < 2 ^ 200) : ((n : Int)).natAbs < 2 ^ 200 := by omega
def sp_op (K : PySem.W.Frag) (A : Nat → Addr) (f : Rat → Rat → Rat) : Sp := fun vs H Q E => ∃ (v w : V) (a b : Rat), vs = [v, w] ∧ Dp K H v (qD a) ∧ Dp K H w (qD b) ∧ Bg a ∧ Bg b ∧ OutQ K A (f a b) H Q E
def sp_divide (K : PySem.W.Frag) (A : Nat → Addr) : Sp := fun vs H Q E => ∃ (v w : V) (a b : Rat), vs = [v, w] ∧ Dp K H v (qD a) ∧ Dp K H w (qD b) ∧ Bg a ∧ Bg b ∧ (b = 0 → E (.ref (A 2)) none H) ∧ (b ≠ 0 → OutQ K A (a / b) H Q E)
theorem rat_use {K : PySem.W.Frag} {A : Nat → Addr} {n d : Int} {H : Hp} {Q : VK} {E : XK} (hn : n.natAbs < 2 ^ 1000) (hd : d.natAbs < 2 ^ 1000) (h0 : d ≠ 0) (k : OutQ K A (Rat.divInt n d) H Q E) : sp_ratio K A [.int n, .int d] H Q E := ⟨n, d, rfl, hn, hd, fun z => absurd z h0, fun _ => k⟩
def cmpQ (a b : Rat) : Int := if a < b then -1 else if b < a then 1 else 0
def sp_compare (K : PySem.W.Frag) : Sp := fun vs H Q _ => ∃ (v w : V) (a b : Rat), vs = [v, w] ∧ Dp K H v (qD a) ∧ Dp K H w (qD b) ∧ Bg a ∧ Bg b ∧ Q (.int (cmpQ a b)) H

section
theorem ok_add {P : Program} {w : World} {K : PySem.W.Frag} {mg : Str → Option Value} {base : Heap} {A : Nat → Addr} {D : Nat → FuncData} (T : Txt K mg A D base) : FnOk P w K mg base (L2.CX P w) 2 (A 5) (D 5) ["a", "b"] (sp_op K A (· + ·)) := by
  refine T.F_add.okX sc_add (fun vs H Q E h => ?_) (fun cdv A' outer s H vs Q E hr h => ?_)
  · obtain ⟨v, w', a, b, rfl, _⟩ := h
    rfl
  obtain ⟨_, _, a, b, rfl, ha, hb, ga, gb, q⟩ := h
  obtain ⟨p, rfl, hp⟩ := dp_q ha
  obtain ⟨p2, rfl, hp2⟩ := dp_q hb
  refine ⟨_, (pss_one (ps_ret (pe_call (ok_ratio T) (hr.mono (by decide)) (by rfl) T.m_ratio T.F_ratio.kp T.b_ratio .nil (passes_call (takes_of rfl rfl rfl rfl) (fun _ _ _ _ h => h)) (pa_cons (pe_op op_add (pe_op op_mulW (pe_ix ix_tup (pv 0) pe_int (fun _ _ => rfl)) (pe_ix ix_tup (pv 1) pe_int (fun _ _ => rfl))) (pe_op op_mulW (pe_ix ix_tup (pv 1) pe_int (fun _ _ => rfl)) (pe_ix ix_tup (pv 0) pe_int (fun _ _ => rfl)))) (pa_cons (pe_op op_mulW (pe_ix ix_tup (pv 0) pe_int (fun _ _ => rfl)) (pe_ix ix_tup (pv 1) pe_int (fun _ _ => rfl))) pa_nil))))), ?_⟩
  walk_at "z"
  refine z_I (wide_mul ga.1 (nat200 gb.2) (by decide) (by decide) (by decide)) ?_
  walk_at "z"
  refine z_I (wide_mul gb.1 (nat200 ga.2) (by decide) (by decide) (by decide)) ?_
  walk_at "z"
  refine z_I (wide_mul (nat200 ga.2) (nat200 gb.2) (by decide) (by decide) (by decide)) ?_
  walk_at "z"
  have q : OutQ K A (a + b) H Q E := q
  rw [show a + b = _ from q_add a b] at q
  exact rat_use (add600 (mul600 ga.1 (nat200 gb.2)) (mul600 gb.1 (nat200 ga.2))) (lt4 (mul600 (nat200 ga.2) (nat200 gb.2))) (q_dd a b) q
end

section
theorem ok_subtract {P : Program} {w : World} {K : PySem.W.Frag} {mg : Str → Option Value} {base : Heap} {A : Nat → Addr} {D : Nat → FuncData} (T : Txt K mg A D base) : FnOk P w K mg base (L2.CX P w) 2 (A 6) (D 6) ["a", "b"] (sp_op K A (· - ·)) := by
  refine T.F_subtract.okX sc_subtract (fun vs H Q E h => ?_) (fun cdv A' outer s H vs Q E hr h => ?_)
  · obtain ⟨v, w', a, b, rfl, _⟩ := h
    rfl
  obtain ⟨_, _, a, b, rfl, ha, hb, ga, gb, q⟩ := h
  obtain ⟨p, rfl, hp⟩ := dp_q ha
  obtain ⟨p2, rfl, hp2⟩ := dp_q hb
  refine ⟨_, (pss_one (ps_ret (pe_call (ok_ratio T) (hr.mono (by decide)) (by rfl) T.m_ratio T.F_ratio.kp T.b_ratio .nil (passes_call (takes_of rfl rfl rfl rfl) (fun _ _ _ _ h => h)) (pa_cons (pe_op op_sub (pe_op op_mulW (pe_ix ix_tup (pv 0) pe_int (fun _ _ => rfl)) (pe_ix ix_tup (pv 1) pe_int (fun _ _ => rfl))) (pe_op op_mulW (pe_ix ix_tup (pv 1) pe_int (fun _ _ => rfl)) (pe_ix ix_tup (pv 0) pe_int (fun _ _ => rfl)))) (pa_cons (pe_op op_mulW (pe_ix ix_tup (pv 0) pe_int (fun _ _ => rfl)) (pe_ix ix_tup (pv 1) pe_int (fun _ _ => rfl))) pa_nil))))), ?_⟩
  walk_at "z"
  refine z_I (wide_mul ga.1 (nat200 gb.2) (by decide) (by decide) (by decide)) ?_
  walk_at "z"
  refine z_I (wide_mul gb.1 (nat200 ga.2) (by decide) (by decide) (by decide)) ?_
  walk_at "z"
  refine z_I (wide_mul (nat200 ga.2) (nat200 gb.2) (by decide) (by decide) (by decide)) ?_
  walk_at "z"
  have q : OutQ K A (a - b) H Q E := q
  rw [show a - b = _ from q_sub a b] at q
  exact rat_use (sub600 (mul600 ga.1 (nat200 gb.2)) (mul600 gb.1 (nat200 ga.2))) (lt4 (mul600 (nat200 ga.2) (nat200 gb.2))) (q_dd a b) q
end

section
theorem ok_multiply {P : Program} {w : World} {K : PySem.W.Frag} {mg : Str → Option Value} {base : Heap} {A : Nat → Addr} {D : Nat → FuncData} (T : Txt K mg A D base) : FnOk P w K mg base (L2.CX P w) 2 (A 7) (D 7) ["a", "b"] (sp_op K A (· * ·)) := by
  refine T.F_multiply.okX sc_multiply (fun vs H Q E h => ?_) (fun cdv A' outer s H vs Q E hr h => ?_)
  · obtain ⟨v, w', a, b, rfl, _⟩ := h
    rfl
  obtain ⟨_, _, a, b, rfl, ha, hb, ga, gb, q⟩ := h
  obtain ⟨p, rfl, hp⟩ := dp_q ha
  obtain ⟨p2, rfl, hp2⟩ := dp_q hb
  refine ⟨_, (pss_one (ps_ret (pe_call (ok_ratio T) (hr.mono (by decide)) (by rfl) T.m_ratio T.F_ratio.kp T.b_ratio .nil (passes_call (takes_of rfl rfl rfl rfl) (fun _ _ _ _ h => h)) (pa_cons (pe_op op_mulW (pe_ix ix_tup (pv 0) pe_int (fun _ _ => rfl)) (pe_ix ix_tup (pv 1) pe_int (fun _ _ => rfl))) (pa_cons (pe_op op_mulW (pe_ix ix_tup (pv 0) pe_int (fun _ _ => rfl)) (pe_ix ix_tup (pv 1) pe_int (fun _ _ => rfl))) pa_nil))))), ?_⟩
  walk_at "z"
  refine z_I (wide_mul ga.1 gb.1 (by decide) (by decide) (by decide)) ?_
  walk_at "z"
  refine z_I (wide_mul (nat200 ga.2) (nat200 gb.2) (by decide) (by decide) (by decide)) ?_
  walk_at "z"
  have q : OutQ K A (a * b) H Q E := q
  rw [show a * b = _ from q_mul a b] at q
  exact rat_use (lt4 (mul600 ga.1 gb.1)) (lt4 (mul600 (nat200 ga.2) (nat200 gb.2))) (q_dd a b) q
end

section
theorem ok_divide {P : Program} {w : World} {K : PySem.W.Frag} {mg : Str → Option Value} {base : Heap} {A : Nat → Addr} {D : Nat → FuncData} (T : Txt K mg A D base) : FnOk P w K mg base (L2.CX P w) 2 (A 8) (D 8) ["a", "b"] (sp_divide K A) := by
  refine T.F_divide.okX sc_divide (fun vs H Q E h => ?_) (fun cdv A' outer s H vs Q E hr h => ?_)
  · obtain ⟨v, w', a, b, rfl, _⟩ := h
    rfl
  obtain ⟨_, _, a, b, rfl, ha, hb, ga, gb, q0, q⟩ := h
  obtain ⟨p, rfl, hp⟩ := dp_q ha
  obtain ⟨p2, rfl, hp2⟩ := dp_q hb
  refine ⟨_, (pss_one (ps_ret (pe_call (ok_ratio T) (hr.mono (by decide)) (by rfl) T.m_ratio T.F_ratio.kp T.b_ratio .nil (passes_call (takes_of rfl rfl rfl rfl) (fun _ _ _ _ h => h)) (pa_cons (pe_op op_mulW (pe_ix ix_tup (pv 0) pe_int (fun _ _ => rfl)) (pe_ix ix_tup (pv 1) pe_int (fun _ _ => rfl))) (pa_cons (pe_op op_mulW (pe_ix ix_tup (pv 0) pe_int (fun _ _ => rfl)) (pe_ix ix_tup (pv 1) pe_int (fun _ _ => rfl))) pa_nil))))), ?_⟩
  walk_at "z"
  refine z_I (wide_mul ga.1 (nat200 gb.2) (by decide) (by decide) (by decide)) ?_
  walk_at "z"
  refine z_I (wide_mul (nat200 ga.2) gb.1 (by decide) (by decide) (by decide)) ?_
  walk_at "z"
  have hden := a.den_nz
  refine ⟨_, _, rfl, lt4 (mul600 ga.1 (nat200 gb.2)), lt4 (mul600 (nat200 ga.2) gb.1), fun z => q0 ?_, fun z => ?_⟩
  · rcases Int.mul_eq_zero.mp z with w | w
    · omega
    · exact Rat.num_eq_zero.mp w
  · have hb0 : b ≠ 0 := fun w => z (by rw [w]; simp)
    rw [← q_div a b hb0]
    exact q hb0
end

section
theorem ok_compare {P : Program} {w : World} {K : PySem.W.Frag} {mg : Str → Option Value} {base : Heap} {A : Nat → Addr} {D : Nat → FuncData} (T : Txt K mg A D base) : FnOk P w K mg base (L2.CX P w) 1 (A 9) (D 9) ["a", "b"] (sp_compare K) := by
  refine T.F_compare.okX sc_compare (fun vs H Q E h => ?_) (fun cdv A' outer s H vs Q E hr h => ?_)
  · obtain ⟨v, w', a, b, rfl, _⟩ := h
    rfl
  obtain ⟨_, _, a, b, rfl, ha, hb, ga, gb, q⟩ := h
  obtain ⟨p, rfl, hp⟩ := dp_q ha
  obtain ⟨p2, rfl, hp2⟩ := dp_q hb
  refine ⟨_, (pss_cons (ps_set (i := 2) sc_compare.nd rfl (.inl rfl) (pe_op op_mulW (pe_ix ix_tup (pv 0) pe_int (fun _ _ => rfl)) (pe_ix ix_tup (pv 1) pe_int (fun _ _ => rfl))))
  (pss_cons (ps_set (i := 3) sc_compare.nd rfl (.inl rfl) (pe_op op_mulW (pe_ix ix_tup (pv 1) pe_int (fun _ _ => rfl)) (pe_ix ix_tup (pv 0) pe_int (fun _ _ => rfl))))
  (pss_cons (ps_if (pt_cmpR op_lt (pv 2) (pv 3) (nomark _))
  (pss_one (ps_ret (pe_un un_neg pe_int)))
  pss_nil)
  (pss_cons (ps_if (pt_cmpR op_gt (pv 2) (pv 3) (nomark _))
  (pss_one (ps_ret pe_int))
  pss_nil)
  (pss_one (ps_ret pe_int)))))), ?_⟩
  walk_at "z"
  refine z_I (wide_mul ga.1 (nat200 gb.2) (by decide) (by decide) (by decide)) ?_
  walk_at "z"
  refine z_I (wide_mul gb.1 (nat200 ga.2) (by decide) (by decide) (by decide)) ?_
  walk_at "z"
  unfold cmpQ at q
  refine z_if (fun c => ?_) (fun c => ?_)
  · walk_at "z"
    rw [if_pos ((Rat.lt_iff a b).mpr c)] at q
    exact q
  walk_at "z"
  rw [if_neg (fun z => c ((Rat.lt_iff a b).mp z))] at q
  refine z_if (fun c2 => ?_) (fun c2 => ?_)
  · walk_at "z"
    rw [if_pos ((Rat.lt_iff b a).mpr c2)] at q
    exact q
  · walk_at "z"
    rw [if_neg (fun z => c2 ((Rat.lt_iff b a).mp z))] at q
    exact q
end

/-! ### points and transforms -/
def pD (x y : Rat) : PyData := .tuple [qD x, qD y]
def tD (tx ty xx xy yx yy : Rat) : PyData := .tuple [qD tx, qD ty, qD xx, qD xy, qD yx, qD yy]
def Bl (r : Rat) : Prop := r.num.natAbs < 2 ^ 190 ∧ r.den < 2 ^ 190
theorem _root_.Z.Bd.bl {r : Rat} {p q : Nat} (h : Bd r p q) (h1 : p < 2 ^ 190) (h2 : q < 2 ^ 190) : Bl r := ⟨Nat.lt_of_le_of_lt h.1 h1, Nat.lt_of_le_of_lt h.2 h2⟩
theorem Bl.mul {a b : Int} (ha : a.natAbs < 2 ^ 190) (hb : b.natAbs < 2 ^ 190) : (a * b).natAbs < 2 ^ 380 := wide_lt ha hb
theorem lt380 {a : Nat} (h : a < 2 ^ 380) : a < 2 ^ 400 := Nat.lt_of_lt_of_le h (Nat.pow_le_pow_right (by decide) (by decide))
theorem Bl.add {a b : Int} (ha : a.natAbs < 2 ^ 380) (hb : b.natAbs < 2 ^ 380) : (a + b).natAbs < 2 ^ 400 := by
  have h1 : (a + b).natAbs ≤ a.natAbs + b.natAbs := Int.natAbs_add_le a b
  have h2 : (2 : Nat) ^ 380 + 2 ^ 380 ≤ 2 ^ 400 := by
    rw [show (2 : Nat) ^ 380 + 2 ^ 380 = 2 ^ 381 by rw [← Nat.two_mul, ← Nat.pow_succ']]
    exact Nat.pow_le_pow_right (by decide) (by decide)
  omega
theorem Bl.sub {a b : Int} (ha : a.natAbs < 2 ^ 380) (hb : b.natAbs < 2 ^ 380) : (a - b).natAbs < 2 ^ 400 := by
  rw [Int.sub_eq_add_neg]
  exact Bl.add ha (by rw [Int.natAbs_neg]; exact hb)
theorem nat190 {n : Nat} (h : n < 2 ^ 190) : ((n : Int)).natAbs < 2 ^ 190 := by omega
/-- the law's own operations -/
def sp_lop (K : PySem.W.Frag) (f : Rat → Rat → Rat) : Sp := fun vs H Q _ => ∃ (v w : V) (a b : Rat), vs = [v, w] ∧ Dp K H v (qD a) ∧ Dp K H w (qD b) ∧ Bl a ∧ Bl b ∧ RetD K H (qD (f a b)) Q
section
theorem ok__law_sum {P : Program} {w : World} {K : PySem.W.Frag} {mg : Str → Option Value} {base : Heap} {A : Nat → Addr} {D : Nat → FuncData} (T : Txt K mg A D base) : FnOk P w K mg base (L2.CX P w) 2 (A 30) (D 30) ["a", "b"] (sp_lop K (· + ·)) := by
  refine T.F__law_sum.okX sc__law_sum (fun vs H Q E h => ?_) (fun cdv A' outer s H vs Q E hr h => ?_)
  · obtain ⟨v, w', a, b, rfl, _⟩ := h
    rfl
  obtain ⟨_, _, a, b, rfl, ha, hb, ga, gb, q⟩ := h
  obtain ⟨p, rfl, hp⟩ := dp_q ha
  obtain ⟨p2, rfl, hp2⟩ := dp_q hb
  refine ⟨_, (pss_one (ps_ret (pe_call (ok__law_ratio T) (hr.mono (by decide)) (by rfl) T.m__law_ratio T.F__law_ratio.kp T.b__law_ratio .nil (passes_call (takes_of rfl rfl rfl rfl) (fun _ _ _ _ h => h)) (pa_cons (pe_op op_add (pe_op op_mulW (pe_ix ix_tup (pv 0) pe_int (fun _ _ => rfl)) (pe_ix ix_tup (pv 1) pe_int (fun _ _ => rfl))) (pe_op op_mulW (pe_ix ix_tup (pv 1) pe_int (fun _ _ => rfl)) (pe_ix ix_tup (pv 0) pe_int (fun _ _ => rfl)))) (pa_cons (pe_op op_mulW (pe_ix ix_tup (pv 0) pe_int (fun _ _ => rfl)) (pe_ix ix_tup (pv 1) pe_int (fun _ _ => rfl))) pa_nil))))), ?_⟩
  walk_at "z"
  refine z_I (wide_mul ga.1 (nat190 gb.2) (by decide) (by decide) (by decide)) ?_
  walk_at "z"
  refine z_I (wide_mul gb.1 (nat190 ga.2) (by decide) (by decide) (by decide)) ?_
  walk_at "z"
  refine z_I (wide_mul (nat190 ga.2) (nat190 gb.2) (by decide) (by decide) (by decide)) ?_
  walk_at "z"
  have q : RetD K H (qD (a + b)) Q := q
  rw [q_add a b] at q
  exact ⟨_, _, rfl, q_dd a b, Bl.add (Bl.mul ga.1 (nat190 gb.2)) (Bl.mul gb.1 (nat190 ga.2)), lt380 (Bl.mul (nat190 ga.2) (nat190 gb.2)), q⟩

theorem ok__law_difference {P : Program} {w : World} {K : PySem.W.Frag} {mg : Str → Option Value} {base : Heap} {A : Nat → Addr} {D : Nat → FuncData} (T : Txt K mg A D base) : FnOk P w K mg base (L2.CX P w) 2 (A 31) (D 31) ["a", "b"] (sp_lop K (· - ·)) := by
  refine T.F__law_difference.okX sc__law_difference (fun vs H Q E h => ?_) (fun cdv A' outer s H vs Q E hr h => ?_)
  · obtain ⟨v, w', a, b, rfl, _⟩ := h
    rfl
  obtain ⟨_, _, a, b, rfl, ha, hb, ga, gb, q⟩ := h
  obtain ⟨p, rfl, hp⟩ := dp_q ha
  obtain ⟨p2, rfl, hp2⟩ := dp_q hb
  refine ⟨_, (pss_one (ps_ret (pe_call (ok__law_ratio T) (hr.mono (by decide)) (by rfl) T.m__law_ratio T.F__law_ratio.kp T.b__law_ratio .nil (passes_call (takes_of rfl rfl rfl rfl) (fun _ _ _ _ h => h)) (pa_cons (pe_op op_sub (pe_op op_mulW (pe_ix ix_tup (pv 0) pe_int (fun _ _ => rfl)) (pe_ix ix_tup (pv 1) pe_int (fun _ _ => rfl))) (pe_op op_mulW (pe_ix ix_tup (pv 1) pe_int (fun _ _ => rfl)) (pe_ix ix_tup (pv 0) pe_int (fun _ _ => rfl)))) (pa_cons (pe_op op_mulW (pe_ix ix_tup (pv 0) pe_int (fun _ _ => rfl)) (pe_ix ix_tup (pv 1) pe_int (fun _ _ => rfl))) pa_nil))))), ?_⟩
  walk_at "z"
  refine z_I (wide_mul ga.1 (nat190 gb.2) (by decide) (by decide) (by decide)) ?_
  walk_at "z"
  refine z_I (wide_mul gb.1 (nat190 ga.2) (by decide) (by decide) (by decide)) ?_
  walk_at "z"
  refine z_I (wide_mul (nat190 ga.2) (nat190 gb.2) (by decide) (by decide) (by decide)) ?_
  walk_at "z"
  have q : RetD K H (qD (a - b)) Q := q
  rw [q_sub a b] at q
  exact ⟨_, _, rfl, q_dd a b, Bl.sub (Bl.mul ga.1 (nat190 gb.2)) (Bl.mul gb.1 (nat190 ga.2)), lt380 (Bl.mul (nat190 ga.2) (nat190 gb.2)), q⟩

theorem ok__law_product {P : Program} {w : World} {K : PySem.W.Frag} {mg : Str → Option Value} {base : Heap} {A : Nat → Addr} {D : Nat → FuncData} (T : Txt K mg A D base) : FnOk P w K mg base (L2.CX P w) 2 (A 32) (D 32) ["a", "b"] (sp_lop K (· * ·)) := by
  refine T.F__law_product.okX sc__law_product (fun vs H Q E h => ?_) (fun cdv A' outer s H vs Q E hr h => ?_)
  · obtain ⟨v, w', a, b, rfl, _⟩ := h
    rfl
  obtain ⟨_, _, a, b, rfl, ha, hb, ga, gb, q⟩ := h
  obtain ⟨p, rfl, hp⟩ := dp_q ha
  obtain ⟨p2, rfl, hp2⟩ := dp_q hb
  refine ⟨_, (pss_one (ps_ret (pe_call (ok__law_ratio T) (hr.mono (by decide)) (by rfl) T.m__law_ratio T.F__law_ratio.kp T.b__law_ratio .nil (passes_call (takes_of rfl rfl rfl rfl) (fun _ _ _ _ h => h)) (pa_cons (pe_op op_mulW (pe_ix ix_tup (pv 0) pe_int (fun _ _ => rfl)) (pe_ix ix_tup (pv 1) pe_int (fun _ _ => rfl))) (pa_cons (pe_op op_mulW (pe_ix ix_tup (pv 0) pe_int (fun _ _ => rfl)) (pe_ix ix_tup (pv 1) pe_int (fun _ _ => rfl))) pa_nil))))), ?_⟩
  walk_at "z"
  refine z_I (wide_mul ga.1 gb.1 (by decide) (by decide) (by decide)) ?_
  walk_at "z"
  refine z_I (wide_mul (nat190 ga.2) (nat190 gb.2) (by decide) (by decide) (by decide)) ?_
  walk_at "z"
  have q : RetD K H (qD (a * b)) Q := q
  rw [q_mul a b] at q
  exact ⟨_, _, rfl, q_dd a b, lt380 (Bl.mul ga.1 gb.1), lt380 (Bl.mul (nat190 ga.2) (nat190 gb.2)), q⟩

end
theorem lop {K : PySem.W.Frag} {f : Rat → Rat → Rat} {H : Hp} {v w : V} {a b : Rat} {Q : VK} {E : XK} (ha : Dp K H v (qD a)) (hb : Dp K H w (qD b)) (ga : Bl a) (gb : Bl b) (q : RetD K H (qD (f a b)) Q) : sp_lop K f [v, w] H Q E := ⟨v, w, a, b, rfl, ha, hb, ga, gb, q⟩
theorem opq {K : PySem.W.Frag} {A : Nat → Addr} {f : Rat → Rat → Rat} {H : Hp} {v w : V} {a b : Rat} {Q : VK} {E : XK} (ha : Dp K H v (qD a)) (hb : Dp K H w (qD b)) (ga : Bg a) (gb : Bg b) (hf : fitsQ (f a b)) (q : RetD K H (qD (f a b)) Q) : sp_op K A f [v, w] H Q E :=
  ⟨v, w, a, b, rfl, ha, hb, ga, gb, fun n => absurd hf n, fun _ => q⟩
/-- the point that a transform moves a point to -/
def aX (tx xx xy x y : Rat) : Rat := tx + (xx * x + xy * y)
def sp__law_applied (K : PySem.W.Frag) : Sp := fun vs H Q _ => ∃ (v w : V) (tx ty xx xy yx yy x y : Rat), vs = [v, w] ∧ Dp K H v (tD tx ty xx xy yx yy) ∧ Dp K H w (pD x y) ∧ Bl tx ∧ Bl ty ∧ Bl xx ∧ Bl xy ∧ Bl yx ∧ Bl yy ∧ Bl x ∧ Bl y ∧
  Bl (xx * x) ∧ Bl (xy * y) ∧ Bl (yx * x) ∧ Bl (yy * y) ∧ Bl (xx * x + xy * y) ∧ Bl (yx * x + yy * y) ∧ RetD K H (pD (aX tx xx xy x y) (aX ty yx yy x y)) Q
theorem dp_p {K : PySem.W.Frag} {H : Hp} {p : Addr} {v w : V} {x y : Rat} (h : H p = some (.tup [v, w])) (hx : Dp K H v (qD x)) (hy : Dp K H w (qD y)) : Dp K H (.ref p) (pD x y) := dp_mk h (.cons hx (.cons hy .nil))
section

end
/-! ### drawn numbers, points, transforms -/
def sp__law_small (K : PySem.W.Frag) : Sp := fun vs H Q _ => ∃ (p : Addr) (H0 : Hp), vs = [.ref p] ∧ Sd H0 H p ∧ ∀ (v : V) (r : Rat) (H' : Hp), Bd r 50 6 → Sd H0 H' p → Kp p H H' → Dp K H' v (qD r) → Q v H'
def sp__law_point (K : PySem.W.Frag) : Sp := fun vs H Q _ => ∃ (p : Addr) (H0 : Hp), vs = [.ref p] ∧ Sd H0 H p ∧ ∀ (v : V) (x y : Rat) (H' : Hp), Bd x 50 6 → Bd y 50 6 → Sd H0 H' p → Kp p H H' → Dp K H' v (pD x y) → Q v H'
theorem q_int (n : Int) : qD (n : Rat) = .tuple [.int n, .int 1] := by
  unfold qD
  rw [Rat.num_intCast, Rat.den_intCast]
  rfl
section
theorem ok__law_small {P : Program} {w : World} {K : PySem.W.Frag} {mg : Str → Option Value} {base : Heap} {A : Nat → Addr} {D : Nat → FuncData} (T : Txt K mg A D base) : FnOk P w K mg base (L2.CX P w) 2 (A 33) (D 33) ["stream"] (sp__law_small K) := by
  refine T.F__law_small.okX sc__law_small (fun vs H Q E h => ?_) (fun cdv A' outer s H vs Q E hr h => ?_)
  · obtain ⟨p, H0, rfl, _⟩ := h
    rfl
  obtain ⟨p, H0, rfl, S, q⟩ := h
  refine ⟨_, (pss_cons (ps_if (pt_cmpR op_eq (pe_call (ok__law_next T) (hr.mono (by decide)) (by rfl) T.m__law_next T.F__law_next.kp T.b__law_next .nil (passes_call (takes_of rfl rfl rfl rfl) (fun _ _ _ _ h => h)) (pa_cons (pv 0) (pa_cons pe_int pa_nil))) pe_int (nomark _))
  (pss_one (ps_ret (pe_tup (pa_cons (pe_op op_sub (pe_call (ok__law_next T) (hr.mono (by decide)) (by rfl) T.m__law_next T.F__law_next.kp T.b__law_next .nil (passes_call (takes_of rfl rfl rfl rfl) (fun _ _ _ _ h => h)) (pa_cons (pv 0) (pa_cons pe_int pa_nil))) pe_int) (pa_cons pe_int pa_nil)))))
  pss_nil)
  (pss_one (ps_ret (pe_call (ok__law_ratio T) (hr.mono (by decide)) (by rfl) T.m__law_ratio T.F__law_ratio.kp T.b__law_ratio .nil (passes_call (takes_of rfl rfl rfl rfl) (fun _ _ _ _ h => h)) (pa_cons (pe_op op_sub (pe_call (ok__law_next T) (hr.mono (by decide)) (by rfl) T.m__law_next T.F__law_next.kp T.b__law_next .nil (passes_call (takes_of rfl rfl rfl rfl) (fun _ _ _ _ h => h)) (pa_cons (pv 0) (pa_cons pe_int pa_nil))) pe_int) (pa_cons (pe_op op_add (pe_call (ok__law_next T) (hr.mono (by decide)) (by rfl) T.m__law_next T.F__law_next.kp T.b__law_next .nil (passes_call (takes_of rfl rfl rfl rfl) (fun _ _ _ _ h => h)) (pa_cons (pv 0) (pa_cons pe_int pa_nil))) pe_int) pa_nil)))))), ?_⟩
  walk_at "z"
  refine nx S (by decide) (lt1000 (by decide)) fun k H1 k0 k1 S1 e1 => ?_
  walk_at "z"
  refine z_if (fun c => ?_) (fun c => ?_)
  · walk_at "z"
    refine nx S1 (by decide) (lt1000 (by decide)) fun n H2 n0 n1 S2 e2 => ?_
    walk_at "z"
    intro p9 H9 _ s9 h9
    refine q _ ((n - 20 : Int) : Rat) H9 ⟨?_, ?_⟩ (S2.mono s9) (((kp_eq e1).trans' (kp_eq e2)).trans' (kp_of s9)) ?_
    · rw [Rat.num_intCast]
      omega
    · rw [Rat.den_intCast]
      decide
    · rw [q_int]
      exact dp_mk h9 (.cons (.int _) (.cons (.int _) .nil))
  · walk_at "z"
    refine nx S1 (by decide) (lt1000 (by decide)) fun n H2 n0 n1 S2 e2 => ?_
    walk_at "z"
    refine nx S2 (by decide) (lt1000 (by decide)) fun d H3 d0 d1 S3 e3 => ?_
    walk_at "z"
    refine ⟨_, _, rfl, by omega, lt400 (by omega), lt400 (by omega), fun v H9 s9 h9 => ?_⟩
    have hb := bd_divInt (n := n - 50) (d := d + 1) (by omega)
    exact q _ _ H9 (hb.le (by omega) (by omega)) (S3.mono s9) ((((kp_eq e1).trans' (kp_eq e2)).trans' (kp_eq e3)).trans' (kp_of s9)) h9
theorem ok__law_point {P : Program} {w : World} {K : PySem.W.Frag} {mg : Str → Option Value} {base : Heap} {A : Nat → Addr} {D : Nat → FuncData} (T : Txt K mg A D base) : FnOk P w K mg base (L2.CX P w) 3 (A 34) (D 34) ["stream"] (sp__law_point K) := by
  refine T.F__law_point.okX sc__law_point (fun vs H Q E h => ?_) (fun cdv A' outer s H vs Q E hr h => ?_)
  · obtain ⟨p, H0, rfl, _⟩ := h
    rfl
  obtain ⟨p, H0, rfl, S, q⟩ := h
  refine ⟨_, (pss_cons (ps_set (i := 1) sc__law_point.nd rfl (.inl rfl) (pe_call (ok__law_small T) (hr.mono (by decide)) (by rfl) T.m__law_small T.F__law_small.kp T.b__law_small .nil (passes_call (takes_of rfl rfl rfl rfl) (fun _ _ _ _ h => h)) (pa_cons (pv 0) pa_nil)))
  (pss_one (ps_ret (pe_tup (pa_cons (pv 1) (pa_cons (pe_call (ok__law_small T) (hr.mono (by decide)) (by rfl) T.m__law_small T.F__law_small.kp T.b__law_small .nil (passes_call (takes_of rfl rfl rfl rfl) (fun _ _ _ _ h => h)) (pa_cons (pv 0) pa_nil)) pa_nil)))))), ?_⟩
  walk_at "z"
  refine ⟨p, H0, rfl, S, fun v x H1 bx S1 k1 h1 => ?_⟩
  walk_at "z"
  refine ⟨p, H0, rfl, S1, fun w y H2 by' S2 k2 h2 => ?_⟩
  walk_at "z"
  intro p9 H9 _ s9 h9
  exact q _ x y H9 bx by' (S2.mono s9) ((k1.trans' k2).trans' (kp_of s9)) (dp_p h9 (dp_mono s9 (kp_sd S1 k2 rfl h1)) (dp_mono s9 h2))
end
/-! ### paths of numbers, as data -/
abbrev PQ := Rat × Rat
def ptQ (a : PQ) : PyData := pD a.1 a.2
def sgQ : Option (PQ × PQ) → PyData
  | none => .none
  | some (c, d) => .tuple [ptQ c, ptQ d]
def pathQ (pts : List PQ) (sgs : List (Option (PQ × PQ))) (cyc : Bool) : PyData := .tuple [.tuple (pts.map ptQ), .tuple (sgs.map sgQ), .bool cyc]
def Bq (a : PQ) : Prop := Bd a.1 50 6 ∧ Bd a.2 50 6
def Bs : Option (PQ × PQ) → Prop
  | none => True
  | some (c, d) => Bq c ∧ Bq d
section
variable {K : PySem.W.Frag} {H H' : Hp}
theorem dp_path {v : V} {pts : List PQ} {sgs : List (Option (PQ × PQ))} {cyc : Bool} (h : Dp K H v (pathQ pts sgs cyc)) :
    ∃ a k g ks ss, v = .ref a ∧ SqT K H a [.ref k, .ref g, .bl cyc] ∧ SqT K H k ks ∧ SqT K H g ss ∧ DpAll K H ks (pts.map ptQ) ∧ DpAll K H ss (sgs.map sgQ) := by
  obtain ⟨a, v1, v2, v3, rfl, hS, d1, d2, d3⟩ := dp_t3 h
  obtain ⟨k, ks, rfl, hk, ak⟩ := dp_tup d1
  obtain ⟨g, ss, rfl, hg, ag⟩ := dp_tup d2
  obtain rfl := dp_bool d3
  exact ⟨a, k, g, ks, ss, rfl, hS, hk, hg, ak, ag⟩
theorem dp_mkpath {a k g : Addr} {ks ss : List V} {pts : List PQ} {sgs : List (Option (PQ × PQ))} {cyc : Bool} (hS : SqT K H a [.ref k, .ref g, .bl cyc]) (hk : SqT K H k ks) (hg : SqT K H g ss) (ak : DpAll K H ks (pts.map ptQ)) (ag : DpAll K H ss (sgs.map sgQ)) :
    Dp K H (.ref a) (pathQ pts sgs cyc) := .tup hS (.cons (.tup hk ak) (.cons (.tup hg ag) (.cons (.bl _) .nil)))
theorem dpa_len : ∀ {ds : List PyData} {vs : List V}, DpAll K H vs ds → vs.length = ds.length
  | _, _, .nil => rfl
  | _, _, .cons _ a => by rw [List.length_cons, List.length_cons, dpa_len a]
theorem dpa_get : ∀ {ds : List PyData} {vs : List V} {i : Nat} {d : PyData}, DpAll K H vs ds → ds[i]? = some d → ∃ v, vs[i]? = some v ∧ Dp K H v d
  | _, _, _, _, .nil, e => by cases e
  | _, _, 0, _, .cons h _, e => by
    cases e
    exact ⟨_, rfl, h⟩
  | _, _, i + 1, _, .cons _ a, e => dpa_get (i := i) a (by simpa using e)
theorem dpa_gev : ∀ {ds : List PyData} {vs : List V} {i : Nat} {v : V}, DpAll K H vs ds → vs[i]? = some v → ∃ d, ds[i]? = some d ∧ Dp K H v d
  | _, _, _, _, .nil, e => by cases e
  | _, _, 0, _, .cons h _, e => by
    cases e
    exact ⟨_, rfl, h⟩
  | _, _, i + 1, _, .cons _ a, e => dpa_gev (i := i) a (by simpa using e)
theorem dpa_app {vs ws : List V} {ds es : List PyData} (h : DpAll K H vs ds) (k : DpAll K H ws es) : DpAll K H (vs ++ ws) (ds ++ es) := Tg.dpA_app h k
theorem dpa_rev : ∀ {ds : List PyData} {vs : List V}, DpAll K H vs ds → DpAll K H vs.reverse ds.reverse
  | _, _, .nil => .nil
  | _, _, .cons h a => by
    rw [List.reverse_cons, List.reverse_cons]
    exact dpa_app (dpa_rev a) (.cons h .nil)
theorem dpa_take : ∀ {ds : List PyData} {vs : List V} (n : Nat), DpAll K H vs ds → DpAll K H (vs.take n) (ds.take n)
  | _, _, 0, _ => .nil
  | _, _, _ + 1, .nil => .nil
  | _, _, n + 1, .cons h a => .cons h (dpa_take n a)
theorem dpa_drop : ∀ {ds : List PyData} {vs : List V} (n : Nat), DpAll K H vs ds → DpAll K H (vs.drop n) (ds.drop n)
  | _, _, 0, h => h
  | _, _, _ + 1, .nil => .nil
  | _, _, n + 1, .cons _ a => dpa_drop n a
theorem dpa_set : ∀ {ds : List PyData} {vs : List V} {i : Nat} {d : PyData} {v : V}, DpAll K H vs ds → Dp K H v d → DpAll K H (vs.set i v) (ds.set i d)
  | _, _, _, _, _, .nil, _ => .nil
  | _, _, 0, _, _, .cons _ a, k => .cons k a
  | _, _, i + 1, _, _, .cons h a, k => .cons h (dpa_set (i := i) a k)
theorem tup_pq (a : PQ) : tupOnly (ptQ a) = true := rfl
theorem tup_sgq (s : Option (PQ × PQ)) : tupOnly (sgQ s) = true := by
  match s with
  | none => rfl
  | some (c, d) => rfl
theorem tup_pqs : ∀ pts : List PQ, tupOnlyA (pts.map ptQ) = true
  | [] => rfl
  | a :: r => by
    show (tupOnly (ptQ a) && tupOnlyA (r.map ptQ)) = true
    rw [tup_pqs r]
    rfl
theorem tup_sqs : ∀ sgs : List (Option (PQ × PQ)), tupOnlyA (sgs.map sgQ) = true
  | [] => rfl
  | a :: r => by
    show (tupOnly (sgQ a) && tupOnlyA (r.map sgQ)) = true
    rw [tup_sqs r, tup_sgq]
    rfl
theorem tup_path (pts : List PQ) (sgs : List (Option (PQ × PQ))) (cyc : Bool) : tupOnly (pathQ pts sgs cyc) = true := by
  show (tupOnlyA (pts.map ptQ) && (tupOnlyA (sgs.map sgQ) && (true && true))) = true
  rw [tup_pqs, tup_sqs]
  rfl
end
theorem shaped_pqs : ∀ pts : List PQ, PyData.canLayAll0 (pts.map ptQ) = true ∧ PyData.depthAll (pts.map ptQ) ≤ 2
  | [] => ⟨rfl, Nat.zero_le _⟩
  | a :: r => by
    obtain ⟨h1, h2⟩ := shaped_pqs r
    refine ⟨?_, ?_⟩
    · show (PyData.canLay0 (ptQ a) && PyData.canLayAll0 (r.map ptQ)) = true
      rw [h1]
      rfl
    · show max (PyData.depth (ptQ a)) (PyData.depthAll (r.map ptQ)) ≤ 2
      have e : PyData.depth (ptQ a) = 2 := rfl
      omega
theorem shaped_sqs : ∀ sgs : List (Option (PQ × PQ)), PyData.canLayAll0 (sgs.map sgQ) = true ∧ PyData.depthAll (sgs.map sgQ) ≤ 3
  | [] => ⟨rfl, Nat.zero_le _⟩
  | a :: r => by
    obtain ⟨h1, h2⟩ := shaped_sqs r
    have h3 : PyData.canLay0 (sgQ a) = true ∧ PyData.depth (sgQ a) ≤ 3 := by
      match a with
      | none => exact ⟨rfl, by decide⟩
      | some (c, d) => exact ⟨rfl, Nat.le_of_ble_eq_true rfl⟩
    refine ⟨?_, ?_⟩
    · show (PyData.canLay0 (sgQ a) && PyData.canLayAll0 (r.map sgQ)) = true
      rw [h1, h3.1]
      rfl
    · show max (PyData.depth (sgQ a)) (PyData.depthAll (r.map sgQ)) ≤ 3
      have := h3.2
      omega
theorem shaped_path (pts : List PQ) (sgs : List (Option (PQ × PQ))) (cyc : Bool) : SeqAt.shaped (pathQ pts sgs cyc) = true := by
  obtain ⟨h1, h2⟩ := shaped_pqs pts
  obtain ⟨h3, h4⟩ := shaped_sqs sgs
  unfold SeqAt.shaped
  rw [Bool.and_eq_true]
  refine ⟨?_, decide_eq_true ?_⟩
  · show (PyData.canLayAll0 (pts.map ptQ) && (PyData.canLayAll0 (sgs.map sgQ) && (true && true))) = true
    rw [h1, h3]
    rfl
  · show max (PyData.depthAll (pts.map ptQ) + 1) (max (PyData.depthAll (sgs.map sgQ) + 1) (max 0 0)) + 1 ≤ 64
    omega
theorem shaped_ptl (pts : List PQ) : SeqAt.shaped (.list (pts.map ptQ)) = true := by
  obtain ⟨h1, h2⟩ := shaped_pqs pts
  unfold SeqAt.shaped
  rw [Bool.and_eq_true]
  refine ⟨?_, decide_eq_true ?_⟩
  · show PyData.canLayAll0 (pts.map ptQ) = true
    exact h1
  · show PyData.depthAll (pts.map ptQ) + 1 ≤ 64
    omega
/-! ### lists made by a comprehension; lists drawn -/
theorem z_slA' {K : PySem.W.Frag} {H : Hp} {Q : VK} {a : Addr} {xs : List V} {lo hi : Option Int} (h : SqT K H a xs) (q : ∀ p H', Same H H' → SqT K H' p (cutV xs lo hi) → Q (.ref p) H') : rSlA K (.ref a) lo hi H Q := Tg.z_slA h q
theorem z_tupE {K : PySem.W.Frag} {H : Hp} {Q : VK} {σ : L2.St} {P : Addr} {te te' : TE} {g : TG} {vs : List Nat} (h : te σ H fun x H1 => Tg.tTupG P (iTup K (tC x)) g te' vs σ H1 Q) : Tg.tTupG P (iTup K te) g te' vs σ H Q := h
theorem z_catA {K : PySem.W.Frag} {H : Hp} {Q : VK} {p q : Addr} {xs ys : List V} (h1 : SqT K H p xs) (h2 : SqT K H q ys) (hx : xs ≠ []) (hl : xs.length + ys.length ≤ 1000)
    (k : ∀ p H', Same H H' → SqT K H' p (xs ++ ys) → Q (.ref p) H') : rCatT K (.ref p) (.ref q) H Q := by
  refine ⟨p, q, xs, ys, rfl, rfl, h1, h2, hx, sz hl, fun z => ?_, fun _ a ha => k a _ (same_upd ha) (.inl (.inl upd_same))⟩
  refine k p H (fun _ _ z => z) ?_
  rw [z, List.append_nil]
  exact h1
theorem kp_at {H : Hp} {D : Addr} {o : HO} : Kp D H (upd H D o) := fun b x hb e => by
  rw [upd_ne hb]
  exact e
theorem sd_updq {H0 H : Hp} {p q : Addr} {o : HO} (S : Sd H0 H p) (h0 : H0 q = none) (hq : q ≠ p) : Sd H0 (upd H q o) p := by
  obtain ⟨a, b, m, e⟩ := S.stm
  refine ⟨fun c x hc => ?_, S.fresh, a, b, m, by rw [upd_ne (Ne.symm hq)]; exact e⟩
  rw [upd_ne (ne_of_none hc h0)]
  exact S.same c x hc
theorem kp_updq {p q : Addr} {H H1 : Hp} {o : HO} (k : Kp p H H1) (h : H q = none) : Kp p H (upd H1 q o) := fun b x hb e => by
  rw [upd_ne (ne_of_none e h)]
  exact k b x hb e
theorem dpa_sdq {K : PySem.W.Frag} {H0 H H' : Hp} {p : Addr} {vs : List V} {ds : List PyData} (S : Sd H0 H p) (k : Kp p H H') (t : tupOnlyA ds = true) (h : DpAll K H vs ds) : DpAll K H' vs ds := by
  obtain ⟨a, b, m, e⟩ := S.stm
  exact dp_kpA k e t h
/-- [_law_point(stream) for k in range(n)] -/
theorem z_pts {K : PySem.W.Frag} {H H0 : Hp} {Q : VK} {σ : L2.St} {ta : TA} {k j : Nat} {vs : List Nat} {p : Addr} {E : XK} (n : Nat) (hn : n ≤ 100) (S : Sd H0 H p) (ha : ∀ R : List V → Hp → Prop, R [.int (n : Int)] H → ta σ H R) (hw : ∀ x, wipe ((wipe σ vs).set k (some x)) vs = wipe σ vs) (hj : ∀ x, ((wipe σ vs).set k (some x))[j]? = some (some (.ref p)))
    (hd : ∀ (D : Addr) (acc : List V) (pts : List PQ) (H' : Hp), H D = none → H0 D = none → D ≠ p → Sd H0 H' p → Kp p H H' → H' D = some (.lst acc) → DpAll K H' acc (pts.map ptQ) → pts.length = n → (∀ a ∈ pts, Bq a) → Q (.ref D) H') : tLc (iRng1 ta) (gName k) tYes (tCall (sp__law_point K) [] E (tCons (tVar j) tNil)) vs σ H Q := by
  refine z_lcR1 n (by omega) ha hw (fun i D acc H' => H D = none ∧ H0 D = none ∧ D ≠ p ∧ Sd H0 H' p ∧ Kp p H H' ∧ ∃ pts : List PQ, DpAll K H' acc (pts.map ptQ) ∧ pts.length = i ∧ ∀ a ∈ pts, Bq a) (fun D H' hD s _ => ⟨hD, S.same.free hD, S.ne0 hD, S.mono s, kp_of s, [], .nil, rfl, fun _ h => absurd h List.not_mem_nil⟩) ?_ (fun σ' H' Q Q' h q => ?_) ?_
  · rintro i D acc H3 hi hl hH ⟨f1, f2, f3, S3, k3, pts, d3, l3, b3⟩
    refine z_call ?_
    refine z_cons ?_
    refine z_var (hj _) ?_
    refine z_nil ?_
    refine ⟨p, H0, rfl, S3, fun v x y H4 bx by' S4 k4 d => ?_⟩
    have hH4 := k4 _ _ f3 hH
    have d4 := dpa_sdq S3 k4 (tup_pqs _) d3
    refine ⟨hH4, f1, f2, f3, sd_updq S4 f2 f3, kp_updq (k3.trans' k4) f1, pts ++ [(x, y)], ?_, by rw [List.length_append, l3]; rfl, fun a h => ?_⟩
    · rw [List.map_append]
      exact dpa_app (dp_kpA kp_at hH4 (tup_pqs _) d4) (.cons (dp_kp kp_at hH4 rfl d) .nil)
    · rcases List.mem_append.mp h with h | h
      · exact b3 a h
      · rw [List.mem_singleton.mp h]
        exact ⟨bx, by'⟩
  · obtain ⟨v, hv, p, H0, e, S, q⟩ := q
    exact ⟨v, hv, p, H0, e, S, fun v x y H9 b b' S9 k9 d => h _ _ (q v x y H9 b b' S9 k9 d)⟩
  · rintro D acc H3 hl hH ⟨f1, f2, f3, S3, k3, pts, d3, l3, b3⟩
    exact hd D acc pts H3 f1 f2 f3 S3 k3 hH d3 l3 b3
/-- a path that the law draws: its numbers of knots and segments -/
structure PathB (pts : List PQ) (sgs : List (Option (PQ × PQ))) (cyc : Bool) (most : Nat) : Prop where
  n1 : 1 ≤ pts.length
  n2 : pts.length ≤ most
  n3 : sgs.length + 1 = pts.length + (if cyc = true then 1 else 0)
  pb : ∀ a ∈ pts, Bq a
  sb : ∀ s ∈ sgs, Bs s
def sp__law_path (K : PySem.W.Frag) : Sp := fun vs H Q _ => ∃ (p : Addr) (most : Nat) (H0 : Hp), vs = [.ref p, .int (most : Int)] ∧ 1 ≤ most ∧ most ≤ 50 ∧ Sd H0 H p ∧ ∀ (v : V) (pts : List PQ) (sgs : List (Option (PQ × PQ))) (cyc : Bool) (H' : Hp), Dp K H' v (pathQ pts sgs cyc) → PathB pts sgs cyc most → Sd H0 H' p → Kp p H H' → Q v H'
section
theorem ok__law_path {P : Program} {w : World} {K : PySem.W.Frag} {mg : Str → Option Value} {base : Heap} {A : Nat → Addr} {D : Nat → FuncData} (T : Txt K mg A D base) : FnOk P w K mg base (L2.CX P w) 4 (A 35) (D 35) ["stream", "most"] (sp__law_path K) := by
  refine T.F__law_path.okX sc__law_path (fun vs H Q E h => ?_) (fun cdv A' outer s H vs Q E hr h => ?_)
  · obtain ⟨p, most, H0, rfl, _⟩ := h
    rfl
  obtain ⟨p, most, H0, rfl, m1, m2, S, q⟩ := h
  refine ⟨_, (pss_cons (ps_set (i := 2) sc__law_path.nd rfl (.inl rfl) (pe_op op_add (pe_call (ok__law_next T) (hr.mono (by decide)) (by rfl) T.m__law_next T.F__law_next.kp T.b__law_next .nil (passes_call (takes_of rfl rfl rfl rfl) (fun _ _ _ _ h => h)) (pa_cons (pv 0) (pa_cons (pv 1) pa_nil))) pe_int))
  (pss_cons (ps_set (i := 3) sc__law_path.nd rfl (.inl rfl) (pe_cmpR op_eq (pe_call (ok__law_next T) (hr.mono (by decide)) (by rfl) T.m__law_next T.F__law_next.kp T.b__law_next .nil (passes_call (takes_of rfl rfl rfl rfl) (fun _ _ _ _ h => h)) (pa_cons (pv 0) (pa_cons pe_int pa_nil))) pe_int (nomark _)))
  (pss_cons (ps_setLc (i := 4) (own := [("k", 5)]) (g := gName 5) (tt := tYes) rfl sc__law_path.nd rfl rfl (sw_true rfl rfl rfl (by decide +kernel)) (pi_range1 (by rfl) T.z_range (pa_cons (pv 2) pa_nil)) (blkOk_by (N := ["stream", "most", "count", "is_cycle", "knots", "k", "segments", "first"]) (sc := defScope s__law_path) (by decide +kernel)) (fun _ _ _ _ _ => pg_name (i := 5) sc__law_path.nd rfl (Or.inl rfl)) (fun _ _ _ _ _ => pts_nil) (fun _ _ _ _ _ => (pe_call (ok__law_point T) (hr.mono (by decide)) (by rfl) T.m__law_point T.F__law_point.kp T.b__law_point .nil passL (pa_cons (pv 0) pa_nil))))
  (pss_cons (ps_set (i := 6) sc__law_path.nd rfl (.inl rfl) (pe_lst pa_nil))
  (pss_cons (ps_for (passes_of rfl) rfl (pi_range1 (by rfl) T.z_range (pa_cons (pe_op op_add (pe_op op_sub (pv 2) pe_int) (pe_callTy Z.c_int (by rfl) T.z_int (by decide +kernel) (pa_cons (pv 3) pa_nil))) pa_nil)) (pg_name (i := 5) sc__law_path.nd rfl (.inl rfl))
  (pss_one (ps_if (pt_cmpR op_eq (pe_call (ok__law_next T) (hr.mono (by decide)) (by rfl) T.m__law_next T.F__law_next.kp T.b__law_next .nil (passes_call (takes_of rfl rfl rfl rfl) (fun _ _ _ _ h => h)) (pa_cons (pv 0) (pa_cons pe_int pa_nil))) pe_int (nomark _))
  (pss_one (ps_expr (pe_bm PySem.F.plainAttrs_list PySem.F.slot_list_append PySem.F.type_list_append mt_append (pv 6) (pa_cons pe_non pa_nil))))
  (pss_cons (ps_set (i := 7) sc__law_path.nd rfl (.inl rfl) (pe_call (ok__law_point T) (hr.mono (by decide)) (by rfl) T.m__law_point T.F__law_point.kp T.b__law_point .nil (passes_call (takes_of rfl rfl rfl rfl) (fun _ _ _ _ h => h)) (pa_cons (pv 0) pa_nil)))
  (pss_one (ps_expr (pe_bm PySem.F.plainAttrs_list PySem.F.slot_list_append PySem.F.type_list_append mt_append (pv 6) (pa_cons (pe_tup (pa_cons (pv 7) (pa_cons (pe_call (ok__law_point T) (hr.mono (by decide)) (by rfl) T.m__law_point T.F__law_point.kp T.b__law_point .nil (passes_call (takes_of rfl rfl rfl rfl) (fun _ _ _ _ h => h)) (pa_cons (pv 0) pa_nil)) pa_nil))) pa_nil))))))))
  (pss_one (ps_ret (pe_tup (pa_cons (pe_callTy Z.c_tupOf (by rfl) T.z_tuple (by decide +kernel) (pa_cons (pv 4) pa_nil)) (pa_cons (pe_callTy Z.c_tupOf (by rfl) T.z_tuple (by decide +kernel) (pa_cons (pv 6) pa_nil)) (pa_cons (pv 3) pa_nil))))))))))), ?_⟩
  walk_at "z"
  refine nx S (by omega) (lt1000 (Nat.lt_of_le_of_lt (show ((most : Int)).natAbs ≤ 50 by omega) (by decide))) fun c H1 c0 c1 S1 e1 => ?_
  walk_at "z"
  refine nx S1 (by decide) (lt1000 (by decide)) fun i H2 _ _ S2 e2 => ?_
  walk_at "z"
  obtain ⟨n, hn⟩ : ∃ n : Nat, c + 1 = (n : Int) := ⟨(c + 1).toNat, by omega⟩
  generalize decide (i = 0) = cyc
  refine z_pts n (by omega) S2 (fun R q => by walk_at "z"; rw [hn]; exact q) (fun _ => rfl) (fun _ => rfl) fun Dk ks pts H3 fk fk0 fkp S3 k3 hk dk lk bk => ?_
  walk_at "z"
  intro D H4 hD s4 h4
  have S4 := S3.mono s4
  have hk4 := s4 _ _ hk
  have hD0 := S3.same.free hD
  have hDp := S3.ne0 hD
  have hDDk : Dk ≠ D := ne_of_none hk hD
  have k04 : Kp p H H4 := (((kp_eq e1).trans' (kp_eq e2)).trans' k3).trans' (kp_of s4)
  have fD2 : H D = none := by
    cases hh : H D with
    | none => rfl
    | some o =>
      have := (((kp_eq e1).trans' (kp_eq e2)).trans' k3) D o hDp hh
      rw [hD] at this; cases this
  have dk4 := dp_monoA s4 dk
  clear k3 S3 S2 S1 e1 e2
  walk_at "z"
  obtain ⟨m, hm⟩ : ∃ m : Nat, m + 1 = n + (if cyc = true then 1 else 0) := ⟨n - 1 + (if cyc = true then 1 else 0), by omega⟩
  have hm6 : m ≤ 50 := by split at hm <;> omega
  refine z_forR1 m (by omega) (fun R q => by
    walk_at "z"
    rw [show c + 1 - 1 + (if cyc = true then (1 : Int) else 0) = (m : Int) by cases cyc <;> simp at hm ⊢ <;> omega]
    exact q) (fun i σ' H' => Sd H0 H' p ∧ Kp p H H' ∧ H' Dk = some (.lst ks) ∧ DpAll K H' ks (pts.map ptQ) ∧ ∃ (acc : List V) (sgs : List (Option (PQ × PQ))) (kv fv : Option V), σ' = [some (.ref p), some (.int (most : Int)), some (.int (c + 1)), some (.bl cyc), some (.ref Dk), kv, some (.ref D), fv] ∧ H' D = some (.lst acc) ∧ DpAll K H' acc (sgs.map sgQ) ∧ sgs.length = i ∧ ∀ s ∈ sgs, Bs s)
    ⟨S4, k04, hk4, dk4, [], [], _, _, rfl, h4, .nil, rfl, fun v hv => absurd hv List.not_mem_nil⟩ ?_ ?_
  · clear S4 k04 hk4 dk4 h4 s4 hD
    rintro i σ' H5 hi ⟨S5, k5, hk5, dk5, acc, sgs, kv, fv, rfl, h5, d5, l5, b5⟩
    have la : acc.length = i := by rw [dpa_len d5, List.length_map, l5]
    walk_at "z"
    refine nx S5 (by decide) (lt1000 (by decide)) fun z H6 _ _ S6 e6 => ?_
    have k56 := kp_eq e6
    have h6 := k56 _ _ hDp h5
    have hk6 := k56 _ _ fkp hk5
    have d6 := dpa_sdq S5 k56 (tup_sqs _) d5
    have dk6 := dpa_sdq S5 k56 (tup_pqs _) dk5
    have k6 := k5.trans' k56
    clear k56 d5 dk5 hk5 h5 e6 S5 k5
    walk_at "z"
    refine z_if (fun cc => ?_) (fun cc => ?_)
    · walk_at "z"
      refine z_bmL (fun R q => by walk_at "z"; exact q) h6 ?_
      walk_at "z"
      refine z_append h6 (by omega) ?_
      walk_at "z"
      refine ⟨sd_updq S6 hD0 hDp, kp_updq k6 fD2, by rw [upd_ne hDDk]; exact hk6, dp_kpA kp_at h6 (tup_pqs _) dk6, acc ++ [.non], sgs ++ [none], _, _, rfl, upd_same, ?_, by rw [List.length_append, l5]; rfl, fun s hs => ?_⟩
      · rw [List.map_append]
        exact dpa_app (dp_kpA kp_at h6 (tup_sqs _) d6) (.cons .non .nil)
      · rcases List.mem_append.mp hs with hs | hs
        · exact b5 s hs
        · rw [List.mem_singleton.mp hs]
          trivial
    · walk_at "z"
      refine ⟨p, H0, rfl, S6, fun v1 x1 y1 H7 b1 b1' S7 k7 d1 => ?_⟩
      have h7 := k7 _ _ hDp h6
      have hk7 := k7 _ _ fkp hk6
      have d7 := dpa_sdq S6 k7 (tup_sqs _) d6
      have dk7 := dpa_sdq S6 k7 (tup_pqs _) dk6
      walk_at "z"
      refine z_bmL (fun R q => by walk_at "z"; exact q) h7 ?_
      walk_at "z"
      refine ⟨p, H0, rfl, S7, fun v2 x2 y2 H8 b2 b2' S8 k8 d2 => ?_⟩
      have d1' := kp_sd S7 k8 rfl d1
      have h8 := k8 _ _ hDp h7
      have hk8 := k8 _ _ fkp hk7
      have d8 := dpa_sdq S7 k8 (tup_sqs _) d7
      have dk8 := dpa_sdq S7 k8 (tup_pqs _) dk7
      walk_at "z"
      intro pt H9 _ s9 h9
      walk_at "z"
      have hD9 := s9 _ _ h8
      have dt : Dp K H9 (.ref pt) (sgQ (some ((x1, y1), (x2, y2)))) := dp_mk h9 (.cons (dp_mono s9 d1') (.cons (dp_mono s9 d2) .nil))
      refine z_append hD9 (by omega) ?_
      walk_at "z"
      refine ⟨sd_updq (S8.mono s9) hD0 hDp, kp_updq (((k6.trans' k7).trans' k8).trans' (kp_of s9)) fD2, by rw [upd_ne hDDk]; exact s9 _ _ hk8, dp_kpA kp_at hD9 (tup_pqs _) (dp_monoA s9 dk8), acc ++ [.ref pt], sgs ++ [some ((x1, y1), (x2, y2))], _, _, rfl, upd_same, ?_, by rw [List.length_append, l5]; rfl, fun s hs => ?_⟩
      · rw [List.map_append]
        exact dpa_app (dp_kpA kp_at hD9 (tup_sqs _) (dp_monoA s9 d8)) (.cons (dp_kp kp_at hD9 rfl dt) .nil)
      · rcases List.mem_append.mp hs with hs | hs
        · exact b5 s hs
        · rw [List.mem_singleton.mp hs]
          exact ⟨⟨b1, b1'⟩, ⟨b2, b2'⟩⟩
  clear S4 k04 hk4 dk4 h4 s4 hD
  rintro σ' H5 ⟨S5, k5, hk5, dk5, acc, sgs, kv, fv, rfl, h5, d5, l5, b5⟩
  walk_at "z"
  refine z_tupOf (.inl (.inl hk5)) fun pk H6 _ s6 h6 => ?_
  have h5' := s6 _ _ h5
  walk_at "z"
  refine z_tupOf (.inl (.inl h5')) fun ps H7 _ s7 h7 => ?_
  walk_at "z"
  intro pp H8 _ s8 h8
  have z8 := (s6.trans s7).trans s8
  exact q _ pts sgs cyc H8 (dp_mkpath (.inl (.inl h8)) (.inl (.inl ((s7.trans s8) _ _ h6))) (.inl (.inl (s8 _ _ h7))) (dp_monoA z8 dk5) (dp_monoA z8 d5)) ⟨by omega, by omega, by rw [l5, lk]; exact hm, bk, b5⟩ (S5.mono z8) (k5.trans' (kp_of z8))

end
def QIt (K : PySem.W.Frag) (R : It → Hp → Prop) : VK := fun x H1 => ∃ a, x = .ref a ∧ (∃ xs, SqT K H1 a xs) ∧ R (Itt K a) H1
theorem z_iT {K : PySem.W.Frag} {te : TE} {σ : L2.St} {H : Hp} {R : It → Hp → Prop} (h : te σ H (QIt K R)) : iTup K te σ H R := h
theorem z_forTE {K : PySem.W.Frag} {tl : TE} {g : TG} {tb : TS} {n : L2.St → Hp → Prop} {r : VK} {b c : L2.St → Hp → Prop} {σ : L2.St} {H : Hp} (h : tl σ H fun x H1 => tFor (iTup K (tC x)) g tb ⟨n, r, b, c⟩ σ H1) : tFor (iTup K tl) g tb ⟨n, r, b, c⟩ σ H := h
/-- [e for x in ..], its elements data -/
theorem z_lcD {K : PySem.W.Frag} {H : Hp} {Q : VK} {σ : L2.St} {wi : TI} {J : It} {m : Nat} {G : Hp → Prop} {Y : Nat → Hp → V → Hp → Prop} {g : TG} {te : TE} {vs : List Nat} (ds : List PyData) (w : Walk J m G Y) (hl : ds.length = m) (hm : m ≤ 1000) (ht : tupOnlyA ds = true) (hi : ∀ R : It → Hp → Prop, R J H → wi σ H R) (hG : ∀ H', Same H H' → G H')
    (hs : ∀ i x d H' H2 (R : VK), ds[i]? = some d → i < m → Same H H' → Y i H' x H2 → (∀ v H3, Same H' H3 → Dp K H3 v d → R v H3) → g x (wipe σ vs) H2 fun σ2 H3 => wipe σ2 vs = wipe σ vs ∧ te σ2 H3 R)
    (hd : ∀ D acc H', H D = none → Same H H' → H' D = some (.lst acc) → acc.length = m → DpAll K H' acc ds → Q (.ref D) H') : tLc wi g tYes te vs σ H Q := by
  have hta : ∀ {ds : List PyData} (i : Nat), tupOnlyA ds = true → tupOnlyA (ds.take i) = true := by
    intro ds
    induction ds with
    | nil => intro i _; cases i <;> rfl
    | cons d r ih =>
      intro i h
      have h' : (tupOnly d && tupOnlyA r) = true := h
      rw [Bool.and_eq_true] at h'
      cases i with
      | zero => rfl
      | succ i =>
        show (tupOnly d && tupOnlyA (r.take i)) = true
        rw [h'.1, ih i h'.2]
        rfl
  refine Cw.z_lcW w hi (fun i D acc H' => Same H H' ∧ H D = none ∧ DpAll K H' acc (ds.take i)) (fun D H' f s _ => ⟨s, f, .nil⟩) (fun i D acc H' h => hG _ h.1) (fun i x D acc H' H2 hi' hl' hD ⟨s', fD, ea⟩ y => ?_) (fun D acc H' fD hl' hD ⟨s', _, ea⟩ => ?_)
  · have hw : ds[i]? = some ds[i] := List.getElem?_eq_getElem (by omega)
    refine hs i x ds[i] H' H2 _ hw hi' s' y fun v H3 s3 dv => ?_
    refine z_lcB (s3 _ _ hD) hl' (by omega) fun H5 hD5 k5 e5 => ⟨fun b o h => ?_, fD, ?_⟩
    · rw [e5 b (ne_of_none h fD)]
      exact s3 _ _ (s' _ _ h)
    · rw [List.take_add_one, hw]
      refine dpa_app (dp_kpA k5 (s3 _ _ hD) (hta i ht) (dp_monoA s3 ea)) (.cons (dp_kp k5 (s3 _ _ hD) ?_ dv) .nil)
      have : ∀ {ds : List PyData} {i : Nat} {d : PyData}, tupOnlyA ds = true → ds[i]? = some d → tupOnly d = true := by
        intro ds
        induction ds with
        | nil => intro i d _ e; cases e
        | cons d0 r ih =>
          intro i d h e
          have h' : (tupOnly d0 && tupOnlyA r) = true := h
          rw [Bool.and_eq_true] at h'
          cases i with
          | zero =>
            cases e
            exact h'.1
          | succ i => exact ih (i := i) h'.2 (by simpa using e)
      exact this ht hw
  · rw [← hl, List.take_length] at ea
    exact hd D acc H' fD s' hD hl' ea
/-! ### paths reversed -/
def sw : Option (PQ × PQ) → Option (PQ × PQ)
  | none => none
  | some (c, d) => some (d, c)
theorem sw_sw (s : Option (PQ × PQ)) : sw (sw s) = s := by
  match s with
  | none => rfl
  | some (c, d) => rfl
theorem bs_sw {s : Option (PQ × PQ)} (h : Bs s) : Bs (sw s) := by
  match s with
  | none => trivial
  | some (c, d) => exact ⟨h.2, h.1⟩
def rvp {α : Type} (cyc : Bool) (pts : List α) : List α := if cyc = true then pts.take 1 ++ pts.reverse.take (pts.length - 1) else pts.reverse
theorem rvp_len {α : Type} (cyc : Bool) (pts : List α) : (rvp cyc pts).length = pts.length := by
  unfold rvp
  split
  · rw [List.length_append, List.length_take, List.length_take, List.length_reverse]
    omega
  · rw [List.length_reverse]
theorem rvp_map {α β : Type} (f : α → β) (cyc : Bool) (l : List α) : (rvp cyc l).map f = rvp cyc (l.map f) := by
  unfold rvp
  split
  · rw [List.map_append, List.map_take, List.map_take, List.map_reverse, List.length_map]
  · rw [List.map_reverse]
theorem rvp_cons {α : Type} (a : α) (l : List α) : rvp true (a :: l) = a :: l.reverse := by
  show (a :: l).take 1 ++ (a :: l).reverse.take ((a :: l).length - 1) = _
  have h1 : (a :: l).take 1 = [a] := rfl
  have h2 : (a :: l).reverse.take ((a :: l).length - 1) = l.reverse := by
    rw [List.reverse_cons, List.length_cons, Nat.add_sub_cancel, List.take_append_of_le_length (by rw [List.length_reverse]; exact Nat.le_refl _), List.take_of_length_le (by rw [List.length_reverse]; exact Nat.le_refl _)]
  rw [h1, h2]
  rfl
theorem rvp_rvp {α : Type} (cyc : Bool) (l : List α) : rvp cyc (rvp cyc l) = l := by
  cases cyc with
  | false => exact List.reverse_reverse l
  | true =>
    cases l with
    | nil => rfl
    | cons a l => rw [rvp_cons, rvp_cons, List.reverse_reverse]
theorem mem_rvp {α : Type} {cyc : Bool} {l : List α} {a : α} (h : a ∈ rvp cyc l) : a ∈ l := by
  unfold rvp at h
  split at h
  · rcases List.mem_append.mp h with h | h
    · exact List.mem_of_mem_take h
    · exact List.mem_reverse.mp (List.mem_of_mem_take h)
  · exact List.mem_reverse.mp h
theorem dpa_rvp {K : PySem.W.Frag} {H : Hp} {ds : List PyData} {vs : List V} (cyc : Bool) (h : DpAll K H vs ds) : DpAll K H (rvp cyc vs) (rvp cyc ds) := by
  have hl : vs.length = ds.length := dpa_len h
  unfold rvp
  split
  · rw [hl]
    exact dpa_app (dpa_take 1 h) (dpa_take _ (dpa_rev h))
  · exact dpa_rev h
def sp_exchanged (K : PySem.W.Frag) : Sp := fun vs H Q _ => ∃ (v : V) (s : Option (PQ × PQ)), vs = [v] ∧ Dp K H v (sgQ s) ∧ ∀ v' H', Same H H' → Dp K H' v' (sgQ (sw s)) → Q v' H'
def sp_reverse (K : PySem.W.Frag) (P : Addr) : Sp := fun vs H Q _ => ∃ (v : V) (cyc : Bool) (pts : List PQ) (sgs : List (Option (PQ × PQ))), vs = [v] ∧ Dp K H v (pathQ pts sgs cyc) ∧ 1 ≤ pts.length ∧ pts.length ≤ 100 ∧ sgs.length ≤ 100 ∧ GxR.TabG H P ∧
  ∀ v' H', Tg.SameX H H' → Dp K H' v' (pathQ (rvp cyc pts) (sgs.reverse.map sw) cyc) → Q v' H'
section
theorem ok_exchanged {P : Program} {w : World} {K : PySem.W.Frag} {mg : Str → Option Value} {base : Heap} {A : Nat → Addr} {D : Nat → FuncData} (T : Txt K mg A D base) : FnOk P w K mg base (L2.CX P w) 1 (A 14) (D 14) ["segment"] (sp_exchanged K) := by
  refine T.F_exchanged.okX sc_exchanged (fun vs H Q E h => ?_) (fun cdv A' outer s H vs Q E hr h => ?_)
  · obtain ⟨v, s, rfl, _⟩ := h
    rfl
  obtain ⟨v, s, rfl, da, q⟩ := h
  refine ⟨_, (pss_cons (ps_if (pt_cmpR Z.op_isN1 (pv 0) pe_non (nomark _))
  (pss_one (ps_ret pe_non))
  pss_nil)
  (pss_one (ps_ret (pe_tup (pa_cons (pe_ix ix_tup (pv 0) pe_int (fun _ _ => rfl)) (pa_cons (pe_ix ix_tup (pv 0) pe_int (fun _ _ => rfl)) pa_nil)))))), ?_⟩
  match s with
  | none =>
    rw [dp_non da]
    walk_at "z"
    exact q _ H (fun _ _ z => z) .non
  | some (c, d) =>
    obtain ⟨p, v1, v2, rfl, hp, d1, d2⟩ := dp_t2 da
    walk_at "z"
    intro p9 H9 f9 s9 h9
    exact q _ H9 s9 (dp_mk h9 (.cons (dp_mono s9 d2) (.cons (dp_mono s9 d1) .nil)))
theorem ok_reverse {P : Program} {w : World} {K : PySem.W.Frag} {mg : Str → Option Value} {base : Heap} {A : Nat → Addr} {D : Nat → FuncData} (T : Txt K mg A D base) : FnOk P w K mg base (L2.CX P w) 3 (A 13) (D 13) ["path"] (sp_reverse K (A 46)) := by
  refine T.F_reverse.okC T.k_reverse sc_reverse (fun vs H Q E h => ?_) (fun A' outer s H vs Q E hr h => ?_)
  · obtain ⟨v, cyc, pts, sgs, rfl, _⟩ := h
    rfl
  obtain ⟨v, cyc, pts, sgs, rfl, dP, n1, n4, n3, tG, q⟩ := h
  refine ⟨_, (pss_cons (ps_asg (pv 0) (pg_tup (by rfl) (pgs_cons (pg_name (i := 1) sc_reverse.nd rfl (.inl rfl)) (pgs_cons (pg_name (i := 2) sc_reverse.nd rfl (.inl rfl)) (pgs_cons (pg_name (i := 3) sc_reverse.nd rfl (.inl rfl)) pgs_nil)))))
  (Evl.pss_cut (ps_if (pt_val (pv 3))
  (pss_one (ps_set (i := 4) sc_reverse.nd rfl (.inl rfl) (pe_op op_catT (pe_slice L2.sl_tupA (pv 1) po_none (po_some pe_int)) (Tg.pe_revT (pv 1) (po_some pe_int)))))
  (pss_one (ps_set (i := 4) sc_reverse.nd rfl (.inl rfl) (Tg.pe_revT (pv 1) po_none))))
  (pss_one (ps_ret (pe_tup (pa_cons (pv 4) (pa_cons (Tg.pe_tupG (k := 1) (own := [("segment", 5)]) (g := gName 5) hr T.t_reverse rfl sc_reverse.nd (pi_tup (Tg.pe_revT (pv 2) po_none)) (blkOk_by (N := ["path", "knots", "segments", "is_cycle", "turned", "segment"]) (sc := defScope s_reverse) (by decide +kernel)) (by decide +kernel) rfl rfl (fun A' s H C code cl fp => pg_name (i := 5) sc_reverse.nd rfl (Or.inl rfl)) (fun A' s H C code cl fp hr => (pe_call (ok_exchanged T) (hr.mono (by decide)) (by rfl) T.m_exchanged T.F_exchanged.kp T.b_exchanged .nil passL (pa_cons (pv 5) pa_nil))) (by rfl) T.z_tuple) (pa_cons (pv 3) pa_nil)))))))), ?_⟩
  obtain ⟨a, k, g, ks, ss, rfl, h1, h2, h3, ak, ag⟩ := dp_path dP
  have kl : ks.length = pts.length := by rw [dpa_len ak, List.length_map]
  have sl : ss.length = sgs.length := by rw [dpa_len ag, List.length_map]
  walk_at "z"
  refine z_cut (fun σ' H' => ∃ t : Addr, σ' = [some (.ref a), some (.ref k), some (.ref g), some (.bl cyc), some (.ref t), none] ∧ Same H H' ∧ SqT K H' t (rvp cyc ks)) ?_ ?_
  · walk_at "z"
    cases cyc with
    | true =>
      walk_at "z"
      refine ⟨1, rfl, z_slA' h2 fun p1 H1 s1 e1 => ?_⟩
      walk_at "z"
      refine Tg.z_revT (hi := some 0) (fun R r => by walk_at "z"; exact r) (seqT s1 h2) (fun R r => by walk_at "z"; exact r) (fun h e => by cases e; omega) fun p2 H2 f2 s2 e2 => ?_
      walk_at "z"
      have ne : cutV ks none (some 1) = ks.take 1 := by
        unfold cutV
        rw [HT.sIx_none, show (1 : Int) = ((1 : Nat) : Int) from rfl, HT.sIx_nat, List.drop_zero, show min 1 ks.length - 0 = 1 by omega]
      have n8 : (ks.take 1).length = 1 := by
        rw [List.length_take]
        omega
      rw [ne] at e1
      refine z_catA (seqT s2 e1) (.inl (.inl e2)) (fun z => by rw [z] at n8; cases n8) (by have := Tg.cntR_le ks.length (some 0); rw [List.length_take, List.length_take, List.length_reverse]; omega) fun p3 H3 s3 e3 => ?_
      exact ⟨p3, rfl, (s1.trans s2).trans s3, e3⟩
    | false =>
      walk_at "z"
      refine Tg.z_revT (hi := none) (fun R r => by walk_at "z"; exact r) h2 (fun R r => r) (fun h e => by cases e) fun p2 H2 f2 s2 e2 => ?_
      walk_at "z"
      refine ⟨p2, rfl, s2, .inl (.inl ?_)⟩
      rw [e2]
      show some (HO.tup (ks.reverse.take ks.length)) = some (HO.tup ks.reverse)
      rw [List.take_of_length_le (by rw [List.length_reverse]; omega)]
  · rintro σ' H1 ⟨t, rfl, s1, et⟩
    walk_at "z"
    refine z_tupE ?_
    refine Tg.z_revT (hi := none) (fun R r => by walk_at "z"; exact r) (seqT s1 h3) (fun R r => r) (fun h e => by cases e) fun p2 H2 f2 s2 e2 => ?_
    have s02 := s1.trans s2
    have e2 : H2 p2 = some (.tup ss.reverse) := by
      rw [e2]
      show some (HO.tup (ss.reverse.take ss.length)) = some (HO.tup ss.reverse)
      rw [List.take_of_length_le (by rw [List.length_reverse]; omega)]
    have dr : DpAll K H2 ss.reverse (sgs.map sgQ).reverse := dpa_rev (dp_monoA s02 ag)
    refine Tg.z_tupD (K := K) (G := fun H => SqT K H p2 ss.reverse) ((sgs.reverse.map sw).map sgQ) walk_tup (by rw [List.length_map, List.length_map, List.length_reverse, List.length_reverse]; exact sl.symm) (by rw [List.length_reverse]; omega) (fun R r => ⟨p2, rfl, ⟨ss.reverse, .inl (.inl e2)⟩, r⟩) (((Tg.SameX.of s02).tab _ tG)) (fun H' s => .inl (.inl (s.tup e2)))
      (fun i x d H3 H4 R hd hi s3 y hR => ?_) fun acc p H3 s3 hl e3 a3 => ?_
    · obtain ⟨rfl, hx⟩ := y
      rw [List.getElem?_map, List.getElem?_map] at hd
      obtain ⟨sg, hsg⟩ : ∃ z, sgs.reverse[i]? = some z := by
        cases h : sgs.reverse[i]? with
        | none => rw [h] at hd; cases hd
        | some z => exact ⟨z, rfl⟩
      rw [hsg] at hd
      cases hd
      obtain ⟨x', hx', dx⟩ := dpa_get dr (show (sgs.map sgQ).reverse[i]? = some (sgQ sg) by rw [← List.map_reverse, List.getElem?_map, hsg]; rfl)
      rw [hx] at hx'
      cases hx'
      refine ⟨rfl, ?_⟩
      walk_at "z"
      refine ⟨x, sg, rfl, s3.dp dx, fun v' H5 s5 d5 => ?_⟩
      exact hR v' H5 (.of s5) d5
    · walk_at "z"
      intro p9 H9 f9 s9 h9
      have s39 : Tg.SameX H2 H9 := s3.th s9
      have s09 : Tg.SameX H H9 := (Tg.SameX.of s02).trans s39
      refine q _ H9 s09 (dp_mkpath (.inl (.inl h9)) (s39.seqT (seqT s2 et)) (.inl (.inl (s9 _ _ e3))) ?_ (dp_monoA s9 a3))
      rw [rvp_map]
      exact dpa_rvp cyc (s09.dpA ak)

end
/-! ### between two points -/
def btw (p q f : Rat) : Rat := p + f * (q - p)
def Fb (p q f : Rat) : Prop := Bg p ∧ Bg q ∧ Bg f ∧ fitsQ (q - p) ∧ fitsQ (f * (q - p)) ∧ fitsQ (btw p q f)
def sp_part_between (K : PySem.W.Frag) : Sp := fun vs H Q _ => ∃ (v w u : V) (p q f : Rat), vs = [v, w, u] ∧ Dp K H v (qD p) ∧ Dp K H w (qD q) ∧ Dp K H u (qD f) ∧ Fb p q f ∧ RetD K H (qD (btw p q f)) Q
def sp_between (K : PySem.W.Frag) : Sp := fun vs H Q _ => ∃ (v w u : V) (p p' q q' f : Rat), vs = [v, w, u] ∧ Dp K H v (pD p p') ∧ Dp K H w (pD q q') ∧ Dp K H u (qD f) ∧ Fb p q f ∧ Fb p' q' f ∧ RetD K H (pD (btw p q f) (btw p' q' f)) Q
theorem zb_btw {p q f : Rat} {N M L R : Nat} (h : Zb p N M) (h' : Zb q N M) (hf : Zb f L R) : Zb (btw p q f) (N * L) (M * L + R * (M + M)) := by
  have a := zb_mul hf (zb_sub h' h)
  rw [Nat.mul_comm L N] at a
  exact zb_add (zb_up L h) a
theorem zfits {a : Rat} {N M : Nat} (h : Zb a N M) (h0 : N ≠ 0) (h1 : M ≤ 1000000000000000000) (h2 : N ≤ 1000000000000000000) : fitsQ a := (h.bd h0).fits h1 h2
theorem fb_of {p q f : Rat} {N M L R : Nat} (h : Zb p N M) (h' : Zb q N M) (hf : Zb f L R) (h0 : N ≠ 0) (h1 : L ≠ 0) (n1 : N * L ≤ 1000000000000000000) (n2 : M * L + R * (M + M) ≤ 1000000000000000000) (n3 : R ≤ 1000000000000000000) (n4 : M + M ≤ 1000000000000000000) : Fb p q f := by
  have l1 : N ≤ N * L := Nat.le_mul_of_pos_right _ (by omega)
  have l2 : L ≤ N * L := Nat.le_mul_of_pos_left _ (by omega)
  have h2 : L * N ≠ 0 := Nat.mul_ne_zero h1 h0
  have h3 : N * L ≠ 0 := Nat.mul_ne_zero h0 h1
  refine ⟨fits_bg (zfits h h0 (by omega) (by omega)), fits_bg (zfits h' h0 (by omega) (by omega)), fits_bg (zfits hf h1 n3 (by omega)), zfits (zb_sub h' h) h0 n4 (by omega), zfits (zb_mul hf (zb_sub h' h)) h2 (by omega) (by rw [Nat.mul_comm]; exact n1), zfits (zb_btw h h' hf) h3 n2 n1⟩
section
theorem ok_part_between {P : Program} {w : World} {K : PySem.W.Frag} {mg : Str → Option Value} {base : Heap} {A : Nat → Addr} {D : Nat → FuncData} (T : Txt K mg A D base) : FnOk P w K mg base (L2.CX P w) 3 (A 16) (D 16) ["p", "q", "fraction"] (sp_part_between K) := by
  refine T.F_part_between.okX sc_part_between (fun vs H Q E h => ?_) (fun cdv A' outer s H vs Q E hr h => ?_)
  · obtain ⟨_, _, _, _, _, _, rfl, _⟩ := h
    rfl
  obtain ⟨_, _, _, p, q', f, rfl, h1, h2, h3, ⟨g1, g2, g3, f1, f2, f3⟩, q⟩ := h
  refine ⟨_, (pss_one (ps_ret (pe_call (ok_add T) (hr.mono (by decide)) (by rfl) T.m_add T.F_add.kp T.b_add .nil (passes_call (takes_of rfl rfl rfl rfl) (fun _ _ _ _ h => h)) (pa_cons (pv 0) (pa_cons (pe_call (ok_multiply T) (hr.mono (by decide)) (by rfl) T.m_multiply T.F_multiply.kp T.b_multiply .nil (passes_call (takes_of rfl rfl rfl rfl) (fun _ _ _ _ h => h)) (pa_cons (pv 2) (pa_cons (pe_call (ok_subtract T) (hr.mono (by decide)) (by rfl) T.m_subtract T.F_subtract.kp T.b_subtract .nil (passes_call (takes_of rfl rfl rfl rfl) (fun _ _ _ _ h => h)) (pa_cons (pv 1) (pa_cons (pv 0) pa_nil))) pa_nil))) pa_nil))))), ?_⟩
  walk_at "z"
  refine opq h2 h1 g2 g1 f1 fun u1 H1 s1 e1 => ?_
  walk_at "z"
  refine opq (dp_mono s1 h3) e1 g3 (fits_bg f1) f2 fun u2 H2 s2 e2 => ?_
  walk_at "z"
  exact opq (dp_mono (s1.trans s2) h1) e2 g1 (fits_bg f2) f3 fun u3 H3 s3 e3 => q _ _ ((s1.trans s2).trans s3) e3
theorem ok_between {P : Program} {w : World} {K : PySem.W.Frag} {mg : Str → Option Value} {base : Heap} {A : Nat → Addr} {D : Nat → FuncData} (T : Txt K mg A D base) : FnOk P w K mg base (L2.CX P w) 4 (A 15) (D 15) ["p", "q", "fraction"] (sp_between K) := by
  refine T.F_between.okX sc_between (fun vs H Q E h => ?_) (fun cdv A' outer s H vs Q E hr h => ?_)
  · obtain ⟨_, _, _, _, _, _, _, _, rfl, _⟩ := h
    rfl
  obtain ⟨_, _, _, p, p', q1, q1', f, rfl, h1, h2, h3, c1, c2, q⟩ := h
  obtain ⟨pp, w1, w2, rfl, hS, k1, k2⟩ := dp_t2 h1
  obtain ⟨pq, x1, x2, rfl, hT, l1, l2⟩ := dp_t2 h2
  refine ⟨_, (pss_one (ps_ret (pe_tup (pa_cons (pe_call (ok_part_between T) (hr.mono (by decide)) (by rfl) T.m_part_between T.F_part_between.kp T.b_part_between .nil (passes_call (takes_of rfl rfl rfl rfl) (fun _ _ _ _ h => h)) (pa_cons (pe_ix ix_tup (pv 0) pe_int (fun _ _ => rfl)) (pa_cons (pe_ix ix_tup (pv 1) pe_int (fun _ _ => rfl)) (pa_cons (pv 2) pa_nil)))) (pa_cons (pe_call (ok_part_between T) (hr.mono (by decide)) (by rfl) T.m_part_between T.F_part_between.kp T.b_part_between .nil (passes_call (takes_of rfl rfl rfl rfl) (fun _ _ _ _ h => h)) (pa_cons (pe_ix ix_tup (pv 0) pe_int (fun _ _ => rfl)) (pa_cons (pe_ix ix_tup (pv 1) pe_int (fun _ _ => rfl)) (pa_cons (pv 2) pa_nil)))) pa_nil))))), ?_⟩
  walk_at "z"
  refine ⟨_, _, _, p, q1, f, rfl, k1, l1, h3, c1, fun u1 H1 s1 e1 => ?_⟩
  have hS1 := seqT s1 hS
  have hT1 := seqT s1 hT
  walk_at "z"
  refine ⟨_, _, _, p', q1', f, rfl, dp_mono s1 k2, dp_mono s1 l2, dp_mono s1 h3, c2, fun u2 H2 s2 e2 => ?_⟩
  walk_at "z"
  intro p9 H9 _ s9 h9
  exact q _ _ ((s1.trans s2).trans s9) (dp_p h9 (dp_mono (s2.trans s9) e1) (dp_mono s9 e2))
end
theorem btwP {K : PySem.W.Frag} {H : Hp} {v w u : V} {p p' q q' f : Rat} {Q : VK} {E : XK} {N M L R : Nat} (h1 : Dp K H v (pD p p')) (h2 : Dp K H w (pD q q')) (h3 : Dp K H u (qD f)) (a : Zb p N M) (a' : Zb p' N M) (b : Zb q N M) (b' : Zb q' N M) (hf : Zb f L R)
    (h0 : N ≠ 0) (hL : L ≠ 0) (n1 : N * L ≤ 1000000000000000000) (n2 : M * L + R * (M + M) ≤ 1000000000000000000) (n3 : R ≤ 1000000000000000000) (n4 : M + M ≤ 1000000000000000000) (k : RetD K H (pD (btw p q f) (btw p' q' f)) Q) : sp_between K [v, w, u] H Q E :=
  ⟨v, w, u, p, p', q, q', f, rfl, h1, h2, h3, fb_of a b hf h0 hL n1 n2 n3 n4, fb_of a' b' hf h0 hL n1 n2 n3 n4, k⟩
/-- a part of a cut: the control, the one between controls, the point -/
def c1 (a c f : Rat) : Rat := btw a c f
def c2 (a c d f : Rat) : Rat := btw (btw a c f) (btw c d f) f
def c3 (a c d b f : Rat) : Rat := btw (c2 a c d f) (c2 c d b f) f
def tt (x y z w : Rat) : PyData := .tuple [pD x y, pD z w]
theorem zb_cvx {p q f : Rat} {N M L : Nat} (h : Zb p N M) (h' : Zb q N M) (hf : Zb f L L) (f0 : 0 ≤ f) (f1 : f ≤ 1) (hL : L ≠ 0) : Zb (btw p q f) (N * L) (M * L) := by
  obtain ⟨a, ea, la⟩ := h
  obtain ⟨b, eb, lb⟩ := h'
  obtain ⟨c, ec, lc⟩ := hf
  have hLp : (0 : Rat) < (L : Rat) := by
    have : 0 < L := by omega
    exact_mod_cast this
  have c0 : 0 ≤ c := by
    have : (0 : Rat) ≤ (c : Rat) := by
      rw [← ec]
      exact Rat.mul_nonneg f0 (Rat.le_of_lt hLp)
    exact_mod_cast this
  have c1 : c ≤ (L : Int) := by omega
  refine ⟨a * ((L : Int) - c) + c * b, ?_, ?_⟩
  · have e1 : ((a * ((L : Int) - c) + c * b : Int) : Rat) = (a : Rat) * ((L : Rat) - (c : Rat)) + (c : Rat) * (b : Rat) := by
      push_cast
      rfl
    have e2 : ((N * L : Nat) : Rat) = (N : Rat) * (L : Rat) := by
      push_cast
      rfl
    rw [e1, e2, ← ea, ← eb, ← ec]
    unfold btw
    grind
  · have h1 : (a * ((L : Int) - c)).natAbs ≤ M * (L - c.toNat) := by
      rw [Int.natAbs_mul]
      exact Nat.mul_le_mul la (by omega)
    have h2 : (c * b).natAbs ≤ c.toNat * M := by
      rw [Int.natAbs_mul]
      exact Nat.mul_le_mul (by omega) lb
    have h3 : M * (L - c.toNat) + c.toNat * M = M * L := by
      rw [Nat.mul_comm c.toNat M, ← Nat.mul_add]
      congr 1
      omega
    have h4 := Int.natAbs_add_le (a * ((L : Int) - c)) (c * b)
    omega
theorem btwC {K : PySem.W.Frag} {H : Hp} {v w u : V} {p p' q q' f : Rat} {Q : VK} {E : XK} {N M L : Nat} (h1 : Dp K H v (pD p p')) (h2 : Dp K H w (pD q q')) (h3 : Dp K H u (qD f)) (a : Zb p N M) (a' : Zb p' N M) (b : Zb q N M) (b' : Zb q' N M) (hf : Zb f L L)
    (h0 : N ≠ 0) (hL : L ≠ 0) (n1 : N * L ≤ 1000000000000000000) (n2 : 3 * (M * L) ≤ 1000000000000000000) (k : RetD K H (pD (btw p q f) (btw p' q' f)) Q) : sp_between K [v, w, u] H Q E := by
  have l1 : L ≤ N * L := Nat.le_mul_of_pos_left _ (by omega)
  have l2 : M ≤ M * L := Nat.le_mul_of_pos_right _ (by omega)
  have e : L * (M + M) = M * L + M * L := by rw [Nat.mul_add, Nat.mul_comm]
  exact btwP h1 h2 h3 a a' b b' hf h0 hL n1 (by omega) (by omega) (by omega) k
/-- how far a cut may go -/
structure CutB (f : Rat) (N M L : Nat) : Prop where
  zf : Zb f L L
  f0 : 0 ≤ f
  f1 : f ≤ 1
  hN : N ≠ 0
  hL : L ≠ 0
  n1 : N * L * L * L ≤ 1000000000000000000
  n2 : 3 * (M * L * L * L) ≤ 1000000000000000000
theorem CutB.up {f : Rat} {N M L : Nat} (c : CutB f N M L) : N * L ≤ N * L * L ∧ N * L * L ≤ N * L * L * L ∧ M * L ≤ M * L * L ∧ M * L * L ≤ M * L * L * L := by
  have hL := c.hL
  exact ⟨Nat.le_mul_of_pos_right _ (by omega), Nat.le_mul_of_pos_right _ (by omega), Nat.le_mul_of_pos_right _ (by omega), Nat.le_mul_of_pos_right _ (by omega)⟩
def sp_cut_segment (K : PySem.W.Frag) : Sp := fun vs H Q _ => ∃ (v s w u : V) (ax ay bx by' f : Rat) (N M L : Nat), vs = [v, s, w, u] ∧ Dp K H v (pD ax ay) ∧ Dp K H w (pD bx by') ∧ Dp K H u (qD f) ∧ Zb ax N M ∧ Zb ay N M ∧ Zb bx N M ∧ Zb by' N M ∧ CutB f N M L ∧
  ((s = .non ∧ RetD K H (.tuple [.none, pD (btw ax bx f) (btw ay by' f), .none]) Q) ∨
   ∃ (cx cy dx dy : Rat), Dp K H s (tt cx cy dx dy) ∧ Zb cx N M ∧ Zb cy N M ∧ Zb dx N M ∧ Zb dy N M ∧
     RetD K H (.tuple [tt (c1 ax cx f) (c1 ay cy f) (c2 ax cx dx f) (c2 ay cy dy f), pD (c3 ax cx dx bx f) (c3 ay cy dy by' f), tt (c2 cx dx bx f) (c2 cy dy by' f) (c1 dx bx f) (c1 dy by' f)]) Q)
theorem dp_tt {K : PySem.W.Frag} {H : Hp} {p : Addr} {v w : V} {a b c d : Rat} (h : H p = some (.tup [v, w])) (hx : Dp K H v (pD a b)) (hy : Dp K H w (pD c d)) : Dp K H (.ref p) (tt a b c d) := dp_mk h (.cons hx (.cons hy .nil))
section
theorem ok_cut_segment {P : Program} {w : World} {K : PySem.W.Frag} {mg : Str → Option Value} {base : Heap} {A : Nat → Addr} {D : Nat → FuncData} (T : Txt K mg A D base) : FnOk P w K mg base (L2.CX P w) 5 (A 17) (D 17) ["a", "segment", "b", "fraction"] (sp_cut_segment K) := by
  refine T.F_cut_segment.okX sc_cut_segment (fun vs H Q E h => ?_) (fun cdv A' outer s H vs Q E hr h => ?_)
  · obtain ⟨_, _, _, _, _, _, _, _, _, _, _, _, rfl, _⟩ := h
    rfl
  obtain ⟨v, sg, w, u, ax, ay, bx, by', f, N, M, L, rfl, ha, hb, hu, za, za', zb, zb', cb, q⟩ := h
  have zf := cb.zf
  have hN := cb.hN
  have hL := cb.hL
  have hN1 : N * L ≠ 0 := Nat.mul_ne_zero hN hL
  have hN2 : N * L * L ≠ 0 := Nat.mul_ne_zero hN1 hL
  obtain ⟨u1', u2', u3', u4'⟩ := cb.up
  have m1 := cb.n1
  have m2 := cb.n2
  refine ⟨_, (pss_cons (ps_if (pt_cmpR Z.op_isN1 (pv 1) pe_non (nomark _))
  (pss_one (ps_ret (pe_tup (pa_cons pe_non (pa_cons (pe_call (ok_between T) (hr.mono (by decide)) (by rfl) T.m_between T.F_between.kp T.b_between .nil (passes_call (takes_of rfl rfl rfl rfl) (fun _ _ _ _ h => h)) (pa_cons (pv 0) (pa_cons (pv 2) (pa_cons (pv 3) pa_nil)))) (pa_cons pe_non pa_nil))))))
  pss_nil)
  (pss_cons (ps_asg (pv 1) (pg_tup (by rfl) (pgs_cons (pg_name (i := 4) sc_cut_segment.nd rfl (.inl rfl)) (pgs_cons (pg_name (i := 5) sc_cut_segment.nd rfl (.inl rfl)) pgs_nil))))
  (pss_cons (ps_set (i := 6) sc_cut_segment.nd rfl (.inl rfl) (pe_call (ok_between T) (hr.mono (by decide)) (by rfl) T.m_between T.F_between.kp T.b_between .nil (passes_call (takes_of rfl rfl rfl rfl) (fun _ _ _ _ h => h)) (pa_cons (pv 0) (pa_cons (pv 4) (pa_cons (pv 3) pa_nil)))))
  (pss_cons (ps_set (i := 7) sc_cut_segment.nd rfl (.inl rfl) (pe_call (ok_between T) (hr.mono (by decide)) (by rfl) T.m_between T.F_between.kp T.b_between .nil (passes_call (takes_of rfl rfl rfl rfl) (fun _ _ _ _ h => h)) (pa_cons (pv 4) (pa_cons (pv 5) (pa_cons (pv 3) pa_nil)))))
  (pss_cons (ps_set (i := 8) sc_cut_segment.nd rfl (.inl rfl) (pe_call (ok_between T) (hr.mono (by decide)) (by rfl) T.m_between T.F_between.kp T.b_between .nil (passes_call (takes_of rfl rfl rfl rfl) (fun _ _ _ _ h => h)) (pa_cons (pv 5) (pa_cons (pv 2) (pa_cons (pv 3) pa_nil)))))
  (pss_cons (ps_set (i := 9) sc_cut_segment.nd rfl (.inl rfl) (pe_call (ok_between T) (hr.mono (by decide)) (by rfl) T.m_between T.F_between.kp T.b_between .nil (passes_call (takes_of rfl rfl rfl rfl) (fun _ _ _ _ h => h)) (pa_cons (pv 6) (pa_cons (pv 7) (pa_cons (pv 3) pa_nil)))))
  (pss_cons (ps_set (i := 10) sc_cut_segment.nd rfl (.inl rfl) (pe_call (ok_between T) (hr.mono (by decide)) (by rfl) T.m_between T.F_between.kp T.b_between .nil (passes_call (takes_of rfl rfl rfl rfl) (fun _ _ _ _ h => h)) (pa_cons (pv 7) (pa_cons (pv 8) (pa_cons (pv 3) pa_nil)))))
  (pss_one (ps_ret (pe_tup (pa_cons (pe_tup (pa_cons (pv 6) (pa_cons (pv 9) pa_nil))) (pa_cons (pe_call (ok_between T) (hr.mono (by decide)) (by rfl) T.m_between T.F_between.kp T.b_between .nil (passes_call (takes_of rfl rfl rfl rfl) (fun _ _ _ _ h => h)) (pa_cons (pv 9) (pa_cons (pv 10) (pa_cons (pv 3) pa_nil)))) (pa_cons (pe_tup (pa_cons (pv 10) (pa_cons (pv 8) pa_nil))) pa_nil))))))))))))), ?_⟩
  walk_at "z"
  rcases q with ⟨rfl, q⟩ | ⟨cx, cy, dx, dy, hs, zc, zc', zd, zd', q⟩
  · walk_at "z"
    refine btwC ha hb hu za za' zb zb' zf hN hL (by omega) (by omega) fun u1 H1 s1 e1 => ?_
    walk_at "z"
    intro p9 H9 _ s9 h9
    exact q _ _ (s1.trans s9) (dp_mk h9 (.cons .non (.cons (dp_mono s9 e1) (.cons .non .nil))))
  obtain ⟨ps, w1, w2, rfl, hS, k1, k2⟩ := dp_t2 hs
  walk_at "z"
  refine btwC ha k1 hu za za' zc zc' zf hN hL (by omega) (by omega) fun u1 H1 s1 e1 => ?_
  walk_at "z"
  refine btwC (dp_mono s1 k1) (dp_mono s1 k2) (dp_mono s1 hu) zc zc' zd zd' zf hN hL (by omega) (by omega) fun u2 H2 s2 e2 => ?_
  walk_at "z"
  have z2 := s1.trans s2
  refine btwC (dp_mono z2 k2) (dp_mono z2 hb) (dp_mono z2 hu) zd zd' zb zb' zf hN hL (by omega) (by omega) fun u3 H3 s3 e3 => ?_
  walk_at "z"
  have z3 := z2.trans s3
  have y1 := zb_cvx za zc zf cb.f0 cb.f1 hL
  have y1' := zb_cvx za' zc' zf cb.f0 cb.f1 hL
  have y2 := zb_cvx zc zd zf cb.f0 cb.f1 hL
  have y2' := zb_cvx zc' zd' zf cb.f0 cb.f1 hL
  have y3 := zb_cvx zd zb zf cb.f0 cb.f1 hL
  have y3' := zb_cvx zd' zb' zf cb.f0 cb.f1 hL
  refine btwC (dp_mono (s2.trans s3) e1) (dp_mono s3 e2) (dp_mono z3 hu) y1 y1' y2 y2' zf hN1 hL (by omega) (by omega) fun u4 H4 s4 e4 => ?_
  walk_at "z"
  refine btwC (dp_mono (s3.trans s4) e2) (dp_mono s4 e3) (dp_mono (z3.trans s4) hu) y2 y2' y3 y3' zf hN1 hL (by omega) (by omega) fun u5 H5 s5 e5 => ?_
  walk_at "z"
  intro p6 H6 _ s6 h6
  walk_at "z"
  have z46 := s5.trans s6
  have z6 := (z3.trans s4).trans z46
  refine btwC (dp_mono z46 e4) (dp_mono s6 e5) (dp_mono z6 hu) (zb_cvx y1 y2 zf cb.f0 cb.f1 hL) (zb_cvx y1' y2' zf cb.f0 cb.f1 hL) (zb_cvx y2 y3 zf cb.f0 cb.f1 hL) (zb_cvx y2' y3' zf cb.f0 cb.f1 hL) zf hN2 hL (by omega) (by omega) fun u7 H7 s7 e7 => ?_
  walk_at "z"
  intro p8 H8 _ s8 h8
  walk_at "z"
  intro p9 H9 _ s9 h9
  have z78 := s7.trans s8
  have z79 := z78.trans s9
  have z49 := (s4.trans z46).trans z79
  exact q _ _ (z6.trans z79) (dp_mk h9 (.cons (dp_mono z79 (dp_tt h6 (dp_mono (((s2.trans s3).trans s4).trans z46) e1) (dp_mono z46 e4))) (.cons (dp_mono (s8.trans s9) e7) (.cons (dp_mono s9 (dp_tt h8 (dp_mono (s6.trans z78) e5) (dp_mono ((s4.trans z46).trans z78) e3))) .nil))))
end
theorem shaped_p (x y : Rat) : SeqAt.shaped (pD x y) = true := rfl
theorem same_new {H0 H : Hp} {D : Addr} {o : HO} (s : Same H0 H) (h : H0 D = none) : Same H0 (upd H D o) := fun b x e => by
  rw [upd_ne (ne_of_none e h)]
  exact s _ _ e
theorem kp_self' {q : Addr} {H : Hp} {o : HO} : Kp q H (upd H q o) := fun b x hb e => by
  rw [upd_ne hb]
  exact e
theorem zbl {a : Rat} {N M : Nat} (h : Zb a N M) (h0 : N ≠ 0) (h1 : M < 2 ^ 190) (h2 : N < 2 ^ 190) : Bl a := (h.bd h0).bl h1 h2
/-! ### the curve's own formula -/
def fac (u : Rat) : Nat → Rat
  | 0 => (1 - u) * ((1 - u) * (1 - u))
  | 1 => 3 * (u * ((1 - u) * (1 - u)))
  | 2 => 3 * (u * (u * (1 - u)))
  | _ => u * (u * u)
def nth4 (a b c d : Rat) : Nat → Rat
  | 0 => a
  | 1 => b
  | 2 => c
  | _ => d
def bpart (a b c d u : Rat) : Nat → Rat
  | 0 => 0
  | i + 1 => bpart a b c d u i + fac u i * nth4 a b c d i
def bern (a b c d u : Rat) : Rat := bpart a b c d u 4
abbrev Nu (r : Rat) : Prop := Zb r 960180480000 16467095232000000
abbrev Tu (r : Rat) : Prop := Zb r 7560 52920
theorem zb_int (k : Int) (N : Nat) : Zb (k : Rat) N (k.natAbs * N) := ⟨k * (N : Int), by rw [Rat.intCast_mul, Rat.intCast_natCast], by rw [Int.natAbs_mul]; exact Nat.le_refl _⟩
theorem zb_1 (N : Nat) : Zb (1 : Rat) N N := ⟨(N : Int), by rw [Rat.one_mul, Rat.intCast_natCast], by omega⟩
theorem zb_3 : Zb (3 : Rat) 1 3 := ⟨3, by rw [show ((1 : Nat) : Rat) = 1 from rfl, Rat.mul_one]; rfl, by decide⟩
theorem zb_r {u : Rat} (h : Tu u) : Zb (1 - u) 7560 60480 := zb_sub (zb_1 7560) h
theorem zb_fac {u : Rat} (h : Tu u) : ∀ i, Zb (fac u i) 432081216000 600000000000000
  | 0 => (zb_mul (zb_r h) (zb_mul (zb_r h) (zb_r h))).le (by decide)
  | 1 => (zb_mul zb_3 (zb_mul h (zb_mul (zb_r h) (zb_r h)))).le (by decide)
  | 2 => (zb_mul zb_3 (zb_mul h (zb_mul h (zb_r h)))).le (by decide)
  | _ + 3 => (zb_mul h (zb_mul h h)).le (by decide)
theorem zb_nth {a b c d : Rat} (h1 : Nu a) (h2 : Nu b) (h3 : Nu c) (h4 : Nu d) : ∀ i, Nu (nth4 a b c d i)
  | 0 => h1
  | 1 => h2
  | 2 => h3
  | _ + 3 => h4
theorem zb_step {a b : Rat} {N W : Nat} (i : Nat) (h : Zb a N (i * W)) (h' : Zb b N W) : Zb (a + b) N ((i + 1) * W) := by
  rw [Nat.succ_mul]
  exact zb_add h h'
theorem zb_bpart {a b c d u : Rat} (h1 : Nu a) (h2 : Nu b) (h3 : Nu c) (h4 : Nu d) (h : Tu u) : ∀ i, Zb (bpart a b c d u i) (432081216000 * 960180480000) (i * (600000000000000 * 16467095232000000))
  | 0 => ⟨0, by show (0 : Rat) * _ = _; rw [Rat.zero_mul]; rfl, by decide⟩
  | i + 1 => zb_step i (zb_bpart h1 h2 h3 h4 h i) (zb_mul (zb_fac h i) (zb_nth h1 h2 h3 h4 i))
def sp__law_bernstein (K : PySem.W.Frag) : Sp := fun vs H Q _ => ∃ (p : Addr) (w0 w1 w2 w3 v : V) (a b c d u : Rat), vs = [.ref p, v] ∧ H p = some (.lst [w0, w1, w2, w3]) ∧ Dp K H w0 (qD a) ∧ Dp K H w1 (qD b) ∧ Dp K H w2 (qD c) ∧ Dp K H w3 (qD d) ∧ Dp K H v (qD u) ∧ Nu a ∧ Nu b ∧ Nu c ∧ Nu d ∧ Tu u ∧ RetD K H (qD (bern a b c d u)) Q
def sp__law_on_segment (K : PySem.W.Frag) : Sp := fun vs H Q _ => ∃ (v s w t : V) (ax ay bx by' u : Rat), vs = [v, s, w, t] ∧ Dp K H v (pD ax ay) ∧ Dp K H w (pD bx by') ∧ Dp K H t (qD u) ∧ Nu ax ∧ Nu ay ∧ Nu bx ∧ Nu by' ∧ Tu u ∧
  ((s = .non ∧ RetD K H (pD (btw ax bx u) (btw ay by' u)) Q) ∨
   ∃ (cx cy dx dy : Rat), Dp K H s (tt cx cy dx dy) ∧ Nu cx ∧ Nu cy ∧ Nu dx ∧ Nu dy ∧ RetD K H (pD (bern ax cx dx bx u) (bern ay cy dy by' u)) Q)
section
theorem ok__law_bernstein {P : Program} {w : World} {K : PySem.W.Frag} {mg : Str → Option Value} {base : Heap} {A : Nat → Addr} {D : Nat → FuncData} (T : Txt K mg A D base) : FnOk P w K mg base (L2.CX P w) 3 (A 36) (D 36) ["numbers", "u"] (sp__law_bernstein K) := by
  refine T.F__law_bernstein.okX sc__law_bernstein (fun vs H Q E h => ?_) (fun cdv A' outer s H vs Q E hr h => ?_)
  · obtain ⟨_, _, _, _, _, _, _, _, _, _, _, rfl, _⟩ := h
    rfl
  obtain ⟨p, w0, w1, w2, w3, v, a, b, c, d, u, rfl, hp, d0, d1, d2, d3, hu, z0, z1, z2, z3, zu, q⟩ := h
  refine ⟨_, (pss_cons (ps_set (i := 2) sc__law_bernstein.nd rfl (.inl rfl) (pe_call (ok__law_difference T) (hr.mono (by decide)) (by rfl) T.m__law_difference T.F__law_difference.kp T.b__law_difference .nil (passes_call (takes_of rfl rfl rfl rfl) (fun _ _ _ _ h => h)) (pa_cons (pe_tup (pa_cons pe_int (pa_cons pe_int pa_nil))) (pa_cons (pv 1) pa_nil))))
  (pss_cons (ps_set (i := 3) sc__law_bernstein.nd rfl (.inl rfl) (pe_lst (pa_cons (pe_call (ok__law_product T) (hr.mono (by decide)) (by rfl) T.m__law_product T.F__law_product.kp T.b__law_product .nil (passes_call (takes_of rfl rfl rfl rfl) (fun _ _ _ _ h => h)) (pa_cons (pv 2) (pa_cons (pe_call (ok__law_product T) (hr.mono (by decide)) (by rfl) T.m__law_product T.F__law_product.kp T.b__law_product .nil (passes_call (takes_of rfl rfl rfl rfl) (fun _ _ _ _ h => h)) (pa_cons (pv 2) (pa_cons (pv 2) pa_nil))) pa_nil))) pa_nil)))
  (pss_cons (ps_expr (pe_bm PySem.F.plainAttrs_list PySem.F.slot_list_append PySem.F.type_list_append mt_append (pv 3) (pa_cons (pe_call (ok__law_product T) (hr.mono (by decide)) (by rfl) T.m__law_product T.F__law_product.kp T.b__law_product .nil (passes_call (takes_of rfl rfl rfl rfl) (fun _ _ _ _ h => h)) (pa_cons (pe_tup (pa_cons pe_int (pa_cons pe_int pa_nil))) (pa_cons (pe_call (ok__law_product T) (hr.mono (by decide)) (by rfl) T.m__law_product T.F__law_product.kp T.b__law_product .nil (passes_call (takes_of rfl rfl rfl rfl) (fun _ _ _ _ h => h)) (pa_cons (pv 1) (pa_cons (pe_call (ok__law_product T) (hr.mono (by decide)) (by rfl) T.m__law_product T.F__law_product.kp T.b__law_product .nil (passes_call (takes_of rfl rfl rfl rfl) (fun _ _ _ _ h => h)) (pa_cons (pv 2) (pa_cons (pv 2) pa_nil))) pa_nil))) pa_nil))) pa_nil)))
  (pss_cons (ps_expr (pe_bm PySem.F.plainAttrs_list PySem.F.slot_list_append PySem.F.type_list_append mt_append (pv 3) (pa_cons (pe_call (ok__law_product T) (hr.mono (by decide)) (by rfl) T.m__law_product T.F__law_product.kp T.b__law_product .nil (passes_call (takes_of rfl rfl rfl rfl) (fun _ _ _ _ h => h)) (pa_cons (pe_tup (pa_cons pe_int (pa_cons pe_int pa_nil))) (pa_cons (pe_call (ok__law_product T) (hr.mono (by decide)) (by rfl) T.m__law_product T.F__law_product.kp T.b__law_product .nil (passes_call (takes_of rfl rfl rfl rfl) (fun _ _ _ _ h => h)) (pa_cons (pv 1) (pa_cons (pe_call (ok__law_product T) (hr.mono (by decide)) (by rfl) T.m__law_product T.F__law_product.kp T.b__law_product .nil (passes_call (takes_of rfl rfl rfl rfl) (fun _ _ _ _ h => h)) (pa_cons (pv 1) (pa_cons (pv 2) pa_nil))) pa_nil))) pa_nil))) pa_nil)))
  (pss_cons (ps_expr (pe_bm PySem.F.plainAttrs_list PySem.F.slot_list_append PySem.F.type_list_append mt_append (pv 3) (pa_cons (pe_call (ok__law_product T) (hr.mono (by decide)) (by rfl) T.m__law_product T.F__law_product.kp T.b__law_product .nil (passes_call (takes_of rfl rfl rfl rfl) (fun _ _ _ _ h => h)) (pa_cons (pv 1) (pa_cons (pe_call (ok__law_product T) (hr.mono (by decide)) (by rfl) T.m__law_product T.F__law_product.kp T.b__law_product .nil (passes_call (takes_of rfl rfl rfl rfl) (fun _ _ _ _ h => h)) (pa_cons (pv 1) (pa_cons (pv 1) pa_nil))) pa_nil))) pa_nil)))
  (pss_cons (ps_set (i := 4) sc__law_bernstein.nd rfl (.inl rfl) (pe_tup (pa_cons pe_int (pa_cons pe_int pa_nil))))
  (pss_cons (ps_for (passes_of rfl) rfl (pi_range1 (by rfl) T.z_range (pa_cons pe_int pa_nil)) (pg_name (i := 5) sc__law_bernstein.nd rfl (.inl rfl))
  (pss_one (ps_set (i := 4) sc__law_bernstein.nd rfl (.inl rfl) (pe_call (ok__law_sum T) (hr.mono (by decide)) (by rfl) T.m__law_sum T.F__law_sum.kp T.b__law_sum .nil (passes_call (takes_of rfl rfl rfl rfl) (fun _ _ _ _ h => h)) (pa_cons (pv 4) (pa_cons (pe_call (ok__law_product T) (hr.mono (by decide)) (by rfl) T.m__law_product T.F__law_product.kp T.b__law_product .nil (passes_call (takes_of rfl rfl rfl rfl) (fun _ _ _ _ h => h)) (pa_cons (pe_ix ix_list (pv 3) (pv 5) (fun _ _ => rfl)) (pa_cons (pe_ix ix_list (pv 0) (pv 5) (fun _ _ => rfl)) pa_nil))) pa_nil))))))
  (pss_one (ps_ret (pv 4)))))))))), ?_⟩
  have zr := zb_r zu
  have br := zbl zr (by decide) (by decide) (by decide)
  have bu := zbl zu (by decide) (by decide) (by decide)
  have bl3 : Bl (3 : Rat) := ⟨by decide, by decide⟩
  have brr : Bl ((1 - u) * (1 - u)) := zbl (zb_mul zr zr) (by decide) (by decide) (by decide)
  have burr : Bl (u * ((1 - u) * (1 - u))) := zbl (zb_mul zu (zb_mul zr zr)) (by decide) (by decide) (by decide)
  have bur : Bl (u * (1 - u)) := zbl (zb_mul zu zr) (by decide) (by decide) (by decide)
  have buur : Bl (u * (u * (1 - u))) := zbl (zb_mul zu (zb_mul zu zr)) (by decide) (by decide) (by decide)
  have buu : Bl (u * u) := zbl (zb_mul zu zu) (by decide) (by decide) (by decide)
  walk_at "z"
  intro pa H1 _ s1 h1
  walk_at "z"
  have one : Dp K H1 (.ref pa) (qD 1) := dp_mk h1 (.cons (.int _) (.cons (.int _) .nil))
  refine lop one (dp_mono s1 hu) ⟨by decide, by decide⟩ bu fun rv H2 s2 er => ?_
  have er : Dp K H2 rv (qD (1 - u)) := er
  walk_at "z"
  refine lop er er br br fun u3 H3 s3 e3 => ?_
  walk_at "z"
  refine lop (dp_mono s3 er) e3 br brr fun g0 H4 s4 e4 => ?_
  have e4 : Dp K H4 g0 (qD (fac u 0)) := e4
  walk_at "z"
  intro D HD hD sD eD
  have zb := ((s1.trans s2).trans s3).trans s4
  have er4 := dp_mono (s3.trans s4) er
  have hu4 := dp_mono zb hu
  clear e3 er one h1 s1 s2 s3 s4
  walk_at "z"
  refine z_bmL (fun R q => by walk_at "z"; exact q) eD ?_
  walk_at "z"
  intro pb H5 _ s5 h5
  walk_at "z"
  have three : Dp K H5 (.ref pb) (qD 3) := dp_mk h5 (.cons (.int _) (.cons (.int _) .nil))
  have k5 := sD.trans s5
  refine lop (dp_mono k5 er4) (dp_mono k5 er4) br br fun u6 H6 s6 e6 => ?_
  walk_at "z"
  refine lop (dp_mono (k5.trans s6) hu4) e6 bu brr fun u7 H7 s7 e7 => ?_
  walk_at "z"
  refine lop (dp_mono (s6.trans s7) three) e7 bl3 burr fun g1 H8 s8 e8 => ?_
  walk_at "z"
  have eD8 := (((s5.trans s6).trans s7).trans s8) _ _ eD
  refine z_append eD8 (Nat.le_of_ble_eq_true rfl) ?_
  have S9 : Same H4 (upd H8 D (.lst ([g0] ++ [g1]))) := same_new ((((k5.trans s6).trans s7).trans s8)) hD
  have e9 : Dp K (upd H8 D (.lst ([g0] ++ [g1]))) g1 (qD (fac u 1)) := dp_kp kp_self' eD8 rfl e8
  have eD9 : (upd H8 D (.lst ([g0] ++ [g1]))) D = some (.lst [g0, g1]) := upd_same
  generalize upd H8 D (.lst ([g0] ++ [g1])) = H9 at *
  clear e6 e7 e8 three h5 s5 s6 s7 s8 k5 eD8 eD sD
  walk_at "z"
  refine z_bmL (fun R q => by walk_at "z"; exact q) eD9 ?_
  walk_at "z"
  intro pb H5 _ s5 h5
  walk_at "z"
  have three : Dp K H5 (.ref pb) (qD 3) := dp_mk h5 (.cons (.int _) (.cons (.int _) .nil))
  have k5 := S9.trans s5
  refine lop (dp_mono k5 hu4) (dp_mono k5 er4) bu br fun u6 H6 s6 e6 => ?_
  walk_at "z"
  refine lop (dp_mono (k5.trans s6) hu4) e6 bu bur fun u7 H7 s7 e7 => ?_
  walk_at "z"
  refine lop (dp_mono (s6.trans s7) three) e7 bl3 buur fun g2 H8 s8 e8 => ?_
  walk_at "z"
  have y8 := ((s5.trans s6).trans s7).trans s8
  have eD8 := y8 _ _ eD9
  refine z_append eD8 (Nat.le_of_ble_eq_true rfl) ?_
  have SA : Same H4 (upd H8 D (.lst ([g0, g1] ++ [g2]))) := same_new (S9.trans y8) hD
  have f1 : Dp K (upd H8 D (.lst ([g0, g1] ++ [g2]))) g1 (qD (fac u 1)) := dp_kp kp_self' eD8 rfl (dp_mono y8 e9)
  have f2 : Dp K (upd H8 D (.lst ([g0, g1] ++ [g2]))) g2 (qD (fac u 2)) := dp_kp kp_self' eD8 rfl e8
  have eDA : (upd H8 D (.lst ([g0, g1] ++ [g2]))) D = some (.lst [g0, g1, g2]) := upd_same
  generalize upd H8 D (.lst ([g0, g1] ++ [g2])) = HA at *
  clear e6 e7 e8 three h5 s5 s6 s7 s8 k5 eD8 eD9 S9 y8 e9
  walk_at "z"
  refine z_bmL (fun R q => by walk_at "z"; exact q) eDA ?_
  walk_at "z"
  refine lop (dp_mono SA hu4) (dp_mono SA hu4) bu bu fun u6 H6 s6 e6 => ?_
  walk_at "z"
  refine lop (dp_mono (SA.trans s6) hu4) e6 bu buu fun g3 H8 s8 e8 => ?_
  walk_at "z"
  have y8 := s6.trans s8
  have eD8 := y8 _ _ eDA
  refine z_append eD8 (Nat.le_of_ble_eq_true rfl) ?_
  have SB : Same H4 (upd H8 D (.lst ([g0, g1, g2] ++ [g3]))) := same_new (SA.trans y8) hD
  have i1 : Dp K (upd H8 D (.lst ([g0, g1, g2] ++ [g3]))) g1 (qD (fac u 1)) := dp_kp kp_self' eD8 rfl (dp_mono y8 f1)
  have i2 : Dp K (upd H8 D (.lst ([g0, g1, g2] ++ [g3]))) g2 (qD (fac u 2)) := dp_kp kp_self' eD8 rfl (dp_mono y8 f2)
  have i3 : Dp K (upd H8 D (.lst ([g0, g1, g2] ++ [g3]))) g3 (qD (fac u 3)) := dp_kp kp_self' eD8 rfl e8
  have eDB : (upd H8 D (.lst ([g0, g1, g2] ++ [g3]))) D = some (.lst [g0, g1, g2, g3]) := upd_same
  generalize upd H8 D (.lst ([g0, g1, g2] ++ [g3])) = HB at *
  clear e6 e8 s6 s8 eD8 eDA SA y8 f1 f2
  walk_at "z"
  intro pt HT _ sT hT
  walk_at "z"
  have zero : Dp K HT (.ref pt) (qD (bpart a b c d u 0)) := dp_mk hT (.cons (.int _) (.cons (.int _) .nil))
  have ST := (zb.trans SB).trans sT
  have hpT := ST _ _ hp
  have eDT := sT _ _ eDB
  have fs : ∀ i, i < 4 → ∃ w, [g0, g1, g2, g3][i]? = some w ∧ Dp K HT w (qD (fac u i))
    | 0, _ => ⟨_, rfl, dp_mono (SB.trans sT) e4⟩
    | 1, _ => ⟨_, rfl, dp_mono sT i1⟩
    | 2, _ => ⟨_, rfl, dp_mono sT i2⟩
    | 3, _ => ⟨_, rfl, dp_mono sT i3⟩
  have ns : ∀ i, i < 4 → ∃ w, [w0, w1, w2, w3][i]? = some w ∧ Dp K HT w (qD (nth4 a b c d i))
    | 0, _ => ⟨_, rfl, dp_mono ST d0⟩
    | 1, _ => ⟨_, rfl, dp_mono ST d1⟩
    | 2, _ => ⟨_, rfl, dp_mono ST d2⟩
    | 3, _ => ⟨_, rfl, dp_mono ST d3⟩
  refine z_forR1 4 (by decide) (fun R q => by walk_at "z"; exact q) (fun i σ' H' => Same HT H' ∧ ∃ (t : V) (kv : Option V), σ' = [some (.ref p), some v, some rv, some (.ref D), some t, kv] ∧ Dp K H' t (qD (bpart a b c d u i))) ⟨fun _ _ e => e, _, _, rfl, zero⟩ ?_ ?_
  · rintro i σ' H' hi ⟨sI, t, kv, rfl, et⟩
    obtain ⟨fw, hf, ef⟩ := fs i hi
    obtain ⟨nw, hn, en⟩ := ns i hi
    have eDI := sI _ _ eDT
    have hpI := sI _ _ hpT
    walk_at "z"
    refine z_ixL (.inl (.inl eDI)) (atI_nat hf) ?_
    walk_at "z"
    refine z_ixL (.inl (.inl hpI)) (atI_nat hn) ?_
    walk_at "z"
    have zf := zb_fac zu i
    have zn := zb_nth z0 z1 z2 z3 i
    have zp := (zb_bpart z0 z1 z2 z3 zu i).le (Nat.mul_le_mul_right _ (Nat.le_of_lt hi))
    refine lop (dp_mono sI ef) (dp_mono sI en) (zbl zf (by decide) (by decide) (by decide)) (zbl zn (by decide) (by decide) (by decide)) fun u1 HC sC eC => ?_
    walk_at "z"
    refine lop (dp_mono sC et) eC (zbl zp (by decide) (by decide) (by decide)) (zbl (zb_mul zf zn) (by decide) (by decide) (by decide)) fun u2 HE sE eE => ?_
    walk_at "z"
    exact ⟨(sI.trans sC).trans sE, _, _, rfl, eE⟩
  rintro σ' H' ⟨sI, t, kv, rfl, et⟩
  walk_at "z"
  exact q _ _ (ST.trans sI) et
theorem ok__law_on_segment {P : Program} {w : World} {K : PySem.W.Frag} {mg : Str → Option Value} {base : Heap} {A : Nat → Addr} {D : Nat → FuncData} (T : Txt K mg A D base) : FnOk P w K mg base (L2.CX P w) 4 (A 37) (D 37) ["a", "segment", "b", "u"] (sp__law_on_segment K) := by
  refine T.F__law_on_segment.okX sc__law_on_segment (fun vs H Q E h => ?_) (fun cdv A' outer s H vs Q E hr h => ?_)
  · obtain ⟨_, _, _, _, _, _, _, _, _, rfl, _⟩ := h
    rfl
  obtain ⟨v, sg, w, t, ax, ay, bx, by', u, rfl, ha, hb, hu, za, za', zb, zb', zu, q⟩ := h
  obtain ⟨pa, a1, a2, rfl, hSa, ea1, ea2⟩ := dp_t2 ha
  obtain ⟨pb, b1, b2, rfl, hSb, eb1, eb2⟩ := dp_t2 hb
  refine ⟨_, (pss_cons (ps_if (pt_cmpR Z.op_isN1 (pv 1) pe_non (nomark _))
  (pss_cons (ps_set (i := 4) sc__law_on_segment.nd rfl (.inl rfl) (pe_call (ok__law_sum T) (hr.mono (by decide)) (by rfl) T.m__law_sum T.F__law_sum.kp T.b__law_sum .nil (passes_call (takes_of rfl rfl rfl rfl) (fun _ _ _ _ h => h)) (pa_cons (pe_ix ix_tup (pv 0) pe_int (fun _ _ => rfl)) (pa_cons (pe_call (ok__law_product T) (hr.mono (by decide)) (by rfl) T.m__law_product T.F__law_product.kp T.b__law_product .nil (passes_call (takes_of rfl rfl rfl rfl) (fun _ _ _ _ h => h)) (pa_cons (pv 3) (pa_cons (pe_call (ok__law_difference T) (hr.mono (by decide)) (by rfl) T.m__law_difference T.F__law_difference.kp T.b__law_difference .nil (passes_call (takes_of rfl rfl rfl rfl) (fun _ _ _ _ h => h)) (pa_cons (pe_ix ix_tup (pv 2) pe_int (fun _ _ => rfl)) (pa_cons (pe_ix ix_tup (pv 0) pe_int (fun _ _ => rfl)) pa_nil))) pa_nil))) pa_nil))))
  (pss_one (ps_ret (pe_tup (pa_cons (pv 4) (pa_cons (pe_call (ok__law_sum T) (hr.mono (by decide)) (by rfl) T.m__law_sum T.F__law_sum.kp T.b__law_sum .nil (passes_call (takes_of rfl rfl rfl rfl) (fun _ _ _ _ h => h)) (pa_cons (pe_ix ix_tup (pv 0) pe_int (fun _ _ => rfl)) (pa_cons (pe_call (ok__law_product T) (hr.mono (by decide)) (by rfl) T.m__law_product T.F__law_product.kp T.b__law_product .nil (passes_call (takes_of rfl rfl rfl rfl) (fun _ _ _ _ h => h)) (pa_cons (pv 3) (pa_cons (pe_call (ok__law_difference T) (hr.mono (by decide)) (by rfl) T.m__law_difference T.F__law_difference.kp T.b__law_difference .nil (passes_call (takes_of rfl rfl rfl rfl) (fun _ _ _ _ h => h)) (pa_cons (pe_ix ix_tup (pv 2) pe_int (fun _ _ => rfl)) (pa_cons (pe_ix ix_tup (pv 0) pe_int (fun _ _ => rfl)) pa_nil))) pa_nil))) pa_nil))) pa_nil))))))
  pss_nil)
  (pss_cons (ps_set (i := 5) sc__law_on_segment.nd rfl (.inl rfl) (pe_lst (pa_cons (pv 0) (pa_cons (pe_ix ix_tup (pv 1) pe_int (fun _ _ => rfl)) (pa_cons (pe_ix ix_tup (pv 1) pe_int (fun _ _ => rfl)) (pa_cons (pv 2) pa_nil))))))
  (pss_cons (ps_set (i := 4) sc__law_on_segment.nd rfl (.inl rfl) (pe_call (ok__law_bernstein T) (hr.mono (by decide)) (by rfl) T.m__law_bernstein T.F__law_bernstein.kp T.b__law_bernstein .nil (passes_call (takes_of rfl rfl rfl rfl) (fun _ _ _ _ h => h)) (pa_cons (pe_lc (own := [("point", 6)]) (g := gName 6) (tt := tYes) rfl sc__law_on_segment.nd (pi_list (pv 5)) (blkOk_by (N := ["a", "segment", "b", "u", "x", "points", "point"]) (sc := defScope s__law_on_segment) (by decide +kernel)) (fun _ _ _ _ _ => pg_name (i := 6) sc__law_on_segment.nd rfl (Or.inl rfl)) (fun _ _ _ _ _ => pts_nil) (fun _ _ _ _ _ => (pe_ix (show IxR _ (rIxT K) from ix_tup) (pv 6) pe_int (fun _ _ => rfl)))) (pa_cons (pv 3) pa_nil))))
  (pss_one (ps_ret (pe_tup (pa_cons (pv 4) (pa_cons (pe_call (ok__law_bernstein T) (hr.mono (by decide)) (by rfl) T.m__law_bernstein T.F__law_bernstein.kp T.b__law_bernstein .nil (passes_call (takes_of rfl rfl rfl rfl) (fun _ _ _ _ h => h)) (pa_cons (pe_lc (own := [("point", 6)]) (g := gName 6) (tt := tYes) rfl sc__law_on_segment.nd (pi_list (pv 5)) (blkOk_by (N := ["a", "segment", "b", "u", "x", "points", "point"]) (sc := defScope s__law_on_segment) (by decide +kernel)) (fun _ _ _ _ _ => pg_name (i := 6) sc__law_on_segment.nd rfl (Or.inl rfl)) (fun _ _ _ _ _ => pts_nil) (fun _ _ _ _ _ => (pe_ix (show IxR _ (rIxT K) from ix_tup) (pv 6) pe_int (fun _ _ => rfl)))) (pa_cons (pv 3) pa_nil))) pa_nil)))))))), ?_⟩
  have nb : ∀ {r : Rat}, Nu r → Bl r := fun h => zbl h (by decide) (by decide) (by decide)
  have bu := zbl zu (by decide) (by decide) (by decide)
  walk_at "z"
  rcases q with ⟨rfl, q⟩ | ⟨cx, cy, dx, dy, hs, zc, zc', zd, zd', q⟩
  · walk_at "z"
    refine lop eb1 ea1 (nb zb) (nb za) fun u1 H1 s1 e1 => ?_
    walk_at "z"
    refine lop (dp_mono s1 hu) e1 bu (zbl (zb_sub zb za) (by decide) (by decide) (by decide)) fun u2 H2 s2 e2 => ?_
    walk_at "z"
    refine lop (dp_mono (s1.trans s2) ea1) e2 (nb za) (zbl (zb_mul zu (zb_sub zb za)) (by decide) (by decide) (by decide)) fun u3 H3 s3 e3 => ?_
    have z3 := (s1.trans s2).trans s3
    have hSa3 := seqT z3 hSa
    have hSb3 := seqT z3 hSb
    walk_at "z"
    refine lop (dp_mono z3 eb2) (dp_mono z3 ea2) (nb zb') (nb za') fun u4 H4 s4 e4 => ?_
    walk_at "z"
    refine lop (dp_mono (z3.trans s4) hu) e4 bu (zbl (zb_sub zb' za') (by decide) (by decide) (by decide)) fun u5 H5 s5 e5 => ?_
    walk_at "z"
    refine lop (dp_mono ((z3.trans s4).trans s5) ea2) e5 (nb za') (zbl (zb_mul zu (zb_sub zb' za')) (by decide) (by decide) (by decide)) fun u6 H6 s6 e6 => ?_
    walk_at "z"
    intro p9 H9 _ s9 h9
    have z69 := ((s4.trans s5).trans s6).trans s9
    exact q _ _ (z3.trans z69) (dp_p h9 (dp_mono z69 e3) (dp_mono s9 e6))
  obtain ⟨ps, c1, c2, rfl, hSs, k1, k2⟩ := dp_t2 hs
  obtain ⟨pc, c1, c2, rfl, hSc, ec1, ec2⟩ := dp_t2 k1
  obtain ⟨pd, d1, d2, rfl, hSd, ed1, ed2⟩ := dp_t2 k2
  walk_at "z"
  intro pl H1 _ s1 hl
  walk_at "z"
  refine z_lcM (xs := [.ref pa, .ref pc, .ref pd, .ref pb]) (ws := [a1, c1, d1, b1]) rfl (Nat.le_of_ble_eq_true rfl) (fun R q => by walk_at "z"; exact q) hl (fun _ => rfl) ?_ fun D H2 hD s2 h2 => ?_
  · intro i x y H' hi hw s' R qR
    have y' := s1.trans s'
    match i, hi, hw with
    | 0, hi, hw => cases hi; cases hw; have := seqT y' hSa; walk_at "z"; exact qR
    | 1, hi, hw => cases hi; cases hw; have := seqT y' hSc; walk_at "z"; exact qR
    | 2, hi, hw => cases hi; cases hw; have := seqT y' hSd; walk_at "z"; exact qR
    | 3, hi, hw => cases hi; cases hw; have := seqT y' hSb; walk_at "z"; exact qR
    | i + 4, hi, _ => simp at hi
  walk_at "z"
  have z2 := s1.trans s2
  refine ⟨D, a1, c1, d1, b1, t, ax, cx, dx, bx, u, rfl, h2, dp_mono z2 ea1, dp_mono z2 ec1, dp_mono z2 ed1, dp_mono z2 eb1, dp_mono z2 hu, za, zc, zd, zb, zu, fun u3 H3 s3 e3 => ?_⟩
  have z3 := z2.trans s3
  have hl3 := (s2.trans s3) _ _ hl
  walk_at "z"
  refine z_lcM (xs := [.ref pa, .ref pc, .ref pd, .ref pb]) (ws := [a2, c2, d2, b2]) rfl (Nat.le_of_ble_eq_true rfl) (fun R q => by walk_at "z"; exact q) hl3 (fun _ => rfl) ?_ fun D4 H4 hD4 s4 h4 => ?_
  · intro i x y H' hi hw s' R qR
    have y' := z3.trans s'
    match i, hi, hw with
    | 0, hi, hw => cases hi; cases hw; have := seqT y' hSa; walk_at "z"; exact qR
    | 1, hi, hw => cases hi; cases hw; have := seqT y' hSc; walk_at "z"; exact qR
    | 2, hi, hw => cases hi; cases hw; have := seqT y' hSd; walk_at "z"; exact qR
    | 3, hi, hw => cases hi; cases hw; have := seqT y' hSb; walk_at "z"; exact qR
    | i + 4, hi, _ => simp at hi
  walk_at "z"
  have z4 := z3.trans s4
  refine ⟨D4, a2, c2, d2, b2, t, ay, cy, dy, by', u, rfl, h4, dp_mono z4 ea2, dp_mono z4 ec2, dp_mono z4 ed2, dp_mono z4 eb2, dp_mono z4 hu, za', zc', zd', zb', zu, fun u5 H5 s5 e5 => ?_⟩
  walk_at "z"
  intro p9 H9 _ s9 h9
  have z49 := (s4.trans s5).trans s9
  exact q _ _ (z3.trans z49) (dp_p h9 (dp_mono z49 e3) (dp_mono s9 e5))
end
theorem bern_cut (a c d b f : Rat) : bern a c d b f = c3 a c d b f := by
  unfold bern
  simp only [bpart, fac, nth4, c3, c2, btw]
  grind
theorem bern_before (a c d b f u : Rat) : bern a (c1 a c f) (c2 a c d f) (c3 a c d b f) u = bern a c d b (f * u) := by
  unfold bern
  simp only [bpart, fac, nth4, c3, c2, c1, btw]
  grind
theorem bern_after (a c d b f u : Rat) : bern (c3 a c d b f) (c2 c d b f) (c1 d b f) b u = bern a c d b (f + (1 - f) * u) := by
  unfold bern
  simp only [bpart, fac, nth4, c3, c2, c1, btw]
  grind
theorem nu0 {r : Rat} (h : Zb r 60 3000) : Nu r := (zb_up 16003008000 h).le (by decide)
theorem nu1 {p q f : Rat} (h : Zb p 60 3000) (h' : Zb q 60 3000) (hf : Zb f 2520 7560) : Nu (btw p q f) := (zb_up 6350400 (zb_btw h h' hf)).le (by decide)
theorem nu2 {p q r f : Rat} (h : Zb p 60 3000) (h' : Zb q 60 3000) (h'' : Zb r 60 3000) (hf : Zb f 2520 7560) : Nu (c2 p q r f) := (zb_up 2520 (zb_btw (zb_btw h h' hf) (zb_btw h' h'' hf) hf)).le (by decide)
theorem nu3 {p q r t f : Rat} (h : Zb p 60 3000) (h' : Zb q 60 3000) (h'' : Zb r 60 3000) (h3 : Zb t 60 3000) (hf : Zb f 2520 7560) : Nu (c3 p q r t f) :=
  Zb.le (zb_btw (zb_btw (zb_btw h h' hf) (zb_btw h' h'' hf) hf) (zb_btw (zb_btw h' h'' hf) (zb_btw h'' h3 hf) hf) hf) (by decide)
theorem tuf {f : Rat} (h : Zb f 2520 7560) : Tu f := (zb_up 3 h).le (by decide)
theorem tu3 {u : Rat} (h : Zb u 3 3) : Tu u := (zb_up 2520 h).le (by decide)
theorem tum {f u : Rat} (h : Zb f 2520 7560) (h' : Zb u 3 3) : Tu (f * u) := (zb_mul h h').le (by decide)
theorem zrest {f u : Rat} (h : Zb f 2520 7560) (h' : Zb u 3 3) : Zb ((1 - f) * u) 7560 30240 := (zb_mul (zb_sub (zb_1 2520) h) h').le (by decide)
theorem tua {f u : Rat} (h : Zb f 2520 7560) (h' : Zb u 3 3) : Tu (f + (1 - f) * u) := (zb_add (zb_up 3 h) (zrest h h')).le (by decide)
theorem z60 {r : Rat} (h : Bd r 50 6) : Zb r 60 3000 := zb_of h (fun d h1 h0 => by
  rcases (by omega : d = 1 ∨ d = 2 ∨ d = 3 ∨ d = 4 ∨ d = 5 ∨ d = 6) with rfl | rfl | rfl | rfl | rfl | rfl <;> decide) (by decide)
theorem zfr {n d : Int} (h1 : 1 ≤ d) (h2 : d ≤ 9) (h3 : n.natAbs ≤ 3 * d.natAbs) : Zb (Rat.divInt n d) 2520 7560 := by
  rcases (by omega : d = 1 ∨ d = 2 ∨ d = 3 ∨ d = 4 ∨ d = 5 ∨ d = 6 ∨ d = 7 ∨ d = 8 ∨ d = 9) with rfl | rfl | rfl | rfl | rfl | rfl | rfl | rfl | rfl
  · exact zb_divInt (c := 2520) (by decide) (by decide) (by omega)
  · exact zb_divInt (c := 1260) (by decide) (by decide) (by omega)
  · exact zb_divInt (c := 840) (by decide) (by decide) (by omega)
  · exact zb_divInt (c := 630) (by decide) (by decide) (by omega)
  · exact zb_divInt (c := 504) (by decide) (by decide) (by omega)
  · exact zb_divInt (c := 420) (by decide) (by decide) (by omega)
  · exact zb_divInt (c := 360) (by decide) (by decide) (by omega)
  · exact zb_divInt (c := 315) (by decide) (by decide) (by omega)
  · exact zb_divInt (c := 280) (by decide) (by decide) (by omega)
theorem small1000 {z : Int} (h : z.natAbs ≤ 100) : z.natAbs < 2 ^ 1000 := lt1000 (Nat.lt_of_le_of_lt h (by decide))
/-- the law's own point on a curve, on a line -/
theorem onS {K : PySem.W.Frag} {H : Hp} {v s w t : V} {ax ay bx by' cx cy dx dy u : Rat} {Q : VK} {E : XK} (ha : Dp K H v (pD ax ay)) (hs : Dp K H s (tt cx cy dx dy)) (hb : Dp K H w (pD bx by')) (hu : Dp K H t (qD u)) (a1 : Nu ax) (a2 : Nu ay) (b1 : Nu bx) (b2 : Nu by') (c1 : Nu cx) (c2 : Nu cy) (d1 : Nu dx) (d2 : Nu dy) (zu : Tu u)
    (q : RetD K H (pD (bern ax cx dx bx u) (bern ay cy dy by' u)) Q) : sp__law_on_segment K [v, s, w, t] H Q E := ⟨v, s, w, t, ax, ay, bx, by', u, rfl, ha, hb, hu, a1, a2, b1, b2, zu, .inr ⟨cx, cy, dx, dy, hs, c1, c2, d1, d2, q⟩⟩
theorem onL {K : PySem.W.Frag} {H : Hp} {v w t : V} {ax ay bx by' u : Rat} {Q : VK} {E : XK} (ha : Dp K H v (pD ax ay)) (hb : Dp K H w (pD bx by')) (hu : Dp K H t (qD u)) (a1 : Nu ax) (a2 : Nu ay) (b1 : Nu bx) (b2 : Nu by') (zu : Tu u)
    (q : RetD K H (pD (btw ax bx u) (btw ay by' u)) Q) : sp__law_on_segment K [v, .non, w, t] H Q E := ⟨v, .non, w, t, ax, ay, bx, by', u, rfl, ha, hb, hu, a1, a2, b1, b2, zu, .inl ⟨rfl, q⟩⟩
/-! ### paths -/
def PtOk (K : PySem.W.Frag) (H : Hp) (v : V) : Prop := ∃ x y : Rat, Bd x 50 6 ∧ Bd y 50 6 ∧ Dp K H v (pD x y)
def SgOk (K : PySem.W.Frag) (H : Hp) (v : V) : Prop := v = .non ∨ ∃ cx cy dx dy : Rat, Bd cx 50 6 ∧ Bd cy 50 6 ∧ Bd dx 50 6 ∧ Bd dy 50 6 ∧ Dp K H v (tt cx cy dx dy)
theorem PtOk.mono {K : PySem.W.Frag} {H H' : Hp} {v : V} (s : Same H H') (h : PtOk K H v) : PtOk K H' v := by
  obtain ⟨x, y, a, b, d⟩ := h
  exact ⟨x, y, a, b, dp_mono s d⟩
theorem SgOk.mono {K : PySem.W.Frag} {H H' : Hp} {v : V} (s : Same H H') (h : SgOk K H v) : SgOk K H' v := by
  rcases h with h | ⟨cx, cy, dx, dy, a, b, c, d, e⟩
  · exact .inl h
  · exact .inr ⟨cx, cy, dx, dy, a, b, c, d, dp_mono s e⟩
structure PathOk (K : PySem.W.Frag) (H : Hp) (v : V) (ks ss : List V) (cyc : Bool) : Prop where
  at_ : ∃ a k s, v = .ref a ∧ SqT K H a [.ref k, .ref s, .bl cyc] ∧ SqT K H k ks ∧ SqT K H s ss
  n1 : 1 ≤ ks.length
  n2 : ks.length ≤ 5
  n3 : ss.length + 1 = ks.length + (if cyc = true then 1 else 0)
  pts : ∀ w ∈ ks, PtOk K H w
  sgs : ∀ w ∈ ss, SgOk K H w
theorem PathOk.mono {K : PySem.W.Frag} {H H' : Hp} {v : V} {ks ss : List V} {cyc : Bool} (P : PathOk K H v ks ss cyc) (s : Same H H') : PathOk K H' v ks ss cyc := by
  obtain ⟨a, k, g, e, h1, h2, h3⟩ := P.at_
  exact ⟨⟨a, k, g, e, seqT s h1, seqT s h2, seqT s h3⟩, P.n1, P.n2, P.n3, fun w hw => (P.pts w hw).mono s, fun w hw => (P.sgs w hw).mono s⟩
def clampQ (m : Nat) (t : Rat) : Rat := if t < 0 then 0 else if (m : Rat) < t then (m : Rat) else t
def heldQ (cyc : Bool) (m : Nat) (t : Rat) : Rat := if cyc = true then Rat.divInt (t.num % ((m : Int) * (t.den : Int))) (t.den : Int) else clampQ m t
def fl (h : Rat) : Nat := (h.num / (h.den : Int)).toNat
theorem cmp_neg {a b : Rat} : cmpQ a b < 0 ↔ a < b := by
  unfold cmpQ
  split
  · rename_i h
    exact ⟨fun _ => h, fun _ => by decide⟩
  · rename_i h
    split <;> exact ⟨fun z => absurd z (by decide), fun z => absurd z h⟩
theorem cmp_pos {a b : Rat} : cmpQ a b > 0 ↔ b < a := by
  unfold cmpQ
  split
  · rename_i h
    exact ⟨fun z => absurd z (by decide), fun z => by rw [Rat.lt_iff] at h z; omega⟩
  · split
    · rename_i h
      exact ⟨fun _ => h, fun _ => by decide⟩
    · rename_i h
      exact ⟨fun z => absurd z (by decide), fun z => absurd z h⟩
theorem lt_num {t : Rat} : t < 0 ↔ t.num < 0 := by
  rw [Rat.lt_iff]
  simp
theorem lt_m {t : Rat} {m : Nat} : (m : Rat) < t ↔ (m : Int) * (t.den : Int) < t.num := by
  rw [Rat.lt_iff, Rat.num_natCast, Rat.den_natCast]
  simp
theorem held_ok {cyc : Bool} {m : Nat} {t : Rat} {P : Nat} (b : Bd t P 9) (hc : cyc = true → 1 ≤ m) :
    0 ≤ (heldQ cyc m t).num ∧ (heldQ cyc m t).den ≤ 9 ∧ (heldQ cyc m t).num ≤ (m : Int) * ((heldQ cyc m t).den : Int) ∧ (cyc = true → (heldQ cyc m t).num < (m : Int) * ((heldQ cyc m t).den : Int)) := by
  have hd := t.den_nz
  have b2 := b.2
  unfold heldQ
  split
  · rename_i hcy
    have hm := hc hcy
    have hp : 0 < (m : Int) * (t.den : Int) := Int.mul_pos (by omega) (by omega)
    have a0 := Int.emod_nonneg t.num (show (m : Int) * (t.den : Int) ≠ 0 by omega)
    have a1 := Int.emod_lt_of_pos t.num hp
    generalize t.num % ((m : Int) * (t.den : Int)) = a at *
    have e := (Rat.divInt_eq_divInt_iff (n₁ := (Rat.divInt a (t.den : Int)).num) (d₁ := ((Rat.divInt a (t.den : Int)).den : Int)) (n₂ := a) (d₂ := (t.den : Int)) (by have := (Rat.divInt a (t.den : Int)).den_nz; omega) (by omega)).mp (Rat.num_divInt_den _)
    have bd := bd_divInt (n := a) (d := (t.den : Int)) (by omega)
    have hz := (Rat.divInt a (t.den : Int)).den_nz
    generalize Rat.divInt a (t.den : Int) = h at *
    have lt : h.num < (m : Int) * (h.den : Int) := by
      refine Int.lt_of_mul_lt_mul_right (a := (t.den : Int)) ?_ (by omega)
      rw [e, Int.mul_assoc, Int.mul_comm (h.den : Int), ← Int.mul_assoc]
      exact Int.mul_lt_mul_of_pos_right a1 (by omega)
    refine ⟨?_, Nat.le_trans bd.2 (by omega), Int.le_of_lt lt, fun _ => lt⟩
    refine Int.le_of_mul_le_mul_right (a := (t.den : Int)) ?_ (by omega)
    rw [e, Int.zero_mul]
    exact Int.mul_nonneg a0 (by omega)
  · rename_i hcy
    unfold clampQ
    split
    · exact ⟨by decide, by decide, by simp, fun z => absurd z hcy⟩
    · rename_i h1
      split
      · rw [Rat.num_natCast, Rat.den_natCast]
        exact ⟨by omega, by decide, by simp, fun z => absurd z hcy⟩
      · rename_i h2
        rw [lt_num] at h1
        rw [lt_m] at h2
        exact ⟨by omega, b2, by omega, fun z => absurd z hcy⟩
theorem fl_eq {h : Rat} (h0 : 0 ≤ h.num) : ((fl h : Nat) : Int) = h.num / (h.den : Int) := by
  have hd := h.den_nz
  unfold fl
  rw [Int.toNat_of_nonneg]
  exact Int.ediv_nonneg h0 (by omega)
theorem fl_le {h : Rat} {m : Nat} (h0 : 0 ≤ h.num) (h1 : h.num ≤ (m : Int) * (h.den : Int)) : fl h ≤ m := by
  have hd := h.den_nz
  have e := fl_eq h0
  have k := Int.ediv_le_of_le_mul (a := h.num) (b := (m : Int)) (c := (h.den : Int)) (by omega) h1
  omega
theorem fl_lt {h : Rat} {m : Nat} (h0 : 0 ≤ h.num) (h1 : h.num < (m : Int) * (h.den : Int)) : fl h < m := by
  have hd := h.den_nz
  have e := fl_eq h0
  have k := Int.ediv_lt_of_lt_mul (a := h.num) (b := (m : Int)) (c := (h.den : Int)) (by omega) h1
  omega
theorem not_whole {h : Rat} {m : Nat} (h1 : h.num ≤ (m : Int) * (h.den : Int)) (hd : h.den ≠ 1) : h.num < (m : Int) * (h.den : Int) := by
  rcases Int.lt_or_eq_of_le h1 with k | k
  · exact k
  · have dv : h.den ∣ h.num.natAbs := ⟨m, by rw [k, Int.natAbs_mul, Nat.mul_comm]; rfl⟩
    exact absurd (Nat.Coprime.eq_one_of_dvd h.reduced.symm dv) hd
/-- the part of a number behind its floor -/
theorem frac_q {h : Rat} (h0 : 0 ≤ h.num) : h - ((fl h : Nat) : Rat) = Rat.divInt (h.num % (h.den : Int)) (h.den : Int) := by
  rw [q_sub, Rat.num_natCast, Rat.den_natCast, fl_eq h0]
  have e : h.num * ((1 : Nat) : Int) - h.num / (h.den : Int) * (h.den : Int) = h.num % (h.den : Int) := by
    rw [Int.emod_def, Int.mul_comm (h.den : Int)]
    simp
  rw [e]
  simp
theorem frac_z {h : Rat} (h0 : 0 ≤ h.num) (h9 : h.den ≤ 9) : Zb (h - ((fl h : Nat) : Rat)) 2520 7560 := by
  have hd := h.den_nz
  rw [frac_q h0]
  have a0 := Int.emod_nonneg h.num (show (h.den : Int) ≠ 0 by omega)
  have a1 := Int.emod_lt_of_pos h.num (show 0 < (h.den : Int) by omega)
  exact zfr (by omega) (by omega) (by omega)
theorem zb_unit {f : Rat} {L M : Nat} (h : Zb f L M) (f0 : 0 ≤ f) (f1 : f ≤ 1) : Zb f L L := by
  obtain ⟨k, e, _⟩ := h
  have hL : (0 : Rat) ≤ (L : Rat) := by exact_mod_cast Nat.zero_le L
  refine ⟨k, e, ?_⟩
  have k0 : 0 ≤ k := by
    have : (0 : Rat) ≤ (k : Rat) := by
      rw [← e]
      exact Rat.mul_nonneg f0 hL
    exact_mod_cast this
  have k1 : k ≤ (L : Int) := by
    have : (k : Rat) ≤ ((L : Int) : Rat) := by
      rw [← e, Rat.intCast_natCast]
      have := Rat.mul_le_mul_of_nonneg_right f1 hL
      rwa [Rat.one_mul] at this
    exact_mod_cast this
  omega
theorem frac_01 {h : Rat} (h0 : 0 ≤ h.num) : 0 ≤ h - ((fl h : Nat) : Rat) ∧ h - ((fl h : Nat) : Rat) < 1 := by
  have hd := h.den_nz
  have a0 := Int.emod_nonneg h.num (show (h.den : Int) ≠ 0 by omega)
  have a1 := Int.emod_lt_of_pos h.num (show 0 < (h.den : Int) by omega)
  rw [frac_q h0]
  refine ⟨?_, ?_⟩
  · rw [Rat.divInt_nonneg_iff_of_pos_right (by omega)]
    exact a0
  · have hdp : (0 : Rat) < ((h.den : Int) : Rat) := by exact_mod_cast (show (0 : Int) < (h.den : Int) by omega)
    rw [Rat.divInt_eq_div, Rat.div_lt_iff hdp, Rat.one_mul]
    exact_mod_cast a1
theorem frac_cut {h : Rat} (h0 : 0 ≤ h.num) (h9 : h.den ≤ 9) : CutB (h - ((fl h : Nat) : Rat)) 60 3000 2520 := by
  obtain ⟨f0, f1⟩ := frac_01 h0
  exact ⟨zb_unit (frac_z h0 h9) f0 (Rat.le_of_lt f1), f0, Rat.le_of_lt f1, by decide, by decide, by decide, by decide⟩
theorem frac_0 {h : Rat} (h0 : 0 ≤ h.num) : (h - ((fl h : Nat) : Rat)).num = 0 ↔ h.den = 1 := by
  constructor
  · intro z
    have z2 : h - ((fl h : Nat) : Rat) = 0 := Rat.num_eq_zero.mp z
    have z3 : h = ((fl h : Nat) : Rat) := by grind
    rw [z3, Rat.den_natCast]
  · intro z
    rw [frac_q h0, z]
    simp
def SegPt (K : PySem.W.Frag) (H : Hp) (wa sg wb : V) (f x y : Rat) : Prop := ∃ ax ay bx by' : Rat, Dp K H wa (pD ax ay) ∧ Dp K H wb (pD bx by') ∧ Bd ax 50 6 ∧ Bd ay 50 6 ∧ Bd bx 50 6 ∧ Bd by' 50 6 ∧
  ((sg = .non ∧ x = btw ax bx f ∧ y = btw ay by' f) ∨ ∃ cx cy dx dy : Rat, Bd cx 50 6 ∧ Bd cy 50 6 ∧ Bd dx 50 6 ∧ Bd dy 50 6 ∧ Dp K H sg (tt cx cy dx dy) ∧ x = c3 ax cx dx bx f ∧ y = c3 ay cy dy by' f)
theorem SegPt.mono {K : PySem.W.Frag} {H H' : Hp} {wa sg wb : V} {f x y : Rat} (s : Same H H') (h : SegPt K H wa sg wb f x y) : SegPt K H' wa sg wb f x y := by
  obtain ⟨ax, ay, bx, by', d1, d2, b1, b2, b3, b4, h⟩ := h
  refine ⟨ax, ay, bx, by', dp_mono s d1, dp_mono s d2, b1, b2, b3, b4, ?_⟩
  rcases h with h | ⟨cx, cy, dx, dy, c1, c2, c3, c4, d, e⟩
  · exact .inl h
  · exact .inr ⟨cx, cy, dx, dy, c1, c2, c3, c4, dp_mono s d, e⟩
theorem segPt_of {K : PySem.W.Frag} {H : Hp} {wa sg wb : V} (f : Rat) (h1 : PtOk K H wa) (h2 : SgOk K H sg) (h3 : PtOk K H wb) : ∃ x y, SegPt K H wa sg wb f x y := by
  obtain ⟨ax, ay, b1, b2, d1⟩ := h1
  obtain ⟨bx, by', b3, b4, d2⟩ := h3
  rcases h2 with h | ⟨cx, cy, dx, dy, c1, c2, c3, c4, d⟩
  · exact ⟨_, _, ax, ay, bx, by', d1, d2, b1, b2, b3, b4, .inl ⟨h, rfl, rfl⟩⟩
  · exact ⟨_, _, ax, ay, bx, by', d1, d2, b1, b2, b3, b4, .inr ⟨cx, cy, dx, dy, c1, c2, c3, c4, d, rfl, rfl⟩⟩
def PointOk (K : PySem.W.Frag) (H : Hp) (ks ss : List V) (h x y : Rat) : Prop :=
  (h.den = 1 ∧ ∃ w, ks[fl h]? = some w ∧ Dp K H w (pD x y)) ∨ (h.den ≠ 1 ∧ ∃ wa sg wb, ks[fl h]? = some wa ∧ ss[fl h]? = some sg ∧ ks[(fl h + 1) % ks.length]? = some wb ∧ SegPt K H wa sg wb (h - ((fl h : Nat) : Rat)) x y)
def sp_floor_of (K : PySem.W.Frag) : Sp := fun vs H Q _ => ∃ (v : V) (r : Rat), vs = [v] ∧ Dp K H v (qD r) ∧ r.den < 2 ^ 200 ∧ Q (.int (r.num / (r.den : Int))) H
def sp_length (K : PySem.W.Frag) : Sp := fun vs H Q _ => ∃ (v : V) (ks ss : List V) (cyc : Bool), vs = [v] ∧ PathOk K H v ks ss cyc ∧ Q (.int (ss.length : Int)) H
def sp_clamped (K : PySem.W.Frag) : Sp := fun vs H Q _ => ∃ (v w : V) (ks ss : List V) (cyc : Bool) (t : Rat), vs = [v, w] ∧ PathOk K H v ks ss cyc ∧ Dp K H w (qD t) ∧ Bd t 1000000000000000 9 ∧ RetD K H (qD (clampQ ss.length t)) Q
def sp_time_on (K : PySem.W.Frag) : Sp := fun vs H Q _ => ∃ (v w : V) (ks ss : List V) (cyc : Bool) (t : Rat), vs = [v, w] ∧ PathOk K H v ks ss cyc ∧ Dp K H w (qD t) ∧ Bd t 1000000000000000 9 ∧ RetD K H (qD (heldQ cyc ss.length t)) Q
def sp_segment_at (K : PySem.W.Frag) : Sp := fun vs H Q _ => ∃ (v : V) (n : Int) (m : Nat) (ks ss : List V) (cyc : Bool) (wa sg wb : V), vs = [v, .int n] ∧ PathOk K H v ks ss cyc ∧ n % (ss.length : Int) = (m : Int) ∧ m < ss.length ∧ ks[m]? = some wa ∧ ss[m]? = some sg ∧ ks[(m + 1) % ks.length]? = some wb ∧
  ∀ p H', Same H H' → H' p = some (.tup [wa, sg, wb]) → Q (.ref p) H'
def sp_point_at (K : PySem.W.Frag) : Sp := fun vs H Q _ => ∃ (v w : V) (ks ss : List V) (cyc : Bool) (t x y : Rat), vs = [v, w] ∧ PathOk K H v ks ss cyc ∧ Dp K H w (qD t) ∧ Bd t 1000000000000000 9 ∧ PointOk K H ks ss (heldQ cyc ss.length t) x y ∧ RetD K H (pD x y) Q
section
theorem ok_floor_of {P : Program} {w : World} {K : PySem.W.Frag} {mg : Str → Option Value} {base : Heap} {A : Nat → Addr} {D : Nat → FuncData} (T : Txt K mg A D base) : FnOk P w K mg base (L2.CX P w) 1 (A 10) (D 10) ["a"] (sp_floor_of K) := by
  refine T.F_floor_of.okX sc_floor_of (fun vs H Q E h => ?_) (fun cdv A' outer s H vs Q E hr h => ?_)
  · obtain ⟨_, _, rfl, _⟩ := h
    rfl
  obtain ⟨_, r, rfl, h, hd, q⟩ := h
  obtain ⟨p, rfl, hp⟩ := dp_q h
  have hz := r.den_nz
  refine ⟨_, (pss_one (ps_ret (pe_op op_fdivW (pe_ix ix_tup (pv 0) pe_int (fun _ _ => rfl)) (pe_ix ix_tup (pv 0) pe_int (fun _ _ => rfl))))), ?_⟩
  walk_at "z"
  refine z_I (wide_div (b := 200) (by omega) (by omega) (by decide) (by decide)) ?_
  walk_at "z"
  exact q
theorem ok_length {P : Program} {w : World} {K : PySem.W.Frag} {mg : Str → Option Value} {base : Heap} {A : Nat → Addr} {D : Nat → FuncData} (T : Txt K mg A D base) : FnOk P w K mg base (L2.CX P w) 1 (A 12) (D 12) ["path"] (sp_length K) := by
  refine T.F_length.okX sc_length (fun vs H Q E h => ?_) (fun cdv A' outer s H vs Q E hr h => ?_)
  · obtain ⟨_, _, _, _, rfl, _⟩ := h
    rfl
  obtain ⟨_, ks, ss, cyc, rfl, P, q⟩ := h
  obtain ⟨a, k, g, rfl, h1, h2, h3⟩ := P.at_
  refine ⟨_, (pss_one (ps_ret (pe_callB Z.c_len (by rfl) T.z_len (by decide +kernel) (pa_cons (pe_ix ix_tup (pv 0) pe_int (fun _ _ => rfl)) pa_nil)))), ?_⟩
  walk_at "z"
  exact q
theorem ok_clamped {P : Program} {w : World} {K : PySem.W.Frag} {mg : Str → Option Value} {base : Heap} {A : Nat → Addr} {D : Nat → FuncData} (T : Txt K mg A D base) : FnOk P w K mg base (L2.CX P w) 2 (A 20) (D 20) ["path", "time"] (sp_clamped K) := by
  refine T.F_clamped.okX sc_clamped (fun vs H Q E h => ?_) (fun cdv A' outer s H vs Q E hr h => ?_)
  · obtain ⟨_, _, _, _, _, _, rfl, _⟩ := h
    rfl
  obtain ⟨v, w, ks, ss, cyc, t, rfl, P, ht, b, q⟩ := h
  have n2 := P.n2
  have n3 := P.n3
  have hm : ss.length ≤ 5 := by split at n3 <;> omega
  refine ⟨_, (pss_cons (ps_set (i := 2) sc_clamped.nd rfl (.inl rfl) (pe_tup (pa_cons (pe_call (ok_length T) (hr.mono (by decide)) (by rfl) T.m_length T.F_length.kp T.b_length .nil (passes_call (takes_of rfl rfl rfl rfl) (fun _ _ _ _ h => h)) (pa_cons (pv 0) pa_nil)) (pa_cons pe_int pa_nil))))
  (pss_cons (ps_if (pt_cmpR op_lt (pe_call (ok_compare T) (hr.mono (by decide)) (by rfl) T.m_compare T.F_compare.kp T.b_compare .nil (passes_call (takes_of rfl rfl rfl rfl) (fun _ _ _ _ h => h)) (pa_cons (pv 1) (pa_cons (Z.pe_globR T.c_ZERO) pa_nil))) pe_int (nomark _))
  (pss_one (ps_ret (Z.pe_globR T.c_ZERO)))
  pss_nil)
  (pss_cons (ps_if (pt_cmpR op_gt (pe_call (ok_compare T) (hr.mono (by decide)) (by rfl) T.m_compare T.F_compare.kp T.b_compare .nil (passes_call (takes_of rfl rfl rfl rfl) (fun _ _ _ _ h => h)) (pa_cons (pv 1) (pa_cons (pv 2) pa_nil))) pe_int (nomark _))
  (pss_one (ps_ret (pv 2)))
  pss_nil)
  (pss_one (ps_ret (pv 1)))))), ?_⟩
  walk_at "z"
  refine ⟨v, ks, ss, cyc, rfl, P, ?_⟩
  walk_at "z"
  intro p1 H1 _ s1 h1
  have whole : Dp K H1 (.ref p1) (qD ((ss.length : Nat) : Rat)) := dp_mkq (by rw [Rat.num_natCast, Rat.den_natCast]; exact h1)
  have bt : Bg t := b.bg (by decide) (by decide)
  have bm : Bg ((ss.length : Nat) : Rat) := ⟨by rw [Rat.num_natCast]; exact Nat.lt_of_le_of_lt (show ((ss.length : Int)).natAbs ≤ 5 by omega) (by decide), by rw [Rat.den_natCast]; decide⟩
  walk_at "z"
  refine ⟨_, _, t, 0, rfl, dp_mono s1 ht, T.d_ZERO _, bt, ⟨by decide, by decide⟩, ?_⟩
  walk_at "z"
  refine z_if (fun c => ?_) (fun c => ?_)
  · walk_at "z"
    refine q _ _ s1 ?_
    unfold clampQ
    rw [if_pos (cmp_neg.mp c)]
    exact T.d_ZERO _
  walk_at "z"
  refine ⟨_, _, t, _, rfl, dp_mono s1 ht, whole, bt, bm, ?_⟩
  walk_at "z"
  refine z_if (fun c2 => ?_) (fun c2 => ?_)
  · walk_at "z"
    refine q _ _ s1 ?_
    unfold clampQ
    rw [if_neg (fun z => c (cmp_neg.mpr z)), if_pos (cmp_pos.mp c2)]
    exact whole
  walk_at "z"
  refine q _ _ s1 ?_
  unfold clampQ
  rw [if_neg (fun z => c (cmp_neg.mpr z)), if_neg (fun z => c2 (cmp_pos.mpr z))]
  exact dp_mono s1 ht
theorem ok_time_on {P : Program} {w : World} {K : PySem.W.Frag} {mg : Str → Option Value} {base : Heap} {A : Nat → Addr} {D : Nat → FuncData} (T : Txt K mg A D base) : FnOk P w K mg base (L2.CX P w) 3 (A 19) (D 19) ["path", "time"] (sp_time_on K) := by
  refine T.F_time_on.okX sc_time_on (fun vs H Q E h => ?_) (fun cdv A' outer s H vs Q E hr h => ?_)
  · obtain ⟨_, _, _, _, _, _, rfl, _⟩ := h
    rfl
  obtain ⟨_, w, ks, ss, cyc, t, rfl, P, ht, b, q⟩ := h
  have n1 := P.n1
  have n2 := P.n2
  have n3 := P.n3
  obtain ⟨a, k, g, rfl, h1, h2, h3⟩ := P.at_
  have hd := t.den_nz
  refine ⟨_, (pss_cons (ps_if (pt_not (pt_val (pe_ix ix_tup (pv 0) pe_int (fun _ _ => rfl))))
  (pss_one (ps_ret (pe_call (ok_clamped T) (hr.mono (by decide)) (by rfl) T.m_clamped T.F_clamped.kp T.b_clamped .nil (passes_call (takes_of rfl rfl rfl rfl) (fun _ _ _ _ h => h)) (pa_cons (pv 0) (pa_cons (pv 1) pa_nil)))))
  pss_nil)
  (pss_cons (ps_asg (pv 1) (pg_tup (by rfl) (pgs_cons (pg_name (i := 2) sc_time_on.nd rfl (.inl rfl)) (pgs_cons (pg_name (i := 3) sc_time_on.nd rfl (.inl rfl)) pgs_nil))))
  (pss_one (ps_ret (pe_call (ok_ratio T) (hr.mono (by decide)) (by rfl) T.m_ratio T.F_ratio.kp T.b_ratio .nil (passes_call (takes_of rfl rfl rfl rfl) (fun _ _ _ _ h => h)) (pa_cons (pe_op op_mod (pv 2) (pe_op op_mulW (pe_call (ok_length T) (hr.mono (by decide)) (by rfl) T.m_length T.F_length.kp T.b_length .nil (passes_call (takes_of rfl rfl rfl rfl) (fun _ _ _ _ h => h)) (pa_cons (pv 0) pa_nil)) (pv 3))) (pa_cons (pv 3) pa_nil))))))), ?_⟩
  walk_at "z"
  cases cyc with
  | false =>
    walk_at "z"
    exact ⟨_, w, ks, ss, false, t, rfl, P, ht, b, q⟩
  | true =>
    obtain ⟨pt, rfl, hpt⟩ := dp_q ht
    walk_at "z"
    refine ⟨_, ks, ss, true, rfl, P, ?_⟩
    walk_at "z"
    have hss : ss.length = ks.length := by simpa using n3
    have b2 := b.2
    refine z_I (wide_mul (a := 8) (b := 8) (Nat.lt_of_le_of_lt (show ((ss.length : Int)).natAbs ≤ 5 by omega) (by decide)) (Nat.lt_of_le_of_lt (show ((t.den : Int)).natAbs ≤ 9 by omega) (by decide)) (by decide) (by decide) (by decide)) ?_
    have hp : 0 < (ss.length : Int) * (t.den : Int) := Int.mul_pos (by omega) (by omega)
    walk_at "z"
    have a0 := Int.emod_nonneg t.num (show (ss.length : Int) * (t.den : Int) ≠ 0 by omega)
    have a1 := Int.emod_lt_of_pos t.num hp
    have a2 : (ss.length : Int) * (t.den : Int) ≤ 5 * 9 := Int.mul_le_mul (by omega) (by omega) (by omega) (by decide)
    refine rat_use (small1000 (by omega)) (small1000 (by omega)) (by omega) ⟨fun n => ?_, fun _ => ?_⟩
    · exact absurd ((bd_divInt (n := t.num % ((ss.length : Int) * (t.den : Int))) (d := (t.den : Int)) (by omega)).fits (by omega) (by omega)) n
    · exact q
theorem ok_segment_at {P : Program} {w : World} {K : PySem.W.Frag} {mg : Str → Option Value} {base : Heap} {A : Nat → Addr} {D : Nat → FuncData} (T : Txt K mg A D base) : FnOk P w K mg base (L2.CX P w) 1 (A 21) (D 21) ["path", "n"] (sp_segment_at K) := by
  refine T.F_segment_at.okX sc_segment_at (fun vs H Q E h => ?_) (fun cdv A' outer s H vs Q E hr h => ?_)
  · obtain ⟨_, _, _, _, _, _, _, _, _, rfl, _⟩ := h
    rfl
  obtain ⟨_, n, m, ks, ss, cyc, wa, sg, wb, rfl, P, e4, hn, e1, e2, e3, q⟩ := h
  have n1 := P.n1
  obtain ⟨a, k, g, rfl, h1, h2, h3⟩ := P.at_
  have hz : (ss.length : Int) ≠ 0 := by omega
  refine ⟨_, (pss_cons (ps_asg (pv 0) (pg_tup (by rfl) (pgs_cons (pg_name (i := 2) sc_segment_at.nd rfl (.inl rfl)) (pgs_cons (pg_name (i := 3) sc_segment_at.nd rfl (.inl rfl)) (pgs_cons (pg_name (i := 4) sc_segment_at.nd rfl (.inl rfl)) pgs_nil)))))
  (pss_cons (ps_set (i := 5) sc_segment_at.nd rfl (.inl rfl) (pe_op op_mod (pv 1) (pe_callB Z.c_len (by rfl) T.z_len (by decide +kernel) (pa_cons (pv 3) pa_nil))))
  (pss_one (ps_ret (pe_tup (pa_cons (pe_ix ix_tup (pv 2) (pv 5) (fun _ _ => rfl)) (pa_cons (pe_ix ix_tup (pv 3) (pv 5) (fun _ _ => rfl)) (pa_cons (pe_ix ix_tup (pv 2) (pe_op op_mod (pe_op op_add (pv 5) pe_int) (pe_callB Z.c_len (by rfl) T.z_len (by decide +kernel) (pa_cons (pv 2) pa_nil))) (fun _ _ => rfl)) pa_nil)))))))), ?_⟩
  walk_at "z"
  rw [e4]
  refine z_ixT h2 (atI_nat e1) ?_
  walk_at "z"
  refine z_ixT h3 (atI_nat e2) ?_
  walk_at "z"
  refine z_ixT h2 (show atI ks (((m : Int) + 1) % (ks.length : Int)) = some wb from by
    rw [show ((m : Int) + 1) % (ks.length : Int) = (((m + 1) % ks.length : Nat) : Int) by rw [Int.natCast_emod]; rfl]
    exact atI_nat e3) ?_
  walk_at "z"
  exact fun p H' _ s h => q p H' s h
theorem ok_point_at {P : Program} {w : World} {K : PySem.W.Frag} {mg : Str → Option Value} {base : Heap} {A : Nat → Addr} {D : Nat → FuncData} (T : Txt K mg A D base) : FnOk P w K mg base (L2.CX P w) 6 (A 18) (D 18) ["path", "time"] (sp_point_at K) := by
  refine T.F_point_at.okX sc_point_at (fun vs H Q E h => ?_) (fun cdv A' outer s H vs Q E hr h => ?_)
  · obtain ⟨_, _, _, _, _, _, _, _, rfl, _⟩ := h
    rfl
  obtain ⟨_, w, ks, ss, cyc, t, x, y, rfl, P, ht, b, O, q⟩ := h
  have n1 := P.n1
  have n3 := P.n3
  obtain ⟨h0, h9, hle, _⟩ := held_ok (cyc := cyc) (m := ss.length) b (fun z => by rw [z] at n3; simp at n3; omega)
  refine ⟨_, (pss_cons (ps_set (i := 2) sc_point_at.nd rfl (.inl rfl) (pe_call (ok_time_on T) (hr.mono (by decide)) (by rfl) T.m_time_on T.F_time_on.kp T.b_time_on .nil (passes_call (takes_of rfl rfl rfl rfl) (fun _ _ _ _ h => h)) (pa_cons (pv 0) (pa_cons (pv 1) pa_nil))))
  (pss_cons (ps_set (i := 3) sc_point_at.nd rfl (.inl rfl) (pe_call (ok_floor_of T) (hr.mono (by decide)) (by rfl) T.m_floor_of T.F_floor_of.kp T.b_floor_of .nil (passes_call (takes_of rfl rfl rfl rfl) (fun _ _ _ _ h => h)) (pa_cons (pv 2) pa_nil)))
  (pss_cons (ps_if (pt_cmpR op_eq (pe_ix ix_tup (pv 2) pe_int (fun _ _ => rfl)) pe_int (nomark _))
  (pss_one (ps_ret (pe_ix ix_tup (pe_ix ix_tup (pv 0) pe_int (fun _ _ => rfl)) (pv 3) (fun _ _ => rfl))))
  pss_nil)
  (pss_cons (ps_asg (pe_call (ok_segment_at T) (hr.mono (by decide)) (by rfl) T.m_segment_at T.F_segment_at.kp T.b_segment_at .nil (passes_call (takes_of rfl rfl rfl rfl) (fun _ _ _ _ h => h)) (pa_cons (pv 0) (pa_cons (pv 3) pa_nil))) (pg_tup (by rfl) (pgs_cons (pg_name (i := 4) sc_point_at.nd rfl (.inl rfl)) (pgs_cons (pg_name (i := 5) sc_point_at.nd rfl (.inl rfl)) (pgs_cons (pg_name (i := 6) sc_point_at.nd rfl (.inl rfl)) pgs_nil)))))
  (pss_one (ps_ret (pe_ix ix_tup (pe_call (ok_cut_segment T) (hr.mono (by decide)) (by rfl) T.m_cut_segment T.F_cut_segment.kp T.b_cut_segment .nil (passes_call (takes_of rfl rfl rfl rfl) (fun _ _ _ _ h => h)) (pa_cons (pv 4) (pa_cons (pv 5) (pa_cons (pv 6) (pa_cons (pe_call (ok_subtract T) (hr.mono (by decide)) (by rfl) T.m_subtract T.F_subtract.kp T.b_subtract .nil (passes_call (takes_of rfl rfl rfl rfl) (fun _ _ _ _ h => h)) (pa_cons (pv 2) (pa_cons (pe_tup (pa_cons (pv 3) (pa_cons pe_int pa_nil))) pa_nil))) pa_nil))))) pe_int (fun _ _ => rfl)))))))), ?_⟩
  walk_at "z"
  refine ⟨_, w, ks, ss, cyc, t, rfl, P, ht, b, fun u1 H1 s1 e1 => ?_⟩
  generalize heldQ cyc ss.length t = h at *
  walk_at "z"
  refine ⟨_, h, rfl, e1, Nat.lt_of_le_of_lt h9 (by decide), ?_⟩
  have P1 := P.mono s1
  rw [← fl_eq h0]
  obtain ⟨pu, rfl, hpu⟩ := dp_q e1
  obtain ⟨a, k, g, rfl, g1, g2, g3⟩ := P1.at_
  walk_at "z"
  rcases O with ⟨hd, wv, hw, dw⟩ | ⟨hd, wa, sg, wb, k1, k2, k3, S⟩
  · refine z_if (fun c => ?_) (fun c => absurd (by omega) c)
    walk_at "z"
    refine z_ixT g2 (atI_nat hw) ?_
    exact q _ _ s1 (dp_mono s1 dw)
  refine z_if (fun c => absurd (by omega) hd) (fun c => ?_)
  walk_at "z"
  refine ⟨_, _, fl h, ks, ss, cyc, wa, sg, wb, rfl, P1, Int.emod_eq_of_lt (by omega) (by have := fl_lt h0 (not_whole hle hd); omega), fl_lt h0 (not_whole hle hd), k1, k2, k3, fun p2 H2 s2 hp2 => ?_⟩
  walk_at "z"
  intro p3 H3 _ s3 h3
  have z3 := (s1.trans s2).trans s3
  have nn : Dp K H3 (.ref p3) (qD ((fl h : Nat) : Rat)) := dp_mkq (by rw [Rat.num_natCast, Rat.den_natCast]; exact h3)
  walk_at "z"
  have zf := frac_z h0 h9
  have m5 := fl_le h0 hle
  have n2 := P.n2
  have bn : Bg ((fl h : Nat) : Rat) := ⟨by rw [Rat.num_natCast]; exact Nat.lt_of_le_of_lt (show ((fl h : Nat) : Int).natAbs ≤ 6 by split at n3 <;> omega) (by decide), by rw [Rat.den_natCast]; decide⟩
  have m9 : (ss.length : Int) * (h.den : Int) ≤ 6 * 9 := Int.mul_le_mul (by split at n3 <;> omega) (by omega) (by omega) (by decide)
  have bh : Bg h := ⟨Nat.lt_of_le_of_lt (show h.num.natAbs ≤ 54 by omega) (by decide), Nat.lt_of_le_of_lt h9 (by decide)⟩
  refine opq (dp_mono (s2.trans s3) e1) nn bh bn (zfits zf (by decide) (by decide) (by decide)) fun u4 H4 s4 e4 => ?_
  have z4 := z3.trans s4
  obtain ⟨ax, ay, bx, by', d1, d2, b1, b2, b3, b4, S⟩ := S.mono z4
  walk_at "z"
  rcases S with ⟨rfl, rfl, rfl⟩ | ⟨cx, cy, dx, dy, c1, c2, c3, c4, d, rfl, rfl⟩
  · refine ⟨_, _, _, _, ax, ay, bx, by', _, 60, 3000, 2520, rfl, d1, d2, e4, z60 b1, z60 b2, z60 b3, z60 b4, frac_cut h0 h9, .inl ⟨rfl, fun u5 H5 s5 e5 => ?_⟩⟩
    obtain ⟨pr, w1, w2, w3, rfl, hR, r1, r2, r3⟩ := dp_t3 e5
    walk_at "z"
    exact q _ _ (z4.trans s5) r2
  · refine ⟨_, _, _, _, ax, ay, bx, by', _, 60, 3000, 2520, rfl, d1, d2, e4, z60 b1, z60 b2, z60 b3, z60 b4, frac_cut h0 h9, .inr ⟨cx, cy, dx, dy, d, z60 c1, z60 c2, z60 c3, z60 c4, fun u5 H5 s5 e5 => ?_⟩⟩
    obtain ⟨pr, w1, w2, w3, rfl, hR, r1, r2, r3⟩ := dp_t3 e5
    walk_at "z"
    exact q _ _ (z4.trans s5) r2
end
/-! ### parts of paths -/
def ptA (pts : List PQ) (n : Int) : PQ := (pts[(n % (pts.length : Int)).toNat]?).getD (0, 0)
def sgA (sgs : List (Option (PQ × PQ))) (n : Int) : Option (PQ × PQ) := (sgs[(n % (sgs.length : Int)).toNat]?).getD none
def btwQ (a b : PQ) (f : Rat) : PQ := (btw a.1 b.1 f, btw a.2 b.2 f)
/-- the point of a segment at a fraction; the first part, the last part -/
def evS (a : PQ) (s : Option (PQ × PQ)) (b : PQ) (f : Rat) : PQ := match s with
  | none => btwQ a b f
  | some (c, d) => (c3 a.1 c.1 d.1 b.1 f, c3 a.2 c.2 d.2 b.2 f)
def fstS (a : PQ) (s : Option (PQ × PQ)) (_b : PQ) (f : Rat) : Option (PQ × PQ) := match s with
  | none => none
  | some (c, d) => some ((c1 a.1 c.1 f, c1 a.2 c.2 f), (c2 a.1 c.1 d.1 f, c2 a.2 c.2 d.2 f))
def lstS (_a : PQ) (s : Option (PQ × PQ)) (b : PQ) (f : Rat) : Option (PQ × PQ) := match s with
  | none => none
  | some (c, d) => some ((c2 c.1 d.1 b.1 f, c2 c.2 d.2 b.2 f), (c1 d.1 b.1 f, c1 d.2 b.2 f))
/-- the polar form -/
def pol (a c d b u v w : Rat) : Rat := btw (btw (btw a c u) (btw c d u) v) (btw (btw c d u) (btw d b u) v) w
def pcS (a : PQ) (s : Option (PQ × PQ)) (b : PQ) (x y : Rat) : Option (PQ × PQ) := match s with
  | none => none
  | some (c, d) => some ((pol a.1 c.1 d.1 b.1 x x y, pol a.2 c.2 d.2 b.2 x x y), (pol a.1 c.1 d.1 b.1 x y y, pol a.2 c.2 d.2 b.2 x y y))
theorem pol_fst1 (a c d b e : Rat) : pol a c d b 0 0 e = c1 a c e := by
  unfold pol c1 btw
  grind
theorem pol_fst2 (a c d b e : Rat) : pol a c d b 0 e e = c2 a c d e := by
  unfold pol c2 btw
  grind
theorem pcS_0 (a : PQ) (s : Option (PQ × PQ)) (b : PQ) (e : Rat) : pcS a s b 0 e = fstS a s b e := by
  match s with
  | none => rfl
  | some (c, d) =>
    unfold pcS fstS
    simp only [pol_fst1, pol_fst2]
theorem pol_lst1 (a c d b e f : Rat) : c2 (c1 a c e) (c2 a c d e) (c3 a c d b e) f = pol a c d b (f * e) (f * e) e := by
  unfold pol c1 c3 c2 btw
  grind
theorem pol_lst2 (a c d b e f : Rat) : c1 (c2 a c d e) (c3 a c d b e) f = pol a c d b (f * e) e e := by
  unfold pol c1 c3 c2 btw
  grind
theorem pcS_f (a : PQ) (s : Option (PQ × PQ)) (b : PQ) (e f : Rat) : lstS a (fstS a s b e) (evS a s b e) f = pcS a s b (f * e) e := by
  match s with
  | none => rfl
  | some (c, d) =>
    unfold fstS evS lstS pcS
    simp only [pol_lst1, pol_lst2]
theorem fstS_1 (a : PQ) (s : Option (PQ × PQ)) (b : PQ) : fstS a s b 1 = s := by
  match s with
  | none => rfl
  | some (c, d) =>
    have h1 : ∀ x y : Rat, c1 x y 1 = y := fun x y => by
      unfold c1 btw
      grind
    have h2 : ∀ x y z : Rat, c2 x y z 1 = z := fun x y z => by
      unfold c2 btw
      grind
    unfold fstS
    simp only [h1, h2]
theorem evS_1 (a : PQ) (s : Option (PQ × PQ)) (b : PQ) : evS a s b 1 = b := by
  match s with
  | none =>
    unfold evS btwQ btw
    refine Prod.ext ?_ ?_
    · show a.1 + 1 * (b.1 - a.1) = b.1
      grind
    · show a.2 + 1 * (b.2 - a.2) = b.2
      grind
  | some (c, d) =>
    have h2 : ∀ x y z w : Rat, c3 x y z w 1 = w := fun x y z w => by
      unfold c3 c2 btw
      grind
    unfold evS
    simp only [h2]
/-- bounds of a point, a segment -/
def Zp2 (a : PQ) (N M : Nat) : Prop := Zb a.1 N M ∧ Zb a.2 N M
def Zs2 (s : Option (PQ × PQ)) (N M : Nat) : Prop := match s with
  | none => True
  | some (c, d) => Zp2 c N M ∧ Zp2 d N M
theorem Zp2.cvx {a b : PQ} {f : Rat} {N M L : Nat} (h : Zp2 a N M) (h' : Zp2 b N M) (zf : Zb f L L) (f0 : 0 ≤ f) (f1 : f ≤ 1) (hL : L ≠ 0) : Zp2 (btwQ a b f) (N * L) (M * L) := ⟨zb_cvx h.1 h'.1 zf f0 f1 hL, zb_cvx h.2 h'.2 zf f0 f1 hL⟩
theorem Zp2.up {a : PQ} {N M : Nat} (c : Nat) (h : Zp2 a N M) : Zp2 a (N * c) (M * c) := ⟨zb_up c h.1, zb_up c h.2⟩
theorem Zs2.up {s : Option (PQ × PQ)} {N M : Nat} (c : Nat) (h : Zs2 s N M) : Zs2 s (N * c) (M * c) := by
  match s, h with
  | none, _ => trivial
  | some (x, y), h => exact ⟨Zp2.up c h.1, Zp2.up c h.2⟩
theorem cut_zb {a b : PQ} {s : Option (PQ × PQ)} {f : Rat} {N M L : Nat} (za : Zp2 a N M) (zb : Zp2 b N M) (zs : Zs2 s N M) (zf : Zb f L L) (f0 : 0 ≤ f) (f1 : f ≤ 1) (hL : L ≠ 0) :
    Zs2 (fstS a s b f) (N * L * L * L) (M * L * L * L) ∧ Zp2 (evS a s b f) (N * L * L * L) (M * L * L * L) := by
  match s, zs with
  | none, _ => exact ⟨trivial, ((za.cvx zb zf f0 f1 hL).up L).up L⟩
  | some (c, d), zs =>
    have x1 := za.cvx zs.1 zf f0 f1 hL
    have x2 := zs.1.cvx zs.2 zf f0 f1 hL
    have x3 := zs.2.cvx zb zf f0 f1 hL
    have y1 := x1.cvx x2 zf f0 f1 hL
    have y2 := x2.cvx x3 zf f0 f1 hL
    exact ⟨⟨(x1.up L).up L, y1.up L⟩, y1.cvx y2 zf f0 f1 hL⟩
theorem cutPQ {K : PySem.W.Frag} {H : Hp} {v s w u : V} {a b : PQ} {sg : Option (PQ × PQ)} {f : Rat} {N M L : Nat} {Q : VK} {E : XK} (da : Dp K H v (ptQ a)) (ds : Dp K H s (sgQ sg)) (db : Dp K H w (ptQ b)) (df : Dp K H u (qD f)) (za : Zp2 a N M) (zb : Zp2 b N M) (zs : Zs2 sg N M) (cb : CutB f N M L)
    (q : RetD K H (.tuple [sgQ (fstS a sg b f), ptQ (evS a sg b f), sgQ (lstS a sg b f)]) Q) : sp_cut_segment K [v, s, w, u] H Q E := by
  refine ⟨v, s, w, u, a.1, a.2, b.1, b.2, f, N, M, L, rfl, da, db, df, za.1, za.2, zb.1, zb.2, cb, ?_⟩
  match sg, ds, zs, q with
  | none, ds, _, q => exact .inl ⟨dp_non ds, q⟩
  | some (c, d), ds, zs, q => exact .inr ⟨c.1, c.2, d.1, d.2, ds, zs.1.1, zs.1.2, zs.2.1, zs.2.2, q⟩
theorem shiftQ (t : Rat) (z : Int) : (t - (z : Rat)).num = t.num - z * (t.den : Int) ∧ (t - (z : Rat)).den = t.den := by
  have c : (t.num - z * (t.den : Int)).natAbs.Coprime t.den := by
    have h : Int.gcd (t.num - z * (t.den : Int)) (t.den : Int) = Int.gcd t.num (t.den : Int) := Int.gcd_sub_mul_right_left (t.den : Int) t.num z
    have h2 : Int.gcd t.num (t.den : Int) = 1 := t.reduced
    rw [h2] at h
    exact h
  have e : t - (z : Rat) = ⟨t.num - z * (t.den : Int), t.den, t.den_nz, c⟩ := by
    rw [q_sub, Rat.mk_eq_divInt, Rat.num_intCast, Rat.den_intCast]
    simp
  rw [e]
  exact ⟨rfl, rfl⟩
/-- the floor -/
def flI (t : Rat) : Int := t.num / (t.den : Int)
theorem shift_fl (t : Rat) (z : Int) : flI (t - (z : Rat)) = flI t - z := by
  obtain ⟨h1, h2⟩ := shiftQ t z
  unfold flI
  rw [h1, h2, Int.sub_mul_ediv_right _ _ (by have := t.den_nz; omega)]
/-- the time that a time means on a cycle -/
theorem held_cyc {m : Nat} (t : Rat) (hm : 1 ≤ m) : ∃ z : Int, heldQ true m t = t - (z : Rat) ∧ flI t - z = flI t % (m : Int) := by
  have hd := t.den_nz
  have hp : 0 < (m : Int) * (t.den : Int) := Int.mul_pos (by omega) (by omega)
  refine ⟨(m : Int) * (t.num / ((m : Int) * (t.den : Int))), ?_, ?_⟩
  · show Rat.divInt (t.num % ((m : Int) * (t.den : Int))) (t.den : Int) = _
    rw [q_sub, Rat.num_intCast, Rat.den_intCast, Int.emod_def]
    have e : t.num - (m : Int) * (t.den : Int) * (t.num / ((m : Int) * (t.den : Int))) = t.num * ((1 : Nat) : Int) - (m : Int) * (t.num / ((m : Int) * (t.den : Int))) * (t.den : Int) := by
      rw [Int.mul_assoc, Int.mul_comm (t.den : Int), ← Int.mul_assoc]
      simp
    rw [e]
    simp
  · unfold flI
    rw [Int.mul_comm (m : Int) (t.den : Int), ← Int.ediv_ediv_of_nonneg (by omega : (0 : Int) ≤ (t.den : Int)), Int.emod_def]
def Tm (t : Rat) : Prop := Bd t 300 5
theorem Tm.b {t : Rat} (h : Tm t) : Bd t 1000000000000000 9 := h.le (by decide) (by decide)
/-- the point of a path at a time -/
def onQ (pts : List PQ) (sgs : List (Option (PQ × PQ))) (t : Rat) : PQ := if t.den = 1 then ptA pts (flI t) else evS (ptA pts (flI t)) (sgA sgs (flI t)) (ptA pts (flI t + 1)) (t - ((flI t : Int) : Rat))
section
variable {K : PySem.W.Frag} {H : Hp}
theorem pathOk_of {v : V} {pts : List PQ} {sgs : List (Option (PQ × PQ))} {cyc : Bool} (h : Dp K H v (pathQ pts sgs cyc)) (pb : PathB pts sgs cyc 5) : ∃ ks ss, PathOk K H v ks ss cyc ∧ DpAll K H ks (pts.map ptQ) ∧ DpAll K H ss (sgs.map sgQ) ∧ ks.length = pts.length ∧ ss.length = sgs.length := by
  obtain ⟨a, k, g, ks, ss, rfl, h1, h2, h3, ak, ag⟩ := dp_path h
  have kl : ks.length = pts.length := by rw [dpa_len ak, List.length_map]
  have sl : ss.length = sgs.length := by rw [dpa_len ag, List.length_map]
  refine ⟨ks, ss, ⟨⟨a, k, g, rfl, h1, h2, h3⟩, by rw [kl]; exact pb.n1, by rw [kl]; exact pb.n2, by rw [kl, sl]; exact pb.n3, fun w hw => ?_, fun w hw => ?_⟩, ak, ag, kl, sl⟩
  · obtain ⟨i, hi⟩ := List.getElem?_of_mem hw
    obtain ⟨d, hd, dd⟩ := dpa_gev ak hi
    rw [List.getElem?_map] at hd
    obtain ⟨p, hp, rfl⟩ := Option.map_eq_some_iff.mp hd
    have b := pb.pb p (List.mem_of_getElem? hp)
    exact ⟨p.1, p.2, b.1, b.2, dd⟩
  · obtain ⟨i, hi⟩ := List.getElem?_of_mem hw
    obtain ⟨d, hd, dd⟩ := dpa_gev ag hi
    rw [List.getElem?_map] at hd
    obtain ⟨s, hs, rfl⟩ := Option.map_eq_some_iff.mp hd
    have b := pb.sb s (List.mem_of_getElem? hs)
    match s, b, dd with
    | none, _, dd => exact .inl (dp_non dd)
    | some (c, d), b, dd => exact .inr ⟨c.1, c.2, d.1, d.2, b.1.1, b.1.2, b.2.1, b.2.2, dd⟩
/-- what lies at an index that goes around -/
theorem at_pt {ks : List V} {pts : List PQ} (ak : DpAll K H ks (pts.map ptQ)) (n1 : 1 ≤ pts.length) (n : Int) : ∃ w, ks[(n % (pts.length : Int)).toNat]? = some w ∧ Dp K H w (ptQ (ptA pts n)) ∧ ptA pts n ∈ pts := by
  have h0 := Int.emod_nonneg n (show (pts.length : Int) ≠ 0 by omega)
  have h1 := Int.emod_lt_of_pos n (show 0 < (pts.length : Int) by omega)
  obtain ⟨a, ha⟩ : ∃ z, pts[(n % (pts.length : Int)).toNat]? = some z := ⟨_, List.getElem?_eq_getElem (by omega)⟩
  obtain ⟨v, hv, dv⟩ := dpa_get ak (show (pts.map ptQ)[(n % (pts.length : Int)).toNat]? = some (ptQ a) by rw [List.getElem?_map, ha]; rfl)
  have e : ptA pts n = a := by
    unfold ptA
    rw [ha]
    rfl
  rw [e]
  exact ⟨v, hv, dv, List.mem_of_getElem? ha⟩
theorem at_sg {ss : List V} {sgs : List (Option (PQ × PQ))} (ag : DpAll K H ss (sgs.map sgQ)) (n1 : 1 ≤ sgs.length) (n : Int) : ∃ w, ss[(n % (sgs.length : Int)).toNat]? = some w ∧ Dp K H w (sgQ (sgA sgs n)) ∧ sgA sgs n ∈ sgs := by
  have h0 := Int.emod_nonneg n (show (sgs.length : Int) ≠ 0 by omega)
  have h1 := Int.emod_lt_of_pos n (show 0 < (sgs.length : Int) by omega)
  obtain ⟨a, ha⟩ : ∃ z, sgs[(n % (sgs.length : Int)).toNat]? = some z := ⟨_, List.getElem?_eq_getElem (by omega)⟩
  obtain ⟨v, hv, dv⟩ := dpa_get ag (show (sgs.map sgQ)[(n % (sgs.length : Int)).toNat]? = some (sgQ a) by rw [List.getElem?_map, ha]; rfl)
  have e : sgA sgs n = a := by
    unfold sgA
    rw [ha]
    rfl
  rw [e]
  exact ⟨v, hv, dv, List.mem_of_getElem? ha⟩
end
/-- the places of a path: an index of a segment, within an open path -/
def Inn (cyc : Bool) (m : Nat) (n : Int) : Prop := 1 ≤ m ∧ (cyc = true ∨ (0 ≤ n ∧ n < (m : Int)))
theorem Inn.at_ {pts : List PQ} {sgs : List (Option (PQ × PQ))} {cyc : Bool} {n : Int} (i : Inn cyc sgs.length n) (n3 : sgs.length + 1 = pts.length + (if cyc = true then 1 else 0)) :
    (n % (pts.length : Int)).toNat = (n % (sgs.length : Int)).toNat ∧ ((n % (sgs.length : Int)).toNat + 1) % pts.length = ((n + 1) % (pts.length : Int)).toNat ∧ (n % (sgs.length : Int)).toNat < sgs.length := by
  obtain ⟨m1, h⟩ := i
  have h0 := Int.emod_nonneg n (show (sgs.length : Int) ≠ 0 by omega)
  have h1 := Int.emod_lt_of_pos n (show 0 < (sgs.length : Int) by omega)
  cases cyc with
  | true =>
    rw [if_pos rfl] at n3
    have e : sgs.length = pts.length := by omega
    have e' : (sgs.length : Int) = (pts.length : Int) := by omega
    rw [e'] at h0 h1
    rw [e']
    refine ⟨rfl, ?_, by omega⟩
    have e2 : (n + 1) % (pts.length : Int) = (((n % (pts.length : Int)).toNat + 1 : Nat) : Int) % (pts.length : Int) := by
      rw [show (((n % (pts.length : Int)).toNat + 1 : Nat) : Int) = n % (pts.length : Int) + 1 by omega, Int.emod_add_emod]
    rw [e2, ← Int.natCast_emod, Int.toNat_natCast]
  | false =>
    rcases h with h | h
    · cases h
    rw [if_neg Bool.false_ne_true] at n3
    rw [Int.emod_eq_of_lt h.1 (by omega), Int.emod_eq_of_lt (a := n) h.1 h.2, Int.emod_eq_of_lt (a := n + 1) (by omega) (by omega), Nat.mod_eq_of_lt (by omega)]
    omega

section
variable {K : PySem.W.Frag} {H : Hp}
theorem flN {t : Rat} (h0 : 0 ≤ flI t) : ((fl t : Nat) : Int) = flI t := by
  show (((t.num / (t.den : Int)).toNat : Nat) : Int) = t.num / (t.den : Int)
  exact Int.toNat_of_nonneg h0
theorem tnum {t : Rat} (h : t.den = 1) : ((flI t : Int) : Rat) = t := by
  unfold flI
  rw [h, show t.num / ((1 : Nat) : Int) = t.num by simp]
  exact Rat.ext (by rw [Rat.num_intCast]) (by rw [Rat.den_intCast, h])
/-- within an open path -/
def Wi (cyc : Bool) (m : Nat) (t : Rat) : Prop := (cyc = true ∧ 1 ≤ m) ∨ (cyc = false ∧ 0 ≤ t.num ∧ t.num ≤ (m : Int) * (t.den : Int))
theorem held_open {m : Nat} {t : Rat} (h0 : 0 ≤ t.num) (h1 : t.num ≤ (m : Int) * (t.den : Int)) : heldQ false m t = t := by
  unfold heldQ clampQ
  rw [if_neg Bool.false_ne_true, if_neg (fun z => by rw [lt_num] at z; omega), if_neg (fun z => by rw [lt_m] at z; omega)]
theorem sgPt {wa sg wb : V} {a b : PQ} {s : Option (PQ × PQ)} {f : Rat} (da : Dp K H wa (ptQ a)) (ds : Dp K H sg (sgQ s)) (db : Dp K H wb (ptQ b)) (ba : Bq a) (bs : Bs s) (bb : Bq b) : SegPt K H wa sg wb f (evS a s b f).1 (evS a s b f).2 := by
  refine ⟨a.1, a.2, b.1, b.2, da, db, ba.1, ba.2, bb.1, bb.2, ?_⟩
  match s, ds, bs with
  | none, ds, _ => exact .inl ⟨dp_non ds, rfl, rfl⟩
  | some (c, d), ds, bs => exact .inr ⟨c.1, c.2, d.1, d.2, bs.1.1, bs.1.2, bs.2.1, bs.2.2, ds, rfl, rfl⟩
theorem pointOk_of {ks ss : List V} {pts : List PQ} {sgs : List (Option (PQ × PQ))} {cyc : Bool} {t : Rat} (ak : DpAll K H ks (pts.map ptQ)) (ag : DpAll K H ss (sgs.map sgQ)) (pb : PathB pts sgs cyc 5) (wi : Wi cyc sgs.length t) :
    PointOk K H ks ss (heldQ cyc sgs.length t) (onQ pts sgs t).1 (onQ pts sgs t).2 := by
  have n1 := pb.n1
  have n3 := pb.n3
  have kl : ks.length = pts.length := by rw [dpa_len ak, List.length_map]
  have hd := t.den_nz
  -- the held time: t less a whole multiple of the length, its floor that of t around
  obtain ⟨z, hz, hden, h0, hfl⟩ : ∃ z : Int, heldQ cyc sgs.length t = t - (z : Rat) ∧ (t - (z : Rat)).den = t.den ∧ 0 ≤ flI t - z ∧ (flI t - z = (((flI t) % (if cyc = true then (sgs.length : Int) else (pts.length : Int)) : Int)) ∧ (t.den ≠ 1 → Inn cyc sgs.length (flI t))) := by
    rcases wi with ⟨rfl, hm⟩ | ⟨rfl, h0, h1⟩
    · obtain ⟨z, e1, e2⟩ := held_cyc t hm
      exact ⟨z, e1, (shiftQ t z).2, by rw [e2]; exact Int.emod_nonneg _ (by omega), e2, fun _ => ⟨hm, .inl rfl⟩⟩
    · have g0 : 0 ≤ flI t := Int.ediv_nonneg h0 (by omega)
      have g1 : flI t ≤ (sgs.length : Int) := by
        have := fl_le h0 h1
        have e := flN g0
        omega
      rw [if_neg Bool.false_ne_true] at n3
      refine ⟨0, ?_, ?_, by omega, ?_, fun hne => ?_⟩
      · rw [held_open h0 h1, show ((0 : Int) : Rat) = 0 from rfl]
        grind
      · rw [show ((0 : Int) : Rat) = 0 from rfl, show t - 0 = t by grind]
      · rw [if_neg Bool.false_ne_true, Int.emod_eq_of_lt g0 (by omega)]
        omega
      · have g2 := fl_lt h0 (not_whole h1 hne)
        have e := flN g0
        exact ⟨by omega, .inr ⟨g0, by omega⟩⟩
  have hf2 := shift_fl t z
  have hfN : ((fl (t - (z : Rat)) : Nat) : Int) = flI t - z := by
    rw [flN (by rw [hf2]; exact h0), hf2]
  rw [hz]
  unfold onQ
  by_cases hd1 : t.den = 1
  · rw [if_pos hd1]
    left
    refine ⟨by rw [hden]; exact hd1, ?_⟩
    obtain ⟨w, hw, dw, _⟩ := at_pt ak n1 (flI t)
    refine ⟨w, ?_, dw⟩
    rw [← hw]
    congr 1
    have : (if cyc = true then (sgs.length : Int) else (pts.length : Int)) = (pts.length : Int) := by
      split
      · rename_i h
        rw [if_pos h] at n3
        omega
      · rfl
    rw [this] at hfl
    omega
  · rw [if_neg hd1]
    right
    have inn := hfl.2 hd1
    obtain ⟨i1, i2, i3⟩ := inn.at_ n3
    obtain ⟨wa, hwa, dwa, ma⟩ := at_pt ak n1 (flI t)
    obtain ⟨wb, hwb, dwb, mb⟩ := at_pt ak n1 (flI t + 1)
    obtain ⟨sg, hsg, dsg, ms⟩ := at_sg ag inn.1 (flI t)
    have hN : fl (t - (z : Rat)) = ((flI t) % (sgs.length : Int)).toNat := by
      have e : (if cyc = true then (sgs.length : Int) else (pts.length : Int)) = (sgs.length : Int) ∨ (0 ≤ flI t ∧ flI t < (sgs.length : Int) ∧ cyc = false) := by
        rcases inn.2 with h | h
        · exact .inl (if_pos h)
        · cases cyc with
          | true => exact .inl rfl
          | false => exact .inr ⟨h.1, h.2, rfl⟩
      rcases e with e | ⟨e1, e2, e3⟩
      · rw [e] at hfl
        omega
      · rw [e3, if_neg Bool.false_ne_true, Int.emod_eq_of_lt e1 (by rw [e3, if_neg Bool.false_ne_true] at n3; omega)] at hfl
        rw [Int.emod_eq_of_lt e1 e2]
        omega
    refine ⟨by rw [hden]; exact hd1, wa, sg, wb, by rw [hN, ← i1]; exact hwa, by rw [hN]; exact hsg, by rw [hN, kl, i2]; exact hwb, ?_⟩
    have ef : t - (z : Rat) - ((fl (t - (z : Rat)) : Nat) : Rat) = t - ((flI t : Int) : Rat) := by
      have e : ((fl (t - (z : Rat)) : Nat) : Rat) = ((flI t - z : Int) : Rat) := by
        rw [← hfN]
        rfl
      rw [e, Rat.intCast_sub]
      grind
    rw [ef]
    exact sgPt dwa dsg dwb (pb.pb _ ma) (pb.sb _ ms) (pb.pb _ mb)
theorem ptAt15 {v w : V} {pts : List PQ} {sgs : List (Option (PQ × PQ))} {cyc : Bool} {t : Rat} {Q : VK} {E : XK} (dP : Dp K H v (pathQ pts sgs cyc)) (pb : PathB pts sgs cyc 5) (dt : Dp K H w (qD t)) (bt : Tm t) (wi : Wi cyc sgs.length t) (q : RetD K H (ptQ (onQ pts sgs t)) Q) : sp_point_at K [v, w] H Q E := by
  obtain ⟨ks, ss, P, ak, ag, kl, sl⟩ := pathOk_of dP pb
  have O := pointOk_of ak ag pb wi
  rw [← sl] at O
  exact ⟨v, w, ks, ss, cyc, t, _, _, rfl, P, dt, bt.b, O, q⟩
end
/-! ### the pieces -/
/-- the part of the segment from n that lies between two times -/
def e0Q (n : Int) (s : Rat) : Rat := if (n : Rat) < s then s - (n : Rat) else 0
def e1Q (n : Int) (e : Rat) : Rat := if e < ((n + 1 : Int) : Rat) then e - (n : Rat) else 1
def pieceQ (pts : List PQ) (sgs : List (Option (PQ × PQ))) (s e : Rat) (n : Int) : Option (PQ × PQ) := pcS (ptA pts n) (sgA sgs n) (ptA pts (n + 1)) (e0Q n s) (e1Q n e)
theorem tm_zb {t : Rat} (h : Tm t) : Zb t 60 18000 := zb_of h (fun d h1 h0 => by
  rcases (by omega : d = 1 ∨ d = 2 ∨ d = 3 ∨ d = 4 ∨ d = 5) with rfl | rfl | rfl | rfl | rfl <;> decide) (by decide)
theorem tm_sub {t : Rat} (h : Tm t) (n : Int) : Zb (t - (n : Rat)) 60 (18000 + n.natAbs * 60) := zb_sub (tm_zb h) (zb_int n 60)
theorem bq_z {a : PQ} (h : Bq a) : Zp2 a 60 3000 := ⟨z60 h.1, z60 h.2⟩
theorem bs_z {s : Option (PQ × PQ)} (h : Bs s) : Zs2 s 60 3000 := by
  match s, h with
  | none, _ => trivial
  | some (c, d), h => exact ⟨bq_z h.1, bq_z h.2⟩
/-- the quotient of two fractions of a segment -/
theorem quo_zb {s e : Rat} {n : Int} (hs : Tm s) (he : Tm e) (h0 : (n : Rat) < s) (h1 : s < e) (h2 : e < ((n + 1 : Int) : Rat)) : Zb ((s - (n : Rat)) / (e - (n : Rat))) 720 720 ∧ 0 ≤ (s - (n : Rat)) / (e - (n : Rat)) ∧ (s - (n : Rat)) / (e - (n : Rat)) ≤ 1 := by
  obtain ⟨a1, a2⟩ := shiftQ s n
  obtain ⟨b1, b2⟩ := shiftQ e n
  have c2 : ((n + 1 : Int) : Rat) = (n : Rat) + 1 := by push_cast; rfl
  rw [c2] at h2
  have p0 : 0 < s - (n : Rat) := by grind
  have p1 : s - (n : Rat) < e - (n : Rat) := by grind
  have p2 : e - (n : Rat) < 1 := by grind
  have d1 : (s - (n : Rat)).den ≤ 5 := by rw [a2]; exact hs.2
  have d2 : (e - (n : Rat)).den ≤ 5 := by rw [b2]; exact he.2
  generalize s - (n : Rat) = x at *
  generalize e - (n : Rat) = y at *
  have y0 : 0 < y := by grind
  have f0 : 0 ≤ x / y := Rat.le_of_lt ((Rat.lt_div_iff y0).mpr (by rw [Rat.zero_mul]; exact p0))
  have f1 : x / y ≤ 1 := Rat.le_of_lt ((Rat.div_lt_iff y0).mpr (by rw [Rat.one_mul]; exact p1))
  have np : ∀ {r : Rat}, 0 < r → 0 < r.num := fun {r} h => by
    have := (Rat.lt_iff 0 r).mp h
    simpa using this
  refine ⟨?_, f0, f1⟩
  have hx := x.den_nz
  have hy := y.den_nz
  have yn0 : 0 < y.num := np y0
  have yn1 : y.num < (y.den : Int) := by
    have := (Rat.lt_iff _ _).mp p2
    simpa using this
  have ex : x / y = Rat.divInt (x.num * (y.den : Int)) ((x.den : Int) * y.num) := by
    rw [Rat.div_def, Rat.inv_def, show x * Rat.divInt (y.den : Int) y.num = Rat.divInt x.num x.den * Rat.divInt (y.den : Int) y.num by rw [Rat.num_divInt_den], Rat.divInt_mul_divInt]
  have hz : Zb (x / y) 720 (720 * 1000000) := by
    rw [ex]
    obtain ⟨c, hc⟩ : ∃ c : Nat, (720 : Int) = ((x.den : Int) * y.num) * (c : Int) := by
      have k1 : 1 ≤ y.num := by omega
      have k2 : y.num ≤ 4 := by omega
      rcases (by omega : x.den = 1 ∨ x.den = 2 ∨ x.den = 3 ∨ x.den = 4 ∨ x.den = 5) with h | h | h | h | h <;>
      rcases (by omega : y.num = 1 ∨ y.num = 2 ∨ y.num = 3 ∨ y.num = 4) with g | g | g | g <;> rw [h, g]
      · exact ⟨720, by decide⟩
      · exact ⟨360, by decide⟩
      · exact ⟨240, by decide⟩
      · exact ⟨180, by decide⟩
      · exact ⟨360, by decide⟩
      · exact ⟨180, by decide⟩
      · exact ⟨120, by decide⟩
      · exact ⟨90, by decide⟩
      · exact ⟨240, by decide⟩
      · exact ⟨120, by decide⟩
      · exact ⟨80, by decide⟩
      · exact ⟨60, by decide⟩
      · exact ⟨180, by decide⟩
      · exact ⟨90, by decide⟩
      · exact ⟨60, by decide⟩
      · exact ⟨45, by decide⟩
      · exact ⟨144, by decide⟩
      · exact ⟨72, by decide⟩
      · exact ⟨48, by decide⟩
      · exact ⟨36, by decide⟩
    have xn0 : 0 < x.num := np p0
    have xl : x.num < (x.den : Int) := by
      have := (Rat.lt_iff x 1).mp (by grind)
      simpa using this
    refine zb_divInt (c := c) (Int.mul_ne_zero (by omega) (by omega)) hc ?_
    have c720 : c ≤ 720 := by
      have h3 : 1 ≤ (x.den : Int) * y.num := Int.mul_pos (by omega) yn0
      have h4 : 1 * (c : Int) ≤ ((x.den : Int) * y.num) * (c : Int) := Int.mul_le_mul_of_nonneg_right h3 (by omega)
      omega
    have m1 : (x.num * (y.den : Int)).natAbs ≤ 5 * 5 := by
      rw [Int.natAbs_mul]
      exact Nat.mul_le_mul (by omega) (by omega)
    exact Nat.le_trans (Nat.mul_le_mul m1 c720) (by decide)
  exact zb_unit hz f0 f1
def sp_piece (K : PySem.W.Frag) : Sp := fun vs H Q _ => ∃ (v w u : V) (pts : List PQ) (sgs : List (Option (PQ × PQ))) (cyc : Bool) (n : Int) (s e : Rat), vs = [v, .int n, w, u] ∧ Dp K H v (pathQ pts sgs cyc) ∧ PathB pts sgs cyc 5 ∧ Inn cyc sgs.length n ∧ n.natAbs ≤ 400 ∧ Dp K H w (qD s) ∧ Dp K H u (qD e) ∧ Tm s ∧ Tm e ∧ s < e ∧ s < ((n + 1 : Int) : Rat) ∧ (n : Rat) < e ∧ RetD K H (sgQ (pieceQ pts sgs s e n)) Q
theorem bg_int {n : Int} (h : n.natAbs ≤ 1000) : Bg (n : Rat) := ⟨by rw [Rat.num_intCast]; exact Nat.lt_of_le_of_lt h (by decide), by rw [Rat.den_intCast]; decide⟩
theorem Tm.bg {t : Rat} (h : Tm t) : Bg t := ⟨Nat.lt_of_le_of_lt h.1 (by decide), Nat.lt_of_le_of_lt h.2 (by decide)⟩
theorem bg_zb {r : Rat} {N M : Nat} (h : Zb r N M) (h0 : N ≠ 0) (h1 : N ≤ 1000000000000) (h2 : M ≤ 1000000000000) : Bg r := ⟨Nat.lt_of_le_of_lt (h.bd h0).1 (Nat.lt_of_le_of_lt h2 (by decide)), Nat.lt_of_le_of_lt (h.bd h0).2 (Nat.lt_of_le_of_lt h1 (by decide))⟩
theorem cmp_ltb (a b : Rat) : decide (cmpQ a b < 0) = decide (a < b) := decide_eq_decide.mpr cmp_neg
theorem cmp_gtb (a b : Rat) : decide (0 < cmpQ a b) = decide (b < a) := decide_eq_decide.mpr cmp_pos
theorem n1_r (n : Int) : ((n + 1 : Int) : Rat) = (n : Rat) + 1 := by push_cast; rfl
theorem cut60 {t : Rat} {n : Int} (b : Tm t) (h0 : (n : Rat) ≤ t) (h1 : t ≤ ((n + 1 : Int) : Rat)) : CutB (t - (n : Rat)) 60 3000 60 := by
  rw [n1_r] at h1
  have f0 : 0 ≤ t - (n : Rat) := by grind
  have f1 : t - (n : Rat) ≤ 1 := by grind
  exact ⟨zb_unit (tm_sub b n) f0 f1, f0, f1, by decide, by decide, by decide, by decide⟩
theorem divq5 {K : PySem.W.Frag} {A : Nat → Addr} {H : Hp} {v w : V} {a b : Rat} {Q : VK} {E : XK} (ha : Dp K H v (qD a)) (hb : Dp K H w (qD b)) (ga : Bg a) (gb : Bg b) (h0 : b ≠ 0) (hf : fitsQ (a / b)) (q : RetD K H (qD (a / b)) Q) : sp_divide K A [v, w] H Q E :=
  ⟨v, w, a, b, rfl, ha, hb, ga, gb, fun z => absurd z h0, fun _ => ⟨fun n => absurd hf n, fun _ => q⟩⟩
/-- the second cut -/
theorem cut720 {s e : Rat} {n : Int} (bs : Tm s) (be : Tm e) (h0 : (n : Rat) < s) (h1 : s < e) (h2 : s < ((n + 1 : Int) : Rat)) (hne : (n : Rat) < e) :
    CutB ((s - (n : Rat)) / e1Q n e) 12960000 648000000 720 ∧ e1Q n e ≠ 0 ∧ (s - (n : Rat)) / e1Q n e * e1Q n e = s - (n : Rat) ∧ Bg (e1Q n e) := by
  unfold e1Q
  split
  · rename_i c
    obtain ⟨z, f0, f1⟩ := quo_zb bs be h0 h1 c
    have hz : e - (n : Rat) ≠ 0 := by grind
    refine ⟨⟨z, f0, f1, by decide, by decide, by decide, by decide⟩, hz, Rat.div_mul_cancel hz, ?_⟩
    obtain ⟨b1, b2⟩ := shiftQ e n
    rw [n1_r] at c
    have f2 : e - (n : Rat) ≤ 1 := by grind
    have f3 : 0 ≤ e - (n : Rat) := by grind
    exact bg_zb (zb_unit (tm_sub be n) f3 f2) (by decide) (by decide) (by decide)
  · rw [n1_r] at h2
    have f0 : 0 ≤ s - (n : Rat) := by grind
    have f1 : s - (n : Rat) ≤ 1 := by grind
    have e1 : (s - (n : Rat)) / 1 = s - (n : Rat) := by grind
    rw [e1]
    exact ⟨⟨zb_up 12 (zb_unit (tm_sub bs n) f0 f1), f0, f1, by decide, by decide, by decide, by decide⟩, by decide, by grind, ⟨by decide, by decide⟩⟩
section
theorem ok_piece {P : Program} {w : World} {K : PySem.W.Frag} {mg : Str → Option Value} {base : Heap} {A : Nat → Addr} {D : Nat → FuncData} (T : Txt K mg A D base) : FnOk P w K mg base (L2.CX P w) 6 (A 25) (D 25) ["path", "n", "start", "end"] (sp_piece K) := by
  refine T.F_piece.okX sc_piece (fun vs H Q E h => ?_) (fun cdv A' outer s H vs Q E hr h => ?_)
  · obtain ⟨v, w, u, pts, sgs, cyc, n, s0, e, rfl, _⟩ := h
    rfl
  obtain ⟨v, w, u, pts, sgs, cyc, n, s0, e, rfl, dP, pb, inn, nb, ds, de, bs, be, hse, hs1, hne, q⟩ := h
  refine ⟨_, (pss_cons (ps_asg (pe_call (ok_segment_at T) (hr.mono (by decide)) (by rfl) T.m_segment_at T.F_segment_at.kp T.b_segment_at .nil (passes_call (takes_of rfl rfl rfl rfl) (fun _ _ _ _ h => h)) (pa_cons (pv 0) (pa_cons (pv 1) pa_nil))) (pg_tup (by rfl) (pgs_cons (pg_name (i := 4) sc_piece.nd rfl (.inl rfl)) (pgs_cons (pg_name (i := 5) sc_piece.nd rfl (.inl rfl)) (pgs_cons (pg_name (i := 6) sc_piece.nd rfl (.inl rfl)) pgs_nil)))))
  (pss_cons (ps_set (i := 7) sc_piece.nd rfl (.inl rfl) (Z.pe_globR T.c_ONE))
  (Evl.pss_cut (ps_if (pt_cmpR op_lt (pe_call (ok_compare T) (hr.mono (by decide)) (by rfl) T.m_compare T.F_compare.kp T.b_compare .nil (passes_call (takes_of rfl rfl rfl rfl) (fun _ _ _ _ h => h)) (pa_cons (pv 3) (pa_cons (pe_tup (pa_cons (pe_op op_add (pv 1) pe_int) (pa_cons pe_int pa_nil))) pa_nil))) pe_int (nomark _))
  (pss_cons (ps_set (i := 7) sc_piece.nd rfl (.inl rfl) (pe_call (ok_subtract T) (hr.mono (by decide)) (by rfl) T.m_subtract T.F_subtract.kp T.b_subtract .nil (passes_call (takes_of rfl rfl rfl rfl) (fun _ _ _ _ h => h)) (pa_cons (pv 3) (pa_cons (pe_tup (pa_cons (pv 1) (pa_cons pe_int pa_nil))) pa_nil))))
  (pss_one (ps_asg (pe_call (ok_cut_segment T) (hr.mono (by decide)) (by rfl) T.m_cut_segment T.F_cut_segment.kp T.b_cut_segment .nil (passes_call (takes_of rfl rfl rfl rfl) (fun _ _ _ _ h => h)) (pa_cons (pv 4) (pa_cons (pv 5) (pa_cons (pv 6) (pa_cons (pv 7) pa_nil))))) (pg_tup (by rfl) (pgs_cons (pg_name (i := 5) sc_piece.nd rfl (.inl rfl)) (pgs_cons (pg_name (i := 6) sc_piece.nd rfl (.inl rfl)) (pgs_cons (pg_name (i := 8) sc_piece.nd rfl (.inl rfl)) pgs_nil)))))))
  pss_nil)
  (Evl.pss_cut (ps_if (pt_cmpR op_gt (pe_call (ok_compare T) (hr.mono (by decide)) (by rfl) T.m_compare T.F_compare.kp T.b_compare .nil (passes_call (takes_of rfl rfl rfl rfl) (fun _ _ _ _ h => h)) (pa_cons (pv 2) (pa_cons (pe_tup (pa_cons (pv 1) (pa_cons pe_int pa_nil))) pa_nil))) pe_int (nomark _))
  (pss_cons (ps_set (i := 9) sc_piece.nd rfl (.inl rfl) (pe_call (ok_subtract T) (hr.mono (by decide)) (by rfl) T.m_subtract T.F_subtract.kp T.b_subtract .nil (passes_call (takes_of rfl rfl rfl rfl) (fun _ _ _ _ h => h)) (pa_cons (pv 2) (pa_cons (pe_tup (pa_cons (pv 1) (pa_cons pe_int pa_nil))) pa_nil))))
  (pss_one (ps_set (i := 5) sc_piece.nd rfl (.inl rfl) (pe_ix ix_tup (pe_call (ok_cut_segment T) (hr.mono (by decide)) (by rfl) T.m_cut_segment T.F_cut_segment.kp T.b_cut_segment .nil (passes_call (takes_of rfl rfl rfl rfl) (fun _ _ _ _ h => h)) (pa_cons (pv 4) (pa_cons (pv 5) (pa_cons (pv 6) (pa_cons (pe_call (ok_divide T) (hr.mono (by decide)) (by rfl) T.m_divide T.F_divide.kp T.b_divide .nil (passes_call (takes_of rfl rfl rfl rfl) (fun _ _ _ _ h => h)) (pa_cons (pv 9) (pa_cons (pv 7) pa_nil))) pa_nil))))) pe_int (fun _ _ => rfl)))))
  pss_nil)
  (pss_one (ps_ret (pv 5))))))), ?_⟩
  obtain ⟨ks, ss, P, ak, ag, kl, sl⟩ := pathOk_of dP pb
  obtain ⟨i1, i2, i3⟩ := inn.at_ pb.n3
  have m1 := inn.1
  obtain ⟨wa, hwa, dwa, ma⟩ := at_pt ak pb.n1 n
  obtain ⟨wb, hwb, dwb, mb⟩ := at_pt ak pb.n1 (n + 1)
  obtain ⟨sg, hsg, dsg, ms⟩ := at_sg ag inn.1 n
  have e0 := Int.emod_nonneg n (show (sgs.length : Int) ≠ 0 by omega)
  walk_at "z"
  refine ⟨v, n, (n % (sgs.length : Int)).toNat, ks, ss, cyc, wa, sg, wb, rfl, P, by rw [sl]; omega, by rw [sl]; exact i3, by rw [← i1]; exact hwa, hsg, by rw [kl, i2]; exact hwb, fun p1 H1 s1 h1 => ?_⟩
  walk_at "z"
  have A0 := bq_z (pb.pb _ ma)
  have B0 := bq_z (pb.pb _ mb)
  have S0 := bs_z (pb.sb _ ms)
  have dwa1 := dp_mono s1 dwa
  have dwb1 := dp_mono s1 dwb
  have dsg1 := dp_mono s1 dsg
  have ds1 := dp_mono s1 ds
  have de1 := dp_mono s1 de
  have bn : Bg (n : Rat) := bg_int (by omega)
  have bn1 : Bg ((n + 1 : Int) : Rat) := bg_int (by omega)
  have q : RetD K H1 (sgQ (pcS (ptA pts n) (sgA sgs n) (ptA pts (n + 1)) (e0Q n s0) (e1Q n e))) Q := fun x H' s' d => q x H' (s1.trans s') d
  generalize ptA pts n = a at *
  generalize ptA pts (n + 1) = b at *
  generalize sgA sgs n = sgv at *
  refine z_cut (fun σ' H' => ∃ (sg' b' lt : V) (x8 : Option V), σ' = [some v, some (.int n), some w, some u, some wa, some sg', some b', some lt, x8, none] ∧ Same H1 H' ∧ Dp K H' sg' (sgQ (fstS a sgv b (e1Q n e))) ∧ Dp K H' b' (ptQ (evS a sgv b (e1Q n e))) ∧ Dp K H' lt (qD (e1Q n e))) ?_ ?_
  · walk_at "z"
    intro p2 H2 f2 s2 h2
    have d2 : Dp K H2 (.ref p2) (qD ((n + 1 : Int) : Rat)) := by rw [q_int]; exact dpT2 h2
    walk_at "z"
    refine ⟨_, _, e, _, rfl, dp_mono s2 de1, d2, be.bg, bn1, ?_⟩
    walk_at "z"
    rw [cmp_ltb]
    unfold e1Q
    by_cases c : e < ((n + 1 : Int) : Rat)
    · refine z_ifYes (decide_eq_true c) ?_
      rw [if_pos c]
      walk_at "z"
      intro p3 H3 f3 s3 h3
      have d3 : Dp K H3 (.ref p3) (qD (n : Rat)) := by rw [q_int]; exact dpT2 h3
      have s23 := s2.trans s3
      walk_at "z"
      refine opq (dp_mono s23 de1) d3 be.bg bn (zfits (tm_sub be n) (by decide) (by omega) (by decide)) fun lt H4 s4 d4 => ?_
      have s24 := s23.trans s4
      walk_at "z"
      refine cutPQ (dp_mono s24 dwa1) (dp_mono s24 dsg1) (dp_mono s24 dwb1) d4 A0 B0 S0 (cut60 be (Rat.le_of_lt hne) (Rat.le_of_lt c)) fun r H5 s5 d5 => ?_
      obtain ⟨pr, r1, r2, r3, rfl, hR, g1, g2, g3⟩ := dp_t3 d5
      walk_at "z"
      exact ⟨r1, r2, lt, _, rfl, s24.trans s5, g1, g2, dp_mono s5 d4⟩
    · refine z_ifNo (decide_eq_false c) ?_
      rw [if_neg c, fstS_1, evS_1]
      walk_at "z"
      exact ⟨sg, wb, _, _, rfl, s2, dp_mono s2 dsg1, dp_mono s2 dwb1, T.d_ONE _⟩
  rintro σ' H2 ⟨sg', b', lt, x8, rfl, s2, g1, g2, g3⟩
  have dwa2 := dp_mono s2 dwa1
  have ds2 := dp_mono s2 ds1
  have q2 : RetD K H2 (sgQ (pcS a sgv b (e0Q n s0) (e1Q n e))) Q := fun x H' s' d => q x H' (s2.trans s') d
  obtain ⟨z1, z2⟩ : Zs2 (fstS a sgv b (e1Q n e)) 12960000 648000000 ∧ Zp2 (evS a sgv b (e1Q n e)) 12960000 648000000 := by
    unfold e1Q
    split
    · rename_i c
      have cb := cut60 be (Rat.le_of_lt hne) (Rat.le_of_lt c)
      exact cut_zb A0 B0 S0 cb.zf cb.f0 cb.f1 cb.hL
    · rw [fstS_1, evS_1]
      exact ⟨Zs2.up 216000 S0, Zp2.up 216000 B0⟩
  have z0 : Zp2 a 12960000 648000000 := Zp2.up 216000 A0
  clear q
  refine z_cut (fun σ' H' => ∃ (sg' : V) (x6 x7 x8 x9 : Option V), σ' = [some v, some (.int n), some w, some u, some wa, some sg', x6, x7, x8, x9] ∧ Same H2 H' ∧ Dp K H' sg' (sgQ (pcS a sgv b (e0Q n s0) (e1Q n e)))) ?_ ?_
  · walk_at "z"
    intro p3 H3 f3 s3 h3
    have d3 : Dp K H3 (.ref p3) (qD (n : Rat)) := by rw [q_int]; exact dpT2 h3
    walk_at "z"
    refine ⟨_, _, s0, _, rfl, dp_mono s3 ds2, d3, bs.bg, bn, ?_⟩
    walk_at "z"
    rw [cmp_gtb]
    unfold e0Q
    by_cases c : (n : Rat) < s0
    · refine z_ifYes (decide_eq_true c) ?_
      rw [if_pos c]
      obtain ⟨cb, hz, he, bg1⟩ := cut720 bs be c hse hs1 hne
      walk_at "z"
      intro p4 H4 f4 s4 h4
      have d4 : Dp K H4 (.ref p4) (qD (n : Rat)) := by rw [q_int]; exact dpT2 h4
      have s34 := s3.trans s4
      walk_at "z"
      refine opq (dp_mono s34 ds2) d4 bs.bg bn (zfits (tm_sub bs n) (by decide) (by omega) (by decide)) fun er H5 s5 d5 => ?_
      have s35 := s34.trans s5
      walk_at "z"
      refine divq5 d5 (dp_mono s35 g3) (bg_zb (tm_sub bs n) (by decide) (by decide) (by omega)) bg1 hz (zfits cb.zf (by decide) (by decide) (by decide)) fun fr H6 s6 d6 => ?_
      have s36 := s35.trans s6
      walk_at "z"
      refine cutPQ (dp_mono s36 dwa2) (dp_mono s36 g1) (dp_mono s36 g2) d6 z0 z2 z1 cb fun r H7 s7 d7 => ?_
      obtain ⟨pr, r1, r2, r3, rfl, hR, k1, k2, k3⟩ := dp_t3 d7
      rw [pcS_f, he] at k3
      walk_at "z"
      exact ⟨r3, _, _, _, _, rfl, s36.trans s7, k3⟩
    · refine z_ifNo (decide_eq_false c) ?_
      rw [if_neg c, pcS_0]
      walk_at "z"
      exact ⟨sg', _, _, _, _, rfl, s3, dp_mono s3 g1⟩
  rintro σ' H3 ⟨sg2, x6, x7, x8', x9, rfl, s3, k⟩
  walk_at "z"
  exact q2 _ H3 s3 k
end
/-- the ceiling -/
def clI (t : Rat) : Int := -((-t.num) / (t.den : Int))
theorem le_int {n : Int} {t : Rat} : (n : Rat) ≤ t ↔ n * (t.den : Int) ≤ t.num := by
  rw [Rat.le_iff, Rat.num_intCast, Rat.den_intCast]
  simp
theorem int_le {n : Int} {t : Rat} : t ≤ (n : Rat) ↔ t.num ≤ n * (t.den : Int) := by
  rw [Rat.le_iff, Rat.num_intCast, Rat.den_intCast]
  simp
theorem lt_int {n : Int} {t : Rat} : (n : Rat) < t ↔ n * (t.den : Int) < t.num := by
  rw [Rat.lt_iff, Rat.num_intCast, Rat.den_intCast]
  simp
theorem int_lt {n : Int} {t : Rat} : t < (n : Rat) ↔ t.num < n * (t.den : Int) := by
  rw [Rat.lt_iff, Rat.num_intCast, Rat.den_intCast]
  simp
theorem fl_iff {n : Int} {t : Rat} : n ≤ flI t ↔ (n : Rat) ≤ t := by
  have hd := t.den_nz
  rw [le_int]
  exact Int.le_ediv_iff_mul_le (by omega)
theorem fl_iff' {n : Int} {t : Rat} : flI t < n ↔ t < (n : Rat) := by
  have h := fl_iff (n := n) (t := t)
  rw [int_lt]
  rw [le_int] at h
  omega
theorem cl_iff {n : Int} {t : Rat} : clI t ≤ n ↔ t ≤ (n : Rat) := by
  have hd := t.den_nz
  rw [int_le]
  have h := Int.le_ediv_iff_mul_le (a := -n) (b := -t.num) (c := (t.den : Int)) (by omega)
  rw [Int.neg_mul] at h
  unfold clI
  omega
theorem cl_iff' {n : Int} {t : Rat} : n < clI t ↔ (n : Rat) < t := by
  have h := cl_iff (n := n) (t := t)
  rw [lt_int]
  rw [int_le] at h
  omega
theorem Tm.fl {t : Rat} (h : Tm t) : -300 ≤ flI t ∧ flI t ≤ 300 ∧ -300 ≤ clI t ∧ clI t ≤ 300 := by
  have hd := t.den_nz
  have b1 := h.1
  have d0 : (1 : Int) ≤ (t.den : Int) := by omega
  have k1 : -300 * (t.den : Int) ≤ t.num := by omega
  have k2 : t.num ≤ 300 * (t.den : Int) := by omega
  refine ⟨fl_iff.mpr (le_int.mpr k1), ?_, ?_, cl_iff.mpr (int_le.mpr k2)⟩
  · have : flI t < 301 := fl_iff'.mpr (int_lt.mpr (by omega))
    omega
  · have : -301 < clI t := cl_iff'.mpr (lt_int.mpr (by omega))
    omega
def sp_ceiling_of (K : PySem.W.Frag) : Sp := fun vs H Q _ => ∃ (v : V) (r : Rat), vs = [v] ∧ Dp K H v (qD r) ∧ Tm r ∧ Q (.int (clI r)) H
def sp_check_knots (K : PySem.W.Frag) (A : Nat → Addr) : Sp := fun vs H Q E => ∃ n : Int, vs = [.int n] ∧ (24 < n → E (.ref (A 3)) none H) ∧ (n ≤ 24 → Q .non H)
def midQ (pts : List PQ) (s : Rat) (k : Nat) : List PQ := (List.range k).map fun (i : Nat) => ptA pts (flI s + 1 + (i : Int))
def cntQ (s e : Rat) : Nat := (clI e - flI s).toNat
def ptsP (pts : List PQ) (sgs : List (Option (PQ × PQ))) (s e : Rat) : List PQ := if s = e then [onQ pts sgs s] else [onQ pts sgs s] ++ midQ pts s (cntQ s e - 1) ++ [onQ pts sgs e]
def sgsP (pts : List PQ) (sgs : List (Option (PQ × PQ))) (s e : Rat) : List (Option (PQ × PQ)) := if s = e then [] else (List.range (cntQ s e)).map fun (i : Nat) => pieceQ pts sgs s e (flI s + (i : Int))
def sp_part_of (K : PySem.W.Frag) (A : Nat → Addr) (P : Addr) : Sp := fun vs H Q E => ∃ (v w u : V) (pts : List PQ) (sgs : List (Option (PQ × PQ))) (cyc : Bool) (s e : Rat), vs = [v, w, u] ∧ Dp K H v (pathQ pts sgs cyc) ∧ PathB pts sgs cyc 5 ∧ Dp K H w (qD s) ∧ Dp K H u (qD e) ∧ Tm s ∧ Tm e ∧ Wi cyc sgs.length s ∧ Wi cyc sgs.length e ∧ s ≤ e ∧ GxR.TabG H P ∧
  (s ≠ e → 24 < cntQ s e + 1 → ∀ H', E (.ref (A 3)) none H') ∧
  ((s = e ∨ cntQ s e + 1 ≤ 24) → ∀ v' H', Tg.SameX H H' → Dp K H' v' (pathQ (ptsP pts sgs s e) (sgsP pts sgs s e) false) → Q v' H')
theorem z_iRng2 {ta : TA} {σ : L2.St} {H : Hp} {R : It → Hp → Prop} {i j : Int} (ha : ∀ S : List V → Hp → Prop, S [.int i, .int j] H → ta σ H S) (hb : -(2 ^ 62) ≤ i ∧ i < 2 ^ 62 ∧ -(2 ^ 62) ≤ j ∧ j < 2 ^ 62) (q : R (Itr i (j - i).toNat) H) : iRng2 ta σ H R := ha _ ⟨i, j, rfl, hb, q⟩
theorem tup_pqs' (l : List PQ) : tupOnlyA (l.map ptQ) = true := tup_pqs l
section
theorem ok_ceiling_of {P : Program} {w : World} {K : PySem.W.Frag} {mg : Str → Option Value} {base : Heap} {A : Nat → Addr} {D : Nat → FuncData} (T : Txt K mg A D base) : FnOk P w K mg base (L2.CX P w) 1 (A 24) (D 24) ["a"] (sp_ceiling_of K) := by
  refine T.F_ceiling_of.okX sc_ceiling_of (fun vs H Q E h => ?_) (fun cdv A' outer s H vs Q E hr h => ?_)
  · obtain ⟨v, r, rfl, _⟩ := h
    rfl
  obtain ⟨v, r, rfl, h, b, q⟩ := h
  refine ⟨_, (pss_one (ps_ret (pe_un un_neg (pe_op op_fdivW (pe_un un_neg (pe_ix ix_tup (pv 0) pe_int (fun _ _ => rfl))) (pe_ix ix_tup (pv 0) pe_int (fun _ _ => rfl)))))), ?_⟩
  obtain ⟨p, rfl, hp⟩ := dp_q h
  have hz := r.den_nz
  have b1 := b.1
  have b2 := b.2
  walk_at "z"
  refine z_I (wide_div (b := 200) (by omega) (by omega) (by decide) (by decide)) ?_
  walk_at "z"
  exact q
theorem ok_check_knots {P : Program} {w : World} {K : PySem.W.Frag} {mg : Str → Option Value} {base : Heap} {A : Nat → Addr} {D : Nat → FuncData} (T : Txt K mg A D base) : FnOk P w K mg base (L2.CX P w) 1 (A 11) (D 11) ["count"] (sp_check_knots K A) := by
  refine T.F_check_knots.okX sc_check_knots (fun vs H Q E h => ?_) (fun cdv A' outer s H vs Q E hr h => ?_)
  · obtain ⟨n, rfl, _⟩ := h
    rfl
  obtain ⟨n, rfl, q1, q2⟩ := h
  refine ⟨_, (pss_one (ps_if (pt_cmpR op_gt (pv 0) (Z.pe_globE T.c_MOST_KNOTS) (nomark _))
  (pss_one (ps_raise rfl (takes_of rfl rfl rfl rfl) (Tg.pmkF T.x_TooMany (by rfl) (Z.pe_globE T.c_MOST_KNOTS) (by decide +kernel))))
  pss_nil)), ?_⟩
  walk_at "z"
  refine z_if (fun c => ?_) (fun c => ?_)
  · walk_at "z"
    exact q1 (by omega)
  · walk_at "z"
    exact q2 (by omega)
theorem ok_part_of {P : Program} {w : World} {K : PySem.W.Frag} {mg : Str → Option Value} {base : Heap} {A : Nat → Addr} {D : Nat → FuncData} (T : Txt K mg A D base) : FnOk P w K mg base (L2.CX P w) 8 (A 23) (D 23) ["path", "start", "end"] (sp_part_of K A (A 48)) := by
  refine T.F_part_of.okC T.k_part_of sc_part_of (fun vs H Q E h => ?_) (fun A' outer s H vs Q E hr h => ?_)
  · obtain ⟨v, w, u, pts, sgs, cyc, s0, e, rfl, _⟩ := h
    rfl
  obtain ⟨v, w, u, pts, sgs, cyc, s0, e, rfl, dP, pb, ds, de, bs, be, ws, we, hse, tG, q1, q2⟩ := h
  refine ⟨_, (pss_cons (ps_if (pt_cmpR (op_eqD hr.units) (pv 1) (pv 2) (nomark _))
  (pss_one (ps_ret (pe_tup (pa_cons (pe_tup (pa_cons (pe_call (ok_point_at T) (hr.mono (by decide)) (by rfl) T.m_point_at T.F_point_at.kp T.b_point_at .nil (passes_call (takes_of rfl rfl rfl rfl) (fun _ _ _ _ h => h)) (pa_cons (pv 0) (pa_cons (pv 1) pa_nil))) pa_nil)) (pa_cons (pe_tup pa_nil) (pa_cons pe_bl pa_nil))))))
  pss_nil)
  (pss_cons (ps_set (i := 3) sc_part_of.nd rfl (.inl rfl) (pe_call (ok_floor_of T) (hr.mono (by decide)) (by rfl) T.m_floor_of T.F_floor_of.kp T.b_floor_of .nil (passes_call (takes_of rfl rfl rfl rfl) (fun _ _ _ _ h => h)) (pa_cons (pv 1) pa_nil)))
  (pss_cons (ps_set (i := 4) sc_part_of.nd rfl (.inl rfl) (pe_call (ok_ceiling_of T) (hr.mono (by decide)) (by rfl) T.m_ceiling_of T.F_ceiling_of.kp T.b_ceiling_of .nil (passes_call (takes_of rfl rfl rfl rfl) (fun _ _ _ _ h => h)) (pa_cons (pv 2) pa_nil)))
  (pss_cons (ps_expr (pe_call (ok_check_knots T) (hr.mono (by decide)) (by rfl) T.m_check_knots T.F_check_knots.kp T.b_check_knots .nil (passes_call (takes_of rfl rfl rfl rfl) (fun _ _ _ _ h => h)) (pa_cons (pe_op op_add (pe_op op_sub (pv 4) (pv 3)) pe_int) pa_nil)))
  (pss_cons (ps_set (i := 5) sc_part_of.nd rfl (.inl rfl) (pe_lst (pa_cons (pe_call (ok_point_at T) (hr.mono (by decide)) (by rfl) T.m_point_at T.F_point_at.kp T.b_point_at .nil (passes_call (takes_of rfl rfl rfl rfl) (fun _ _ _ _ h => h)) (pa_cons (pv 0) (pa_cons (pv 1) pa_nil))) pa_nil)))
  (pss_cons (ps_for (passes_of rfl) rfl (pi_range2 (by rfl) T.z_range (pa_cons (pe_op op_add (pv 3) pe_int) (pa_cons (pv 4) pa_nil))) (pg_name (i := 6) sc_part_of.nd rfl (.inl rfl))
  (pss_one (ps_expr (pe_bm PySem.F.plainAttrs_list PySem.F.slot_list_append PySem.F.type_list_append mt_append (pv 5) (pa_cons (pe_ix ix_tup (pe_ix ix_tup (pv 0) pe_int (fun _ _ => rfl)) (pe_op op_mod (pv 6) (pe_callB Z.c_len (by rfl) T.z_len (by decide +kernel) (pa_cons (pe_ix ix_tup (pv 0) pe_int (fun _ _ => rfl)) pa_nil))) (fun _ _ => rfl)) pa_nil)))))
  (pss_cons (ps_expr (pe_bm PySem.F.plainAttrs_list PySem.F.slot_list_append PySem.F.type_list_append mt_append (pv 5) (pa_cons (pe_call (ok_point_at T) (hr.mono (by decide)) (by rfl) T.m_point_at T.F_point_at.kp T.b_point_at .nil (passes_call (takes_of rfl rfl rfl rfl) (fun _ _ _ _ h => h)) (pa_cons (pv 0) (pa_cons (pv 2) pa_nil))) pa_nil)))
  (pss_cons (ps_set (i := 7) sc_part_of.nd rfl (.inl rfl) (Tg.pe_tupG (k := 6) (own := [("n", 6)]) (g := gName 6) hr T.t_part_of rfl sc_part_of.nd (pi_range2 (by rfl) T.z_range (pa_cons (pv 3) (pa_cons (pv 4) pa_nil))) (blkOk_by (N := ["path", "start", "end", "first", "last", "knots", "n", "segments"]) (sc := defScope s_part_of) (by decide +kernel)) (by decide +kernel) rfl rfl (fun A' s H C code cl fp => pg_name (i := 6) sc_part_of.nd rfl (Or.inl rfl)) (fun A' s H C code cl fp hr => (pe_call (ok_piece T) (hr.mono (by decide)) (by rfl) T.m_piece T.F_piece.kp T.b_piece .nil passL (pa_cons (pv 0) (pa_cons (pv 6) (pa_cons (pv 1) (pa_cons (pv 2) pa_nil)))))) (by rfl) T.z_tuple))
  (pss_one (ps_ret (pe_tup (pa_cons (pe_callTy Z.c_tupOf (by rfl) T.z_tuple (by decide +kernel) (pa_cons (pv 5) pa_nil)) (pa_cons (pv 7) (pa_cons pe_bl pa_nil)))))))))))))), ?_⟩
  obtain ⟨ks, ss, P, ak, ag, kl, sl⟩ := pathOk_of dP pb
  obtain ⟨a, k, g, rfl, hA, hK, hG⟩ := P.at_
  walk_at "z"
  refine z_eqQ ds de ?_
  walk_at "z"
  by_cases c : s0 = e
  · refine z_ifYes (decide_eq_true c) ?_
    walk_at "z"
    refine ptAt15 dP pb ds bs ws fun p1 H1 s1 d1 => ?_
    walk_at "z"
    intro p2 H2 f2 s2 h2
    walk_at "z"
    intro p3 H3 f3 s3 h3
    walk_at "z"
    intro p4 H4 f4 s4 h4
    have s24 := (s2.trans s3).trans s4
    refine q2 (.inl c) _ H4 (.of (s1.trans s24)) ?_
    unfold ptsP sgsP
    rw [if_pos c, if_pos c]
    exact dp_mkpath (.inl (.inl h4)) (.inl (.inl ((s3.trans s4) _ _ h2))) (.inl (.inl (s4 _ _ h3))) (.cons (dp_mono s24 d1) .nil) .nil
  refine z_ifNo (decide_eq_false c) ?_
  have hlt : s0 < e := by
    rcases Rat.le_iff_lt_or_eq.mp hse with h | h
    · exact h
    · exact absurd h c
  have fls := bs.fl
  have fle := be.fl
  have hfc : flI s0 < clI e := by
    have h1 : ((flI s0 : Int) : Rat) ≤ s0 := fl_iff.mp (Int.le_refl _)
    exact cl_iff'.mpr (by grind)
  have hcn : ((cntQ s0 e : Nat) : Int) = clI e - flI s0 := by
    unfold cntQ
    omega
  walk_at "z"
  refine ⟨_, s0, rfl, ds, Nat.lt_of_le_of_lt bs.2 (by decide), ?_⟩
  walk_at "z"
  refine ⟨_, e, rfl, de, be, ?_⟩
  walk_at "z"
  refine ⟨_, rfl, fun h => q1 c ?_ _, fun h => ?_⟩
  · have h : (24 : Int) < clI e - flI s0 + 1 := h
    omega
  have hc24 : cntQ s0 e + 1 ≤ 24 := by
    have h : clI e - flI s0 + 1 ≤ (24 : Int) := h
    omega
  have q3 := q2 (.inr hc24)
  clear q1 q2
  walk_at "z"
  refine ptAt15 dP pb ds bs ws fun p1 H1 s1 d1 => ?_
  walk_at "z"
  intro D H2 fD s2 hD
  have n1 := pb.n1
  have n2 := pb.n2
  have lo : (-(2 ^ 61) : Int) ≤ flI s0 + 1 ∧ flI s0 + 1 < 2 ^ 61 := by omega
  have midS : ∀ i, ([onQ pts sgs s0] ++ midQ pts s0 (i + 1)) = ([onQ pts sgs s0] ++ midQ pts s0 i) ++ [ptA pts (flI s0 + 1 + (i : Int))] := fun i => by
    unfold midQ
    rw [List.range_succ, List.map_append, List.append_assoc]
    rfl
  walk_at "z"
  refine z_forR2 (flI s0 + 1) (cntQ s0 e - 1) lo (by omega) (fun R r => by
      walk_at "z"
      rw [show flI s0 + 1 + ((cntQ s0 e - 1 : Nat) : Int) = clI e by omega] at r
      exact r) (fun i σ' H' => Same H1 H' ∧ ∃ (acc : List V) (x6 : Option V), σ' = [some (.ref a), some w, some u, some (.int (flI s0)), some (.int (clI e)), some (.ref D), x6, none] ∧ H' D = some (.lst acc) ∧ acc.length = i + 1 ∧ DpAll K H' acc (([onQ pts sgs s0] ++ midQ pts s0 i).map ptQ))
    ⟨s2, [p1], _, rfl, hD, rfl, .cons (dp_mono s2 d1) .nil⟩ ?_ ?_
  · clear hD s2
    rintro i σ' H4 hi ⟨s4, acc, x6, rfl, h4, l4, a4⟩
    have s14 := s1.trans s4
    have hA4 := seqT s14 hA
    have hK4 := seqT s14 hK
    obtain ⟨pw, hpw, dpw, _⟩ := at_pt ak n1 (flI s0 + 1 + (i : Int))
    have hm0 := Int.emod_nonneg (flI s0 + 1 + (i : Int)) (show (pts.length : Int) ≠ 0 by omega)
    walk_at "z"
    refine z_bmL (fun R q => by walk_at "z"; exact q) h4 ?_
    walk_at "z"
    rw [kl]
    refine z_ixT hK4 (show atI ks ((flI s0 + 1 + (i : Int)) % (pts.length : Int)) = some pw by rw [show (flI s0 + 1 + (i : Int)) % (pts.length : Int) = (((flI s0 + 1 + (i : Int)) % (pts.length : Int)).toNat : Int) by omega]; exact atI_nat hpw) ?_
    walk_at "z"
    refine z_append h4 (by omega) ?_
    walk_at "z"
    refine ⟨fun b o h => ?_, acc ++ [pw], _, rfl, upd_same, by rw [List.length_append, l4]; rfl, ?_⟩
    · rw [upd_ne (ne_of_none h fD)]
      exact s4 _ _ h
    · rw [midS, List.map_append]
      exact dpa_app (dp_kpA kp_at h4 (tup_pqs _) a4) (.cons (dp_kp kp_at h4 rfl (dp_mono s14 dpw)) .nil)
  clear hD s2
  rintro σ' H4 ⟨s4, acc, x6, rfl, h4, l4, a4⟩
  have s14 := s1.trans s4
  walk_at "z"
  refine z_bmL (fun R q => by walk_at "z"; exact q) h4 ?_
  walk_at "z"
  refine ptAt15 (dp_mono s14 dP) pb (dp_mono s14 de) be we fun p5 H5 s5 d5 => ?_
  have h5 := s5 _ _ h4
  walk_at "z"
  refine z_append h5 (by omega) ?_
  have a6 : DpAll K (upd H5 D (.lst (acc ++ [p5]))) (acc ++ [p5]) ((ptsP pts sgs s0 e).map ptQ) := by
    unfold ptsP
    rw [if_neg c, List.map_append]
    exact dpa_app (dp_kpA kp_at h5 (tup_pqs _) (dp_monoA s5 a4)) (.cons (dp_kp kp_at h5 rfl d5) .nil)
  have h6 : (upd H5 D (.lst (acc ++ [p5]))) D = some (.lst (acc ++ [p5])) := upd_same
  have s16 : Same H (upd H5 D (.lst (acc ++ [p5]))) := fun b o h => by
    have h1 := s1 _ _ h
    rw [upd_ne (ne_of_none h1 fD)]
    exact s5 _ _ (s4 _ _ h1)
  generalize upd H5 D (.lst (acc ++ [p5])) = H6 at *
  clear h5 s5 d5 a4 h4 s4 s14
  walk_at "z"
  have S6 : Tg.SameX H H6 := .of s16
  refine Tg.z_tupD (K := K) (G := fun _ => True) ((sgsP pts sgs s0 e).map sgQ) (walk_range (lo := flI s0) (n := cntQ s0 e)) (by unfold sgsP; rw [if_neg c, List.length_map, List.length_map, List.length_range]) (by omega) (fun R r => z_iRng2 (i := flI s0) (j := clI e) (fun S h => by walk_at "z"; exact h) (by omega) r) (S6.tab _ tG) (fun _ _ => trivial)
    (fun i x d H7 H8 R hd hi s7 y hR => ?_) fun acc2 pS H7 s7 hl e7 a7 => ?_
  · obtain ⟨rfl, rfl⟩ := y
    refine ⟨rfl, ?_⟩
    have ed : d = sgQ (pieceQ pts sgs s0 e (flI s0 + (i : Int))) := by
      unfold sgsP at hd
      rw [if_neg c, List.map_map, List.getElem?_map, List.getElem?_range hi] at hd
      cases hd
      rfl
    rw [ed] at hR
    have S7 := S6.trans s7
    walk_at "z"
    refine ⟨_, _, _, pts, sgs, cyc, _, s0, e, rfl, S7.dp dP, pb, ?_, by omega, S7.dp ds, S7.dp de, bs, be, hlt, ?_, cl_iff'.mp (by omega), fun v' H9 s9 d9 => hR v' H9 (.of s9) d9⟩
    · rcases ws with ⟨rfl, hm⟩ | ⟨rfl, w0, w1⟩
      · exact ⟨hm, .inl rfl⟩
      rcases we with ⟨h, _⟩ | ⟨_, e0, e1⟩
      · cases h
      have g0 : 0 ≤ flI s0 := Int.ediv_nonneg w0 (by omega)
      have g1 : clI e ≤ (sgs.length : Int) := cl_iff.mpr (int_le.mpr e1)
      exact ⟨by omega, .inr ⟨by omega, by omega⟩⟩
    · exact fl_iff'.mp (by omega)
  walk_at "z"
  refine z_tupOf (.inl (.inl (s7.lst h6))) fun p8 H8 f8 s8 h8 => ?_
  walk_at "z"
  intro p9 H9 f9 s9 h9
  have s89 := s8.trans s9
  have S79 : Tg.SameX H6 H9 := s7.th s89
  exact q3 _ H9 (S6.trans S79) (dp_mkpath (.inl (.inl h9)) (.inl (.inl (s9 _ _ h8))) (.inl (.inl (s89 _ _ e7))) (S79.dpA a6) (dp_monoA s89 a7))
end
/-- a time held within an open path -/
def hlQ (cyc : Bool) (m : Nat) (t : Rat) : Rat := if cyc = true then t else clampQ m t
def PartR (K : PySem.W.Frag) (A : Nat → Addr) (H : Hp) (Q : VK) (E : XK) (pts : List PQ) (sgs : List (Option (PQ × PQ))) (a b : Rat) (turn : Bool) : Prop :=
  (a ≠ b → 24 < cntQ a b + 1 → ∀ H', E (.ref (A 3)) none H') ∧
  ((a = b ∨ cntQ a b + 1 ≤ 24) → ∀ v' H', Tg.SameX H H' → Dp K H' v' (pathQ (if turn = true then (ptsP pts sgs a b).reverse else ptsP pts sgs a b) (if turn = true then (sgsP pts sgs a b).reverse.map sw else sgsP pts sgs a b) false) → Q v' H')
def sp_subpath0 (K : PySem.W.Frag) (A : Nat → Addr) (P : Addr) : Sp := fun vs H Q E => ∃ (v w u : V) (pts : List PQ) (sgs : List (Option (PQ × PQ))) (cyc : Bool) (s e : Rat), vs = [v, w, u] ∧ Dp K H v (pathQ pts sgs cyc) ∧ PathB pts sgs cyc 5 ∧ Dp K H w (qD s) ∧ Dp K H u (qD e) ∧ Tm s ∧ Tm e ∧ ¬ e < s ∧ GxR.TabG H P ∧
  PartR K A H Q E pts sgs (hlQ cyc sgs.length s) (hlQ cyc sgs.length e) false
def sp_subpath (K : PySem.W.Frag) (A : Nat → Addr) (P P2 : Addr) : Sp := fun vs H Q E => ∃ (v w u : V) (pts : List PQ) (sgs : List (Option (PQ × PQ))) (cyc : Bool) (s e : Rat), vs = [v, w, u] ∧ Dp K H v (pathQ pts sgs cyc) ∧ PathB pts sgs cyc 5 ∧ Dp K H w (qD s) ∧ Dp K H u (qD e) ∧ Tm s ∧ Tm e ∧ GxR.TabG H P ∧ GxR.TabG H P2 ∧
  PartR K A H Q E pts sgs (hlQ cyc sgs.length (if e < s then e else s)) (hlQ cyc sgs.length (if e < s then s else e)) (decide (e < s))
theorem clamp_tm {m : Nat} {t : Rat} (h : Tm t) (hm : m ≤ 5) : Tm (clampQ m t) := by
  unfold clampQ
  split
  · exact ⟨by decide, by decide⟩
  · split
    · exact ⟨by rw [Rat.num_natCast]; omega, by rw [Rat.den_natCast]; decide⟩
    · exact h
theorem clamp_wi {m : Nat} {t : Rat} (h : Tm t) : Wi false m (clampQ m t) := by
  obtain ⟨a, _, b, _⟩ := held_ok (cyc := false) (m := m) h.b (fun z => by cases z)
  exact .inr ⟨rfl, a, b⟩
theorem clamp_mono {m : Nat} {s e : Rat} (h : s ≤ e) : clampQ m s ≤ clampQ m e := by
  have hm : (0 : Rat) ≤ (m : Rat) := by exact_mod_cast Nat.zero_le m
  unfold clampQ
  split <;> split <;> (try split) <;> (try split) <;> grind
theorem ptsP_len (pts : List PQ) (sgs : List (Option (PQ × PQ))) (a b : Rat) : 1 ≤ (ptsP pts sgs a b).length ∧ (ptsP pts sgs a b).length ≤ cntQ a b + 2 ∧ (sgsP pts sgs a b).length ≤ cntQ a b := by
  unfold ptsP sgsP
  split
  · exact ⟨Nat.le_refl _, by rw [List.length_singleton]; omega, by rw [List.length_nil]; omega⟩
  · unfold midQ
    rw [List.length_append, List.length_append, List.length_map, List.length_map, List.length_range, List.length_range, List.length_singleton, List.length_singleton]
    omega
section
theorem ok_subpath00 {P : Program} {w : World} {K : PySem.W.Frag} {mg : Str → Option Value} {base : Heap} {A : Nat → Addr} {D : Nat → FuncData} (T : Txt K mg A D base) : FnOk P w K mg base (L2.CX P w) 16 (A 22) (D 22) ["path", "start", "end"] (fun _ _ _ _ => False) :=
  T.F_subpath.okX sc_subpath (fun vs H Q E h => h.elim) (fun cdv A' outer s H vs Q E hr h => h.elim)
theorem ok_subpath0 {P : Program} {w : World} {K : PySem.W.Frag} {mg : Str → Option Value} {base : Heap} {A : Nat → Addr} {D : Nat → FuncData} (T : Txt K mg A D base) : FnOk P w K mg base (L2.CX P w) 18 (A 22) (D 22) ["path", "start", "end"] (sp_subpath0 K A (A 48)) := by
  refine T.F_subpath.okX sc_subpath (fun vs H Q E h => ?_) (fun cdv A' outer s H vs Q E hr h => ?_)
  · obtain ⟨v, w, u, pts, sgs, cyc, s, e, rfl, _⟩ := h
    rfl
  obtain ⟨v, w', u, pts, sgs, cyc, s0, e, rfl, dP, pb, ds, de, bs, be, hse, tG, q1, q2⟩ := h
  refine ⟨_, (pss_cons (ps_if (pt_cmpR op_gt (pe_call (ok_compare T) (hr.mono (by omega)) (by rfl) T.m_compare T.F_compare.kp T.b_compare .nil (passes_call (takes_of rfl rfl rfl rfl) (fun _ _ _ _ h => h)) (pa_cons (pv 1) (pa_cons (pv 2) pa_nil))) pe_int (nomark _))
  (pss_one (ps_ret (pe_call (ok_reverse T) (hr.mono (by omega)) (by rfl) T.m_reverse T.F_reverse.kp T.b_reverse .nil (passes_call (takes_of rfl rfl rfl rfl) (fun _ _ _ _ h => h)) (pa_cons (pe_call (ok_subpath00 T) (hr.mono (by omega)) (by rfl) T.m_subpath T.F_subpath.kp T.b_subpath .nil (passes_call (takes_of rfl rfl rfl rfl) (fun _ _ _ _ h => h)) (pa_cons (pv 0) (pa_cons (pv 2) (pa_cons (pv 1) pa_nil)))) pa_nil))))
  pss_nil)
  (pss_cons (ps_if (pt_val (pe_ix ix_tup (pv 0) pe_int (fun _ _ => rfl)))
  (pss_one (ps_ret (pe_call (ok_part_of T) (hr.mono (by omega)) (by rfl) T.m_part_of T.F_part_of.kp T.b_part_of .nil (passes_call (takes_of rfl rfl rfl rfl) (fun _ _ _ _ h => h)) (pa_cons (pv 0) (pa_cons (pv 1) (pa_cons (pv 2) pa_nil))))))
  pss_nil)
  (pss_one (ps_ret (pe_call (ok_part_of T) (hr.mono (by omega)) (by rfl) T.m_part_of T.F_part_of.kp T.b_part_of .nil (passes_call (takes_of rfl rfl rfl rfl) (fun _ _ _ _ h => h)) (pa_cons (pv 0) (pa_cons (pe_call (ok_clamped T) (hr.mono (by omega)) (by rfl) T.m_clamped T.F_clamped.kp T.b_clamped .nil (passes_call (takes_of rfl rfl rfl rfl) (fun _ _ _ _ h => h)) (pa_cons (pv 0) (pa_cons (pv 1) pa_nil))) (pa_cons (pe_call (ok_clamped T) (hr.mono (by omega)) (by rfl) T.m_clamped T.F_clamped.kp T.b_clamped .nil (passes_call (takes_of rfl rfl rfl rfl) (fun _ _ _ _ h => h)) (pa_cons (pv 0) (pa_cons (pv 2) pa_nil))) pa_nil)))))))), ?_⟩
  walk_at "z"
  have hle : s0 ≤ e := Rat.not_lt.mp hse
  have n2 := pb.n2
  have n3 := pb.n3
  have m5 : sgs.length ≤ 5 := by split at n3 <;> omega
  obtain ⟨ks, ss, P, ak, ag, kl, sl⟩ := pathOk_of dP pb
  obtain ⟨a, k, g, rfl, hA, hK, hG⟩ := P.at_
  refine ⟨_, _, s0, e, rfl, ds, de, bs.bg, be.bg, ?_⟩
  walk_at "z"
  rw [cmp_gtb]
  refine z_ifNo (decide_eq_false hse) ?_
  walk_at "z"
  cases cyc with
  | true =>
    have m1 : 1 ≤ sgs.length := by
      have := pb.n1
      rw [if_pos rfl] at n3
      omega
    walk_at "z"
    refine ⟨_, _, _, pts, sgs, true, s0, e, rfl, dP, pb, ds, de, bs, be, .inl ⟨rfl, m1⟩, .inl ⟨rfl, m1⟩, hle, tG, fun h1 h2 => q1 h1 h2, fun h v' H' s' d => q2 h v' H' s' d⟩
  | false =>
    walk_at "z"
    refine ⟨_, _, ks, ss, false, s0, rfl, P, ds, bs.b, fun u1 H1 s1 d1 => ?_⟩
    rw [sl] at d1
    walk_at "z"
    refine ⟨_, _, ks, ss, false, e, rfl, P.mono s1, dp_mono s1 de, be.b, fun u2 H2 s2 d2 => ?_⟩
    rw [sl] at d2
    have S12 : Tg.SameX H H2 := .of (s1.trans s2)
    walk_at "z"
    exact ⟨_, _, _, pts, sgs, false, _, _, rfl, S12.dp dP, pb, dp_mono s2 d1, d2, clamp_tm bs m5, clamp_tm be m5, clamp_wi bs, clamp_wi be, clamp_mono hle, S12.tab _ tG, fun h1 h2 => q1 h1 h2, fun h v' H' s' d => q2 h v' H' (S12.trans s') d⟩
theorem ok_subpath {P : Program} {w : World} {K : PySem.W.Frag} {mg : Str → Option Value} {base : Heap} {A : Nat → Addr} {D : Nat → FuncData} (T : Txt K mg A D base) : FnOk P w K mg base (L2.CX P w) 20 (A 22) (D 22) ["path", "start", "end"] (sp_subpath K A (A 48) (A 46)) := by
  refine T.F_subpath.okX sc_subpath (fun vs H Q E h => ?_) (fun cdv A' outer s H vs Q E hr h => ?_)
  · obtain ⟨v, w, u, pts, sgs, cyc, s, e, rfl, _⟩ := h
    rfl
  obtain ⟨v, w', u, pts, sgs, cyc, s0, e, rfl, dP, pb, ds, de, bs, be, tG, tG2, q1, q2⟩ := h
  refine ⟨_, (pss_cons (ps_if (pt_cmpR op_gt (pe_call (ok_compare T) (hr.mono (by omega)) (by rfl) T.m_compare T.F_compare.kp T.b_compare .nil (passes_call (takes_of rfl rfl rfl rfl) (fun _ _ _ _ h => h)) (pa_cons (pv 1) (pa_cons (pv 2) pa_nil))) pe_int (nomark _))
  (pss_one (ps_ret (pe_call (ok_reverse T) (hr.mono (by omega)) (by rfl) T.m_reverse T.F_reverse.kp T.b_reverse .nil (passes_call (takes_of rfl rfl rfl rfl) (fun _ _ _ _ h => h)) (pa_cons (pe_call (ok_subpath0 T) (hr.mono (by omega)) (by rfl) T.m_subpath T.F_subpath.kp T.b_subpath .nil (passes_call (takes_of rfl rfl rfl rfl) (fun _ _ _ _ h => h)) (pa_cons (pv 0) (pa_cons (pv 2) (pa_cons (pv 1) pa_nil)))) pa_nil))))
  pss_nil)
  (pss_cons (ps_if (pt_val (pe_ix ix_tup (pv 0) pe_int (fun _ _ => rfl)))
  (pss_one (ps_ret (pe_call (ok_part_of T) (hr.mono (by omega)) (by rfl) T.m_part_of T.F_part_of.kp T.b_part_of .nil (passes_call (takes_of rfl rfl rfl rfl) (fun _ _ _ _ h => h)) (pa_cons (pv 0) (pa_cons (pv 1) (pa_cons (pv 2) pa_nil))))))
  pss_nil)
  (pss_one (ps_ret (pe_call (ok_part_of T) (hr.mono (by omega)) (by rfl) T.m_part_of T.F_part_of.kp T.b_part_of .nil (passes_call (takes_of rfl rfl rfl rfl) (fun _ _ _ _ h => h)) (pa_cons (pv 0) (pa_cons (pe_call (ok_clamped T) (hr.mono (by omega)) (by rfl) T.m_clamped T.F_clamped.kp T.b_clamped .nil (passes_call (takes_of rfl rfl rfl rfl) (fun _ _ _ _ h => h)) (pa_cons (pv 0) (pa_cons (pv 1) pa_nil))) (pa_cons (pe_call (ok_clamped T) (hr.mono (by omega)) (by rfl) T.m_clamped T.F_clamped.kp T.b_clamped .nil (passes_call (takes_of rfl rfl rfl rfl) (fun _ _ _ _ h => h)) (pa_cons (pv 0) (pa_cons (pv 2) pa_nil))) pa_nil)))))))), ?_⟩
  have n2 := pb.n2
  have n3 := pb.n3
  have m5 : sgs.length ≤ 5 := by split at n3 <;> omega
  obtain ⟨ks, ss, P, ak, ag, kl, sl⟩ := pathOk_of dP pb
  obtain ⟨a, k, g, rfl, hA, hK, hG⟩ := P.at_
  walk_at "z"
  refine ⟨_, _, s0, e, rfl, ds, de, bs.bg, be.bg, ?_⟩
  walk_at "z"
  rw [cmp_gtb]
  by_cases c : e < s0
  · refine z_ifYes (decide_eq_true c) ?_
    rw [if_pos c, if_pos c] at q1 q2
    rw [decide_eq_true c] at q2
    walk_at "z"
    refine ⟨_, _, _, pts, sgs, cyc, e, s0, rfl, dP, pb, de, ds, be, bs, fun z => by grind, tG, fun h1 h2 => q1 h1 h2, fun h v' H' s' d => ?_⟩
    obtain ⟨l1, l2, l3⟩ := ptsP_len pts sgs (hlQ cyc sgs.length e) (hlQ cyc sgs.length s0)
    have hc : cntQ (hlQ cyc sgs.length e) (hlQ cyc sgs.length s0) + 1 ≤ 700 := by
      rcases h with h | h
      · rw [h]
        unfold cntQ
        have hb : Tm (hlQ cyc sgs.length s0) := by
          unfold hlQ
          split
          · exact bs
          · exact clamp_tm bs m5
        have := hb.fl
        omega
      · omega
    have l4 : (ptsP pts sgs (hlQ cyc sgs.length e) (hlQ cyc sgs.length s0)).length ≤ 100 ∧ (sgsP pts sgs (hlQ cyc sgs.length e) (hlQ cyc sgs.length s0)).length ≤ 100 := by
      rcases h with h | h
      · unfold ptsP sgsP
        rw [if_pos h, if_pos h]
        exact ⟨by rw [List.length_singleton]; decide, by rw [List.length_nil]; decide⟩
      · omega
    walk_at "z"
    refine ⟨v', false, _, _, rfl, d, l1, l4.1, l4.2, s'.tab _ tG2, fun v2 H2 s2 d2 => ?_⟩
    exact q2 h v2 H2 (s'.trans s2) d2
  · refine z_ifNo (decide_eq_false c) ?_
    rw [if_neg c, if_neg c] at q1 q2
    rw [decide_eq_false c] at q2
    have hle : s0 ≤ e := Rat.not_lt.mp c
    walk_at "z"
    cases cyc with
    | true =>
      have m1 : 1 ≤ sgs.length := by
        have := pb.n1
        rw [if_pos rfl] at n3
        omega
      walk_at "z"
      refine ⟨_, _, _, pts, sgs, true, s0, e, rfl, dP, pb, ds, de, bs, be, .inl ⟨rfl, m1⟩, .inl ⟨rfl, m1⟩, hle, tG, fun h1 h2 => q1 h1 h2, fun h v' H' s' d => q2 h v' H' s' d⟩
    | false =>
      walk_at "z"
      refine ⟨_, _, ks, ss, false, s0, rfl, P, ds, bs.b, fun u1 H1 s1 d1 => ?_⟩
      rw [sl] at d1
      walk_at "z"
      refine ⟨_, _, ks, ss, false, e, rfl, P.mono s1, dp_mono s1 de, be.b, fun u2 H2 s2 d2 => ?_⟩
      rw [sl] at d2
      have S12 : Tg.SameX H H2 := .of (s1.trans s2)
      walk_at "z"
      exact ⟨_, _, _, pts, sgs, false, _, _, rfl, S12.dp dP, pb, dp_mono s2 d1, d2, clamp_tm bs m5, clamp_tm be m5, clamp_wi bs, clamp_wi be, clamp_mono hle, S12.tab _ tG, fun h1 h2 => q1 h1 h2, fun h v' H' s' d => q2 h v' H' (S12.trans s') d⟩
end
/-! ### the law's own times and points -/
/-- a time that the law draws -/
def Td (t : Rat) : Prop := Tm t ∧ ((-6 : Int) : Rat) ≤ t ∧ t ≤ ((60 : Int) : Rat)
def sp__law_time (K : PySem.W.Frag) : Sp := fun vs H Q _ => ∃ (p : Addr) (H0 : Hp), vs = [.ref p] ∧ Sd H0 H p ∧ ∀ (v : V) (t : Rat) (H' : Hp), Td t → Sd H0 H' p → Kp p H H' → Dp K H' v (qD t) → Q v H'
def sp__law_less (K : PySem.W.Frag) : Sp := fun vs H Q _ => ∃ (v w : V) (a b : Rat), vs = [v, w] ∧ Dp K H v (qD a) ∧ Dp K H w (qD b) ∧ Bl a ∧ Bl b ∧ Q (.bl (decide (a < b))) H
/-- a time of the law's own: the given ones, and the thirds between them -/
def Tl (t : Rat) : Prop := Zb t 7560 1000000000
def sp__law_on_path (K : PySem.W.Frag) : Sp := fun vs H Q _ => ∃ (v w : V) (pts : List PQ) (sgs : List (Option (PQ × PQ))) (cyc : Bool) (t : Rat), vs = [v, w] ∧ Dp K H v (pathQ pts sgs cyc) ∧ PathB pts sgs cyc 5 ∧ Dp K H w (qD t) ∧ Tl t ∧ (t.den ≠ 1 → Inn cyc sgs.length (flI t)) ∧ RetD K H (ptQ (onQ pts sgs t)) Q
theorem td_of {n d : Int} (h1 : 1 ≤ d) (h2 : d ≤ 5) (h3 : -6 * d ≤ n) (h4 : n ≤ 60 * d) : Td (Rat.divInt n d) := by
  have hdp : (0 : Rat) < ((d : Int) : Rat) := by exact_mod_cast (show (0 : Int) < d by omega)
  refine ⟨(bd_divInt (n := n) (d := d) (by omega)).le (by omega) (by omega), ?_, ?_⟩
  · rw [Rat.divInt_eq_div]
    have h : ((-6 : Int) : Rat) * (d : Rat) ≤ (n : Rat) := by
      rw [← Rat.intCast_mul]
      exact_mod_cast h3
    refine Rat.not_lt.mp fun z => ?_
    rw [Rat.div_lt_iff hdp] at z
    grind
  · rw [Rat.divInt_eq_div]
    have h : (n : Rat) ≤ ((60 : Int) : Rat) * (d : Rat) := by
      rw [← Rat.intCast_mul]
      exact_mod_cast h4
    refine Rat.not_lt.mp fun z => ?_
    rw [Rat.lt_div_iff hdp] at z
    grind
theorem zb_fl {t : Rat} (h : Tl t) : Tu (t - ((flI t : Int) : Rat)) ∧ 0 ≤ t - ((flI t : Int) : Rat) ∧ t - ((flI t : Int) : Rat) < 1 := by
  have h1 : ((flI t : Int) : Rat) ≤ t := fl_iff.mp (Int.le_refl _)
  have h2 : t < ((flI t + 1 : Int) : Rat) := fl_iff'.mp (by omega)
  rw [n1_r] at h2
  have f0 : 0 ≤ t - ((flI t : Int) : Rat) := by grind
  have f1 : t - ((flI t : Int) : Rat) < 1 := by grind
  exact ⟨(zb_unit (zb_sub h (zb_int (flI t) 7560)) f0 (Rat.le_of_lt f1)).le (by decide), f0, f1⟩
def NuP (a : PQ) : Prop := Nu a.1 ∧ Nu a.2
def NuS (s : Option (PQ × PQ)) : Prop := match s with
  | none => True
  | some (c, d) => NuP c ∧ NuP d
theorem nuP {a : PQ} (h : Bq a) : NuP a := ⟨nu0 (z60 h.1), nu0 (z60 h.2)⟩
theorem nuS {s : Option (PQ × PQ)} (h : Bs s) : NuS s := by
  match s, h with
  | none, _ => trivial
  | some (c, d), h => exact ⟨nuP h.1, nuP h.2⟩
theorem onPQ {K : PySem.W.Frag} {H : Hp} {v s w u : V} {a b : PQ} {sg : Option (PQ × PQ)} {f : Rat} {Q : VK} {E : XK} (da : Dp K H v (ptQ a)) (ds : Dp K H s (sgQ sg)) (db : Dp K H w (ptQ b)) (df : Dp K H u (qD f)) (za : NuP a) (zb : NuP b) (zs : NuS sg) (zf : Tu f)
    (q : RetD K H (ptQ (evS a sg b f)) Q) : sp__law_on_segment K [v, s, w, u] H Q E := by
  match sg, ds, zs, q with
  | none, ds, _, q =>
    rw [dp_non ds]
    exact onL da db df za.1 za.2 zb.1 zb.2 zf q
  | some (c, d), ds, zs, q =>
    refine onS da ds db df za.1 za.2 zb.1 zb.2 zs.1.1 zs.1.2 zs.2.1 zs.2.2 zf ?_
    rw [bern_cut, bern_cut]
    exact q
theorem frac_z0 {t : Rat} : (t - ((flI t : Int) : Rat)).num = 0 ↔ t.den = 1 := by
  constructor
  · intro z
    have z2 : t - ((flI t : Int) : Rat) = 0 := Rat.num_eq_zero.mp z
    have z3 : t = ((flI t : Int) : Rat) := by grind
    rw [z3, Rat.den_intCast]
  · intro h
    rw [tnum h]
    have : t - t = 0 := by grind
    rw [this]
    rfl
section
theorem ok__law_less {P : Program} {w : World} {K : PySem.W.Frag} {mg : Str → Option Value} {base : Heap} {A : Nat → Addr} {D : Nat → FuncData} (T : Txt K mg A D base) : FnOk P w K mg base (L2.CX P w) 1 (A 39) (D 39) ["a", "b"] (sp__law_less K) := by
  refine T.F__law_less.okX sc__law_less (fun vs H Q E h => ?_) (fun cdv A' outer s H vs Q E hr h => ?_)
  · obtain ⟨v, w, a, b, rfl, _⟩ := h
    rfl
  obtain ⟨v, w, a, b, rfl, d1, d2, g1, g2, q⟩ := h
  refine ⟨_, (pss_one (ps_ret (pe_cmpR op_lt (pe_op op_mulW (pe_ix ix_tup (pv 0) pe_int (fun _ _ => rfl)) (pe_ix ix_tup (pv 1) pe_int (fun _ _ => rfl))) (pe_op op_mulW (pe_ix ix_tup (pv 1) pe_int (fun _ _ => rfl)) (pe_ix ix_tup (pv 0) pe_int (fun _ _ => rfl))) (nomark _)))), ?_⟩
  obtain ⟨p1, rfl, h1⟩ := dp_q d1
  obtain ⟨p2, rfl, h2⟩ := dp_q d2
  rw [show decide (a < b) = decide (a.num * (b.den : Int) < b.num * (a.den : Int)) from decide_eq_decide.mpr (Rat.lt_iff a b)] at q
  walk_at "z"
  refine z_I (wide_mul g1.1 (nat190 g2.2) (by decide) (by decide) (by decide)) ?_
  walk_at "z"
  refine z_I (wide_mul g2.1 (nat190 g1.2) (by decide) (by decide) (by decide)) ?_
  walk_at "z"
  exact q
theorem ok__law_time {P : Program} {w : World} {K : PySem.W.Frag} {mg : Str → Option Value} {base : Heap} {A : Nat → Addr} {D : Nat → FuncData} (T : Txt K mg A D base) : FnOk P w K mg base (L2.CX P w) 2 (A 38) (D 38) ["stream"] (sp__law_time K) := by
  refine T.F__law_time.okX sc__law_time (fun vs H Q E h => ?_) (fun cdv A' outer s H vs Q E hr h => ?_)
  · obtain ⟨p, H0, rfl, _⟩ := h
    rfl
  obtain ⟨p, H0, rfl, S, q⟩ := h
  refine ⟨_, (pss_cons (ps_set (i := 1) sc__law_time.nd rfl (.inl rfl) (pe_ix ix_list (pe_lst (pa_cons pe_int (pa_cons pe_int (pa_cons pe_int (pa_cons pe_int (pa_cons pe_int pa_nil)))))) (pe_call (ok__law_next T) (hr.mono (by decide)) (by rfl) T.m__law_next T.F__law_next.kp T.b__law_next .nil (passes_call (takes_of rfl rfl rfl rfl) (fun _ _ _ _ h => h)) (pa_cons (pv 0) (pa_cons pe_int pa_nil))) (fun _ _ => rfl)))
  (pss_cons (ps_if (pt_cmpR op_eq (pe_call (ok__law_next T) (hr.mono (by decide)) (by rfl) T.m__law_next T.F__law_next.kp T.b__law_next .nil (passes_call (takes_of rfl rfl rfl rfl) (fun _ _ _ _ h => h)) (pa_cons (pv 0) (pa_cons pe_int pa_nil))) pe_int (nomark _))
  (pss_one (ps_ret (pe_call (ok__law_ratio T) (hr.mono (by decide)) (by rfl) T.m__law_ratio T.F__law_ratio.kp T.b__law_ratio .nil (passes_call (takes_of rfl rfl rfl rfl) (fun _ _ _ _ h => h)) (pa_cons (pe_call (ok__law_next T) (hr.mono (by decide)) (by rfl) T.m__law_next T.F__law_next.kp T.b__law_next .nil (passes_call (takes_of rfl rfl rfl rfl) (fun _ _ _ _ h => h)) (pa_cons (pv 0) (pa_cons (pe_op op_add (pe_op op_mul pe_int (pv 1)) pe_int) pa_nil))) (pa_cons (pv 1) pa_nil)))))
  pss_nil)
  (pss_one (ps_ret (pe_call (ok__law_ratio T) (hr.mono (by decide)) (by rfl) T.m__law_ratio T.F__law_ratio.kp T.b__law_ratio .nil (passes_call (takes_of rfl rfl rfl rfl) (fun _ _ _ _ h => h)) (pa_cons (pe_op op_sub (pe_call (ok__law_next T) (hr.mono (by decide)) (by rfl) T.m__law_next T.F__law_next.kp T.b__law_next .nil (passes_call (takes_of rfl rfl rfl rfl) (fun _ _ _ _ h => h)) (pa_cons (pv 0) (pa_cons (pe_op op_add (pe_op op_mul pe_int (pv 1)) pe_int) pa_nil))) (pe_op op_mul pe_int (pv 1))) (pa_cons (pv 1) pa_nil))))))), ?_⟩
  walk_at "z"
  intro pl H1 f1 s1 h1
  have S1 := S.mono s1
  have npl : pl ≠ p := S.ne0 f1
  walk_at "z"
  refine nx S1 (by decide) (lt1000 (by decide)) fun z H2 z0 z5 S2 e2 => ?_
  have k2 : Kp p H H2 := (kp_of s1).trans' (kp_eq e2)
  have h2 := (kp_eq e2) _ _ npl h1
  obtain ⟨d, hd, d1, d5⟩ : ∃ d : Int, atI [V.int 1, .int 1, .int 2, .int 3, .int 5] z = some (.int d) ∧ 1 ≤ d ∧ d ≤ 5 := by
    rcases (by omega : z = 0 ∨ z = 1 ∨ z = 2 ∨ z = 3 ∨ z = 4) with rfl | rfl | rfl | rfl | rfl
    · exact ⟨1, rfl, by decide, by decide⟩
    · exact ⟨1, rfl, by decide, by decide⟩
    · exact ⟨2, rfl, by decide, by decide⟩
    · exact ⟨3, rfl, by decide, by decide⟩
    · exact ⟨5, rfl, by decide, by decide⟩
  walk_at "z"
  refine z_ixL (.inl (.inl h2)) hd ?_
  clear S1 e2 h2 h1 s1 hd
  walk_at "z"
  refine nx S2 (by decide) (lt1000 (by decide)) fun c H3 _ _ S3 e3 => ?_
  have k3 := k2.trans' (kp_eq e3)
  walk_at "z"
  refine z_if (fun _ => ?_) (fun _ => ?_)
  · walk_at "z"
    refine nx S3 (by omega) (lt1000 (Nat.lt_of_le_of_lt (show (60 * d + 1).natAbs ≤ 301 by omega) (by decide))) fun n H4 n0 n1 S4 e4 => ?_
    walk_at "z"
    exact ⟨_, _, rfl, by omega, lt400 (Nat.lt_of_le_of_lt (show (n).natAbs ≤ 301 by omega) (by decide)), lt400 (Nat.lt_of_le_of_lt (show d.natAbs ≤ 5 by omega) (by decide)), fun v H5 s5 e5 => q v _ H5 (td_of d1 d5 (by omega) (by omega)) (S4.mono s5) ((k3.trans' (kp_eq e4)).trans' (kp_of s5)) e5⟩
  · walk_at "z"
    refine nx S3 (by omega) (lt1000 (Nat.lt_of_le_of_lt (show (14 * d + 1).natAbs ≤ 301 by omega) (by decide))) fun n H4 n0 n1 S4 e4 => ?_
    walk_at "z"
    exact ⟨_, _, rfl, by omega, lt400 (Nat.lt_of_le_of_lt (show (n - 6 * d).natAbs ≤ 301 by omega) (by decide)), lt400 (Nat.lt_of_le_of_lt (show d.natAbs ≤ 5 by omega) (by decide)), fun v H5 s5 e5 => q v _ H5 (td_of d1 d5 (by omega) (by omega)) (S4.mono s5) ((k3.trans' (kp_eq e4)).trans' (kp_of s5)) e5⟩
theorem ok__law_on_path {P : Program} {w : World} {K : PySem.W.Frag} {mg : Str → Option Value} {base : Heap} {A : Nat → Addr} {D : Nat → FuncData} (T : Txt K mg A D base) : FnOk P w K mg base (L2.CX P w) 5 (A 40) (D 40) ["path", "time"] (sp__law_on_path K) := by
  refine T.F__law_on_path.okX sc__law_on_path (fun vs H Q E h => ?_) (fun cdv A' outer s H vs Q E hr h => ?_)
  · obtain ⟨v, w, pts, sgs, cyc, t, rfl, _⟩ := h
    rfl
  obtain ⟨v, w, pts, sgs, cyc, t, rfl, dP, pb, dt, bt, inn, q⟩ := h
  refine ⟨_, (pss_cons (ps_set (i := 2) sc__law_on_path.nd rfl (.inl rfl) (pe_op op_fdivW (pe_ix ix_tup (pv 1) pe_int (fun _ _ => rfl)) (pe_ix ix_tup (pv 1) pe_int (fun _ _ => rfl))))
  (pss_cons (ps_set (i := 3) sc__law_on_path.nd rfl (.inl rfl) (pe_call (ok__law_difference T) (hr.mono (by decide)) (by rfl) T.m__law_difference T.F__law_difference.kp T.b__law_difference .nil (passes_call (takes_of rfl rfl rfl rfl) (fun _ _ _ _ h => h)) (pa_cons (pv 1) (pa_cons (pe_tup (pa_cons (pv 2) (pa_cons pe_int pa_nil))) pa_nil))))
  (pss_cons (ps_set (i := 4) sc__law_on_path.nd rfl (.inl rfl) (pe_ix ix_tup (pv 0) pe_int (fun _ _ => rfl)))
  (pss_cons (ps_if (pt_cmpR op_eq (pe_ix ix_tup (pv 3) pe_int (fun _ _ => rfl)) pe_int (nomark _))
  (pss_one (ps_ret (pe_ix ix_tup (pv 4) (pe_op op_mod (pe_callTy Z.c_int (by rfl) T.z_int (by decide +kernel) (pa_cons (pv 2) pa_nil)) (pe_callB Z.c_len (by rfl) T.z_len (by decide +kernel) (pa_cons (pv 4) pa_nil))) (fun _ _ => rfl))))
  pss_nil)
  (pss_cons (ps_set (i := 5) sc__law_on_path.nd rfl (.inl rfl) (pe_ix ix_tup (pe_ix ix_tup (pv 0) pe_int (fun _ _ => rfl)) (pe_op op_mod (pe_callTy Z.c_int (by rfl) T.z_int (by decide +kernel) (pa_cons (pv 2) pa_nil)) (pe_callB Z.c_len (by rfl) T.z_len (by decide +kernel) (pa_cons (pe_ix ix_tup (pv 0) pe_int (fun _ _ => rfl)) pa_nil))) (fun _ _ => rfl)))
  (pss_one (ps_ret (pe_call (ok__law_on_segment T) (hr.mono (by decide)) (by rfl) T.m__law_on_segment T.F__law_on_segment.kp T.b__law_on_segment .nil (passes_call (takes_of rfl rfl rfl rfl) (fun _ _ _ _ h => h)) (pa_cons (pe_ix ix_tup (pv 4) (pe_op op_mod (pe_callTy Z.c_int (by rfl) T.z_int (by decide +kernel) (pa_cons (pv 2) pa_nil)) (pe_callB Z.c_len (by rfl) T.z_len (by decide +kernel) (pa_cons (pv 4) pa_nil))) (fun _ _ => rfl)) (pa_cons (pv 5) (pa_cons (pe_ix ix_tup (pv 4) (pe_op op_mod (pe_callTy Z.c_int (by rfl) T.z_int (by decide +kernel) (pa_cons (pe_op op_add (pv 2) pe_int) pa_nil)) (pe_callB Z.c_len (by rfl) T.z_len (by decide +kernel) (pa_cons (pv 4) pa_nil))) (fun _ _ => rfl)) (pa_cons (pv 3) pa_nil)))))))))))), ?_⟩
  obtain ⟨ks, ss, P, ak, ag, kl, sl⟩ := pathOk_of dP pb
  obtain ⟨a, k, g, rfl, hA, hK, hG⟩ := P.at_
  obtain ⟨p1, rfl, h1⟩ := dp_q dt
  have hz := t.den_nz
  have n1 := pb.n1
  walk_at "z"
  have bd := bt.bd (by decide)
  have bd1 := bd.1
  have bd2 := bd.2
  have fl1 : (flI t).natAbs ≤ 1000000000 := by
    have hd : (1 : Int) ≤ (t.den : Int) := by omega
    have h1 : ((-1000000000 : Int) : Rat) ≤ t := le_int.mpr (by omega)
    have h2 : t < ((1000000001 : Int) : Rat) := int_lt.mpr (by omega)
    have := fl_iff.mpr h1
    have := fl_iff'.mpr h2
    omega
  refine z_I (wide_div (b := 200) (by omega) (by omega) (by decide) (by decide)) ?_
  show _
  have eI : t.num / (t.den : Int) = flI t := rfl
  rw [eI]
  walk_at "z"
  intro p2 H2 f2 s2 h2
  have d2 : Dp K H2 (.ref p2) (qD ((flI t : Int) : Rat)) := by rw [q_int]; exact dpT2 h2
  walk_at "z"
  refine lop (dp_mono s2 dt) d2 (bd.bl (by decide) (by decide)) ⟨by rw [Rat.num_intCast]; exact Nat.lt_of_le_of_lt fl1 (by decide), by rw [Rat.den_intCast]; decide⟩ fun fr H3 s3 d3 => ?_
  have s03 := s2.trans s3
  obtain ⟨pf, rfl, hpf⟩ := dp_q d3
  have hA3 := seqT s03 hA
  have hK3 := seqT s03 hK
  have hG3 := seqT s03 hG
  obtain ⟨zt, f0, f1⟩ := zb_fl bt
  have m0 := Int.emod_nonneg (flI t) (show (pts.length : Int) ≠ 0 by omega)
  obtain ⟨wa, hwa, dwa, ma⟩ := at_pt ak n1 (flI t)
  have atP : ∀ n : Int, ((n % (pts.length : Int)).toNat : Int) = n % (pts.length : Int) := fun n => Int.toNat_of_nonneg (Int.emod_nonneg n (by omega))
  unfold onQ at q
  have ixP : ∀ {n : Int} {w : V}, ks[(n % (pts.length : Int)).toNat]? = some w → atI ks (n % (pts.length : Int)) = some w := fun {n w} h => by
    rw [← atP n]
    exact atI_nat h
  walk_at "z"
  by_cases hd : t.den = 1
  · rw [if_pos (decide_eq_true (frac_z0.mpr hd))]
    rw [if_pos hd] at q
    walk_at "z"
    rw [kl]
    refine z_ixT hK3 (ixP hwa) ?_
    exact q _ _ s03 (dp_mono s03 dwa)
  · rw [if_neg (by rw [decide_eq_false (fun z => hd (frac_z0.mp z))]; exact Bool.false_ne_true)]
    rw [if_neg hd] at q
    have inn := inn hd
    have m1 := inn.1
    obtain ⟨wb, hwb, dwb, mb⟩ := at_pt ak n1 (flI t + 1)
    obtain ⟨sg, hsg, dsg, ms⟩ := at_sg ag m1 (flI t)
    walk_at "z"
    rw [sl]
    refine z_ixT hG3 (show atI ss (flI t % (sgs.length : Int)) = some sg by rw [← Int.toNat_of_nonneg (Int.emod_nonneg (flI t) (show (sgs.length : Int) ≠ 0 by omega))]; exact atI_nat hsg) ?_
    walk_at "z"
    rw [kl]
    refine z_ixT hK3 (ixP hwa) ?_
    walk_at "z"
    rw [kl]
    refine z_ixT hK3 (ixP hwb) ?_
    walk_at "z"
    exact onPQ (dp_mono s03 dwa) (dp_mono s03 dsg) (dp_mono s03 dwb) d3 (nuP (pb.pb _ ma)) (nuP (pb.pb _ mb)) (nuS (pb.sb _ ms)) zt fun v' H' s' d' => q v' H' (s03.trans s') d'
end
def midT (s : Rat) (k : Nat) : List Rat := (List.range k).map fun (i : Nat) => ((flI s + 1 + (i : Int) : Int) : Rat)
/-- the times that the law lists -/
def timesQ (s e : Rat) : List Rat := [s] ++ midT s (cntQ s e - 1) ++ (if s = e then [] else [e])
def sp__law_times (K : PySem.W.Frag) : Sp := fun vs H Q _ => ∃ (v w : V) (s e : Rat), vs = [v, w] ∧ Dp K H v (qD s) ∧ Dp K H w (qD e) ∧ Td s ∧ Td e ∧ s ≤ e ∧ ∀ (D : Addr) (acc : List V) (H' : Hp), Same H H' → H' D = some (.lst acc) → DpAll K H' acc ((timesQ s e).map qD) → Q (.ref D) H'
theorem Td.fl {t : Rat} (h : Td t) : -6 ≤ flI t ∧ flI t ≤ 60 ∧ -6 ≤ clI t ∧ clI t ≤ 60 := by
  obtain ⟨_, h1, h2⟩ := h
  have a1 := fl_iff.mpr h1
  have a2 := cl_iff.mpr h2
  have a3 : flI t ≤ clI t := by
    have : ((flI t : Int) : Rat) ≤ t := fl_iff.mp (Int.le_refl _)
    have h3 : t ≤ ((clI t : Int) : Rat) := cl_iff.mp (Int.le_refl _)
    have h4 : ((flI t : Int) : Rat) ≤ ((clI t : Int) : Rat) := Rat.le_trans this h3
    exact_mod_cast h4
  omega
theorem tup_qds : ∀ l : List Rat, tupOnlyA (l.map qD) = true
  | [] => rfl
  | a :: r => by
    show (tupOnly (qD a) && tupOnlyA (r.map qD)) = true
    rw [tup_qds r]
    rfl
section
theorem ok__law_times {P : Program} {w : World} {K : PySem.W.Frag} {mg : Str → Option Value} {base : Heap} {A : Nat → Addr} {D : Nat → FuncData} (T : Txt K mg A D base) : FnOk P w K mg base (L2.CX P w) 2 (A 41) (D 41) ["start", "end"] (sp__law_times K) := by
  refine T.F__law_times.okX sc__law_times (fun vs H Q E h => ?_) (fun cdv A' outer s H vs Q E hr h => ?_)
  · obtain ⟨v, w, s0, e, rfl, _⟩ := h
    rfl
  obtain ⟨v, w, s0, e, rfl, ds, de, bs, be, hse, q⟩ := h
  refine ⟨_, (pss_cons (ps_set (i := 2) sc__law_times.nd rfl (.inl rfl) (pe_lst (pa_cons (pv 0) pa_nil)))
  (pss_cons (ps_set (i := 3) sc__law_times.nd rfl (.inl rfl) (pe_op op_add (pe_op op_fdivW (pe_ix ix_tup (pv 0) pe_int (fun _ _ => rfl)) (pe_ix ix_tup (pv 0) pe_int (fun _ _ => rfl))) pe_int))
  (pss_cons (ps_for (passes_of rfl) rfl (pi_range1 (by rfl) T.z_range (pa_cons pe_int pa_nil)) (pg_name (i := 4) sc__law_times.nd rfl (.inl rfl))
  (pss_cons (ps_if (pt_not (pt_val (pe_call (ok__law_less T) (hr.mono (by decide)) (by rfl) T.m__law_less T.F__law_less.kp T.b__law_less .nil (passes_call (takes_of rfl rfl rfl rfl) (fun _ _ _ _ h => h)) (pa_cons (pe_tup (pa_cons (pe_op op_add (pv 3) (pv 4)) (pa_cons pe_int pa_nil))) (pa_cons (pv 1) pa_nil)))))
  (pss_one ps_break)
  pss_nil)
  (pss_one (ps_expr (pe_bm PySem.F.plainAttrs_list PySem.F.slot_list_append PySem.F.type_list_append mt_append (pv 2) (pa_cons (pe_tup (pa_cons (pe_op op_add (pv 3) (pv 4)) (pa_cons pe_int pa_nil))) pa_nil))))))
  (Evl.pss_cut (ps_if (pt_cmpR (op_neD hr.units) (pv 0) (pv 1) (nomark _))
  (pss_one (ps_expr (pe_bm PySem.F.plainAttrs_list PySem.F.slot_list_append PySem.F.type_list_append mt_append (pv 2) (pa_cons (pv 1) pa_nil))))
  pss_nil)
  (pss_one (ps_ret (pv 2))))))), ?_⟩
  obtain ⟨p1, rfl, h1⟩ := dp_q ds
  have hz := s0.den_nz
  have fs := bs.fl
  have fe := be.fl
  have b1 := bs.1.1
  have b2 := bs.1.2
  have cn : cntQ s0 e ≤ 66 := by unfold cntQ; omega
  walk_at "z"
  intro D H1 fD s1 hD
  have h11 := seqT s1 h1
  walk_at "z"
  refine z_I (wide_div (b := 200) (by omega) (by omega) (by decide) (by decide)) ?_
  rw [show s0.num / (s0.den : Int) = flI s0 from rfl]
  have midS : ∀ i, ([s0] ++ midT s0 (i + 1)) = ([s0] ++ midT s0 i) ++ [((flI s0 + 1 + (i : Int) : Int) : Rat)] := fun i => by
    unfold midT
    rw [List.range_succ, List.map_append, List.append_assoc]
    rfl
  walk_at "z"
  refine z_forR1 200 (by decide) (fun R r => by walk_at "z"; exact r) (fun i σ' H' => i ≤ cntQ s0 e - 1 ∧ Same H H' ∧ ∃ (acc : List V) (x4 : Option V), σ' = [some (.ref p1), some w, some (.ref D), some (.int (flI s0 + 1)), x4] ∧ H' D = some (.lst acc) ∧ acc.length = i + 1 ∧ DpAll K H' acc (([s0] ++ midT s0 i).map qD))
    ⟨Nat.zero_le _, s1, _, _, rfl, hD, rfl, .cons (dp_mono s1 ds) .nil⟩ ?_ (fun σ' H' h => absurd h.1 (by omega))
  clear hD s1 h11
  rintro i σ' H4 hi ⟨hic, s4, acc, x4, rfl, h4, l4, a4⟩
  walk_at "z"
  intro p5 H5 f5 s5 h5
  have d5 : Dp K H5 (.ref p5) (qD ((flI s0 + 1 + (i : Int) : Int) : Rat)) := by rw [q_int]; exact dpT2 h5
  walk_at "z"
  refine ⟨_, _, _, e, rfl, d5, dp_mono (s4.trans s5) de, ⟨by rw [Rat.num_intCast]; exact Nat.lt_of_le_of_lt (show (flI s0 + 1 + (i : Int)).natAbs ≤ 300 by omega) (by decide), by rw [Rat.den_intCast]; decide⟩, ⟨Nat.lt_of_le_of_lt be.1.1 (by decide), Nat.lt_of_le_of_lt be.1.2 (by decide)⟩, ?_⟩
  walk_at "z"
  by_cases c : ((flI s0 + 1 + (i : Int) : Int) : Rat) < e
  · have c' := cl_iff'.mpr c
    rw [if_neg (by rw [decide_eq_true c]; decide)]
    walk_at "z"
    refine z_bmL (fun R q => by walk_at "z"; exact q) (s5 _ _ h4) ?_
    walk_at "z"
    intro p6 H6 f6 s6 h6
    have h46 := s6 _ _ (s5 _ _ h4)
    have s46 := s5.trans s6
    walk_at "z"
    refine z_append h46 (by omega) ?_
    walk_at "z"
    refine ⟨by unfold cntQ; omega, fun b o h => ?_, acc ++ [.ref p6], _, rfl, upd_same, by rw [List.length_append, l4]; rfl, ?_⟩
    · rw [upd_ne (ne_of_none h fD)]
      exact s46 _ _ (s4 _ _ h)
    · rw [midS, List.map_append]
      exact dpa_app (dp_kpA kp_at h46 (tup_qds _) (dp_monoA s46 a4)) (.cons (dp_kp kp_at h46 rfl (show Dp K H6 (.ref p6) (qD ((flI s0 + 1 + (i : Int) : Int) : Rat)) by rw [q_int]; exact dpT2 h6)) .nil)
  · have c' : ¬ flI s0 + 1 + (i : Int) < clI e := fun z => c (cl_iff'.mp z)
    have hi : i = cntQ s0 e - 1 := by unfold cntQ at hic ⊢; omega
    rw [if_pos (by rw [decide_eq_false c]; rfl)]
    have s05 := s4.trans s5
    walk_at "z"
    have h45 := s5 _ _ h4
    have a5 := dp_monoA s5 a4
    rw [hi] at a5
    refine z_cut (fun σ' H' => ∃ (acc : List V) (x4 : Option V), σ' = [some (.ref p1), some w, some (.ref D), some (.int (flI s0 + 1)), x4] ∧ Same H H' ∧ H' D = some (.lst acc) ∧ DpAll K H' acc ((timesQ s0 e).map qD)) ?_ ?_
    · walk_at "z"
      refine z_neQ (dp_mono s05 ds) (dp_mono s05 de) ?_
      walk_at "z"
      by_cases hc : s0 = e
      · refine z_ifNo (decide_eq_false (not_not_intro hc)) ?_
        walk_at "z"
        refine ⟨acc, _, rfl, s05, h45, ?_⟩
        unfold timesQ
        rw [if_pos hc, List.append_nil]
        exact a5
      · refine z_ifYes (decide_eq_true hc) ?_
        walk_at "z"
        refine z_bmL (fun R q => by walk_at "z"; exact q) h45 ?_
        walk_at "z"
        refine z_append h45 (by omega) ?_
        walk_at "z"
        refine ⟨acc ++ [w], _, rfl, fun b o h => ?_, upd_same, ?_⟩
        · rw [upd_ne (ne_of_none h fD)]
          exact s05 _ _ h
        · unfold timesQ
          rw [if_neg hc, List.map_append]
          exact dpa_app (dp_kpA kp_at h45 (tup_qds _) a5) (.cons (dp_kp kp_at h45 rfl (dp_mono s05 de)) .nil)
    · rintro σ' H9 ⟨acc9, y4, rfl, s9, h9, a9⟩
      walk_at "z"
      exact q D acc9 H9 s9 h9 a9
end
theorem evS_0 (a : PQ) (s : Option (PQ × PQ)) (b : PQ) : evS a s b 0 = a := by
  match s with
  | none =>
    refine Prod.ext ?_ ?_
    · show a.1 + 0 * (b.1 - a.1) = a.1
      grind
    · show a.2 + 0 * (b.2 - a.2) = a.2
      grind
  | some (c, d) =>
    have h2 : ∀ x y z w : Rat, c3 x y z w 0 = x := fun x y z w => by
      unfold c3 c2 btw
      grind
    unfold evS
    simp only [h2]
theorem evS_in (a c d b x y u : Rat) : c3 (c3 a c d b x) (pol a c d b x x y) (pol a c d b x y y) (c3 a c d b y) u = c3 a c d b (x + u * (y - x)) := by
  unfold pol c3 c2 btw
  grind
theorem evS_sub (a : PQ) (s : Option (PQ × PQ)) (b : PQ) (x y u : Rat) : evS (evS a s b x) (pcS a s b x y) (evS a s b y) u = evS a s b (x + u * (y - x)) := by
  match s with
  | none =>
    refine Prod.ext ?_ ?_
    · show btw (btw a.1 b.1 x) (btw a.1 b.1 y) u = btw a.1 b.1 (x + u * (y - x))
      unfold btw
      grind
    · show btw (btw a.2 b.2 x) (btw a.2 b.2 y) u = btw a.2 b.2 (x + u * (y - x))
      unfold btw
      grind
  | some (c, d) =>
    unfold evS pcS
    simp only [evS_in]
theorem fl_n {t : Rat} {n : Int} (h1 : (n : Rat) ≤ t) (h2 : t < ((n + 1 : Int) : Rat)) : flI t = n := by
  have a := fl_iff.mpr h1
  have b := fl_iff'.mpr h2
  omega
theorem fl_int (n : Int) : flI ((n : Int) : Rat) = n := fl_n (Rat.le_refl) (by rw [n1_r]; grind)
/-- a point of a path by the segment that it lies on -/
theorem onQ_in (pts : List PQ) (sgs : List (Option (PQ × PQ))) {t : Rat} {n : Int} (h1 : (n : Rat) ≤ t) (h2 : t ≤ ((n + 1 : Int) : Rat)) : onQ pts sgs t = evS (ptA pts n) (sgA sgs n) (ptA pts (n + 1)) (t - (n : Rat)) := by
  by_cases h3 : t = ((n + 1 : Int) : Rat)
  · unfold onQ
    rw [h3, Rat.den_intCast, if_pos rfl, fl_int, n1_r]
    have : (n : Rat) + 1 - (n : Rat) = 1 := by grind
    rw [this, evS_1]
  · have h4 : t < ((n + 1 : Int) : Rat) := by
      rcases Rat.le_iff_lt_or_eq.mp h2 with h | h
      · exact h
      · exact absurd h h3
    unfold onQ
    rw [fl_n h1 h4]
    split
    · rename_i hd
      have e : t = (n : Rat) := by
        have := tnum hd
        rw [fl_n h1 h4] at this
        exact this.symm
      rw [e]
      have : (n : Rat) - (n : Rat) = 0 := by grind
      rw [this, evS_0]
    · rfl
/-- the k-th time -/
def tQ (a b : Rat) (k : Nat) : Rat := if k = 0 then a else if k = cntQ a b then b else ((flI a + (k : Int) : Int) : Rat)
section
variable {a b : Rat}
theorem cnt_pos (h : a < b) : ((cntQ a b : Nat) : Int) = clI b - flI a ∧ 1 ≤ cntQ a b := by
  have h1 : ((flI a : Int) : Rat) ≤ a := fl_iff.mp (Int.le_refl _)
  have h2 : flI a < clI b := cl_iff'.mpr (by grind)
  unfold cntQ
  omega
theorem times_len (h : a < b) : (timesQ a b).length = cntQ a b + 1 := by
  obtain ⟨h1, h2⟩ := cnt_pos h
  have hne : a ≠ b := fun z => by rw [z] at h; exact absurd h (by grind)
  unfold timesQ midT
  rw [if_neg hne, List.length_append, List.length_append, List.length_map, List.length_range, List.length_singleton, List.length_singleton]
  omega
theorem times_at (h : a < b) {k : Nat} (hk : k ≤ cntQ a b) : (timesQ a b)[k]? = some (tQ a b k) := by
  obtain ⟨h1, h2⟩ := cnt_pos h
  have hne : a ≠ b := fun z => by rw [z] at h; exact absurd h (by grind)
  unfold timesQ tQ
  rw [if_neg hne, List.append_assoc]
  by_cases k0 : k = 0
  · rw [k0, if_pos rfl]
    rfl
  · rw [if_neg k0, List.getElem?_append_right (by rw [List.length_singleton]; omega), List.length_singleton]
    have ml : (midT a (cntQ a b - 1)).length = cntQ a b - 1 := by
      unfold midT
      rw [List.length_map, List.length_range]
    by_cases kc : k = cntQ a b
    · rw [if_pos kc, List.getElem?_append_right (by omega), ml, kc, Nat.sub_self]
      rfl
    · rw [if_neg kc, List.getElem?_append_left (by omega)]
      unfold midT
      rw [List.getElem?_map, List.getElem?_range (by omega)]
      show some ((flI a + 1 + ((k - 1 : Nat) : Int) : Int) : Rat) = _
      rw [show flI a + 1 + ((k - 1 : Nat) : Int) = flI a + (k : Int) by omega]
/-- the k-th time and the next, on their segment -/
theorem tQ_seg (h : a < b) {k : Nat} (hk : k < cntQ a b) : tQ a b k = ((flI a + (k : Int) : Int) : Rat) + e0Q (flI a + (k : Int)) a ∧ tQ a b (k + 1) = ((flI a + (k : Int) : Int) : Rat) + e1Q (flI a + (k : Int)) b ∧ 0 ≤ e0Q (flI a + (k : Int)) a ∧ e0Q (flI a + (k : Int)) a < e1Q (flI a + (k : Int)) b ∧ e1Q (flI a + (k : Int)) b ≤ 1 := by
  obtain ⟨h1, h2⟩ := cnt_pos h
  have g1 : ((flI a : Int) : Rat) ≤ a := fl_iff.mp (Int.le_refl _)
  have g2 : a < ((flI a + 1 : Int) : Rat) := fl_iff'.mp (by omega)
  have g3 : ((flI a + (k : Int) : Int) : Rat) < b := cl_iff'.mp (by omega)
  have e0 : tQ a b k = ((flI a + (k : Int) : Int) : Rat) + e0Q (flI a + (k : Int)) a ∧ 0 ≤ e0Q (flI a + (k : Int)) a ∧ e0Q (flI a + (k : Int)) a < 1 ∧ ((flI a + (k : Int) : Int) : Rat) + e0Q (flI a + (k : Int)) a < b := by
    unfold tQ e0Q
    by_cases k0 : k = 0
    · subst k0
      rw [if_pos rfl]
      rw [n1_r] at g2
      simp only [Int.ofNat_zero, Int.natCast_zero, Int.add_zero] at *
      split <;> (refine ⟨?_, ?_, ?_, ?_⟩ <;> grind)
    · have g4 : ¬ ((flI a + (k : Int) : Int) : Rat) < a := by
        have h5 : ((flI a + 1 : Int) : Rat) ≤ ((flI a + (k : Int) : Int) : Rat) := by exact_mod_cast (show flI a + 1 ≤ flI a + (k : Int) by omega)
        grind
      rw [if_neg k0, if_neg (by omega), if_neg g4]
      refine ⟨?_, ?_, ?_, ?_⟩ <;> grind
  have e1 : tQ a b (k + 1) = ((flI a + (k : Int) : Int) : Rat) + e1Q (flI a + (k : Int)) b ∧ e1Q (flI a + (k : Int)) b ≤ 1 ∧ (e1Q (flI a + (k : Int)) b = 1 ∨ ((flI a + (k : Int) : Int) : Rat) + e1Q (flI a + (k : Int)) b = b) := by
    unfold tQ e1Q
    rw [if_neg (by omega), n1_r]
    by_cases kc : k + 1 = cntQ a b
    · have g5 : b ≤ ((flI a + (k : Int) + 1 : Int) : Rat) := cl_iff.mp (by omega)
      rw [n1_r] at g5
      rw [if_pos kc]
      split <;> (refine ⟨?_, ?_, ?_⟩ <;> grind)
    · have g5 : ((flI a + (k : Int) + 1 : Int) : Rat) < b := cl_iff'.mp (by omega)
      rw [n1_r] at g5
      rw [if_neg kc, if_neg (by grind)]
      have : ((flI a + ((k + 1 : Nat) : Int) : Int) : Rat) = ((flI a + (k : Int) : Int) : Rat) + 1 := by
        rw [← n1_r]
        congr 1
        omega
      rw [this]
      refine ⟨rfl, ?_, .inl rfl⟩
      grind
  obtain ⟨x1, x2, x3, x4⟩ := e0
  obtain ⟨y1, y2, y3⟩ := e1
  refine ⟨x1, y1, x2, ?_, y2⟩
  rcases y3 with y3 | y3
  · rw [y3]
    exact x3
  · grind
end
theorem nu_up {r : Rat} (h : Zb r 12960000 648000000) : Nu r := (zb_up 74088 h).le (by decide)
theorem nuE {a b : PQ} {s : Option (PQ × PQ)} {e : Rat} (ha : Bq a) (hb : Bq b) (hs : Bs s) (z : Zb e 60 60) (f0 : 0 ≤ e) (f1 : e ≤ 1) : NuP (evS a s b e) := by
  have h := (cut_zb (bq_z ha) (bq_z hb) (bs_z hs) z f0 f1 (by decide)).2
  exact ⟨nu_up h.1, nu_up h.2⟩
theorem pol_zb {a c d b x y z : Rat} (ha : Zb a 60 3000) (hc : Zb c 60 3000) (hd : Zb d 60 3000) (hb : Zb b 60 3000) (zx : Zb x 60 60) (zy : Zb y 60 60) (zz : Zb z 60 60) (x0 : 0 ≤ x) (x1 : x ≤ 1) (y0 : 0 ≤ y) (y1 : y ≤ 1) (z0 : 0 ≤ z) (z1 : z ≤ 1) : Nu (pol a c d b x y z) := by
  have h1 := zb_cvx ha hc zx x0 x1 (by decide)
  have h2 := zb_cvx hc hd zx x0 x1 (by decide)
  have h3 := zb_cvx hd hb zx x0 x1 (by decide)
  exact nu_up (zb_cvx (zb_cvx h1 h2 zy y0 y1 (by decide)) (zb_cvx h2 h3 zy y0 y1 (by decide)) zz z0 z1 (by decide))
theorem nuPc {a b : PQ} {s : Option (PQ × PQ)} {x y : Rat} (ha : Bq a) (hb : Bq b) (hs : Bs s) (zx : Zb x 60 60) (zy : Zb y 60 60) (x0 : 0 ≤ x) (x1 : x ≤ 1) (y0 : 0 ≤ y) (y1 : y ≤ 1) : NuS (pcS a s b x y) := by
  match s, hs with
  | none, _ => trivial
  | some (c, d), hs =>
    exact ⟨⟨pol_zb (z60 ha.1) (z60 hs.1.1) (z60 hs.2.1) (z60 hb.1) zx zx zy x0 x1 x0 x1 y0 y1, pol_zb (z60 ha.2) (z60 hs.1.2) (z60 hs.2.2) (z60 hb.2) zx zx zy x0 x1 x0 x1 y0 y1⟩,
      ⟨pol_zb (z60 ha.1) (z60 hs.1.1) (z60 hs.2.1) (z60 hb.1) zx zy zy x0 x1 y0 y1 y0 y1, pol_zb (z60 ha.2) (z60 hs.1.2) (z60 hs.2.2) (z60 hb.2) zx zy zy x0 x1 y0 y1 y0 y1⟩⟩
theorem e0_zb {n : Int} {a : Rat} (h : Tm a) (f0 : 0 ≤ e0Q n a) (f1 : e0Q n a ≤ 1) : Zb (e0Q n a) 60 60 := by
  refine zb_unit (L := 60) (M := 18000 + n.natAbs * 60) ?_ f0 f1
  unfold e0Q
  split
  · exact tm_sub h n
  · exact ⟨0, by rw [Rat.zero_mul]; rfl, by omega⟩
theorem e1_zb {n : Int} {a : Rat} (h : Tm a) (f0 : 0 ≤ e1Q n a) (f1 : e1Q n a ≤ 1) : Zb (e1Q n a) 60 60 := by
  refine zb_unit (L := 60) (M := 18000 + n.natAbs * 60) ?_ f0 f1
  unfold e1Q
  split
  · exact tm_sub h n
  · exact (zb_1 60).le (by omega)
theorem wi_inn {cyc : Bool} {m : Nat} {t : Rat} (w : Wi cyc m t) (h : t.den ≠ 1) : Inn cyc m (flI t) := by
  have hd := t.den_nz
  rcases w with ⟨rfl, hm⟩ | ⟨rfl, h0, h1⟩
  · exact ⟨hm, .inl rfl⟩
  · have g0 : 0 ≤ flI t := Int.ediv_nonneg h0 (by omega)
    have g2 := fl_lt h0 (not_whole h1 h)
    have e := flN g0
    exact ⟨by omega, .inr ⟨g0, by omega⟩⟩
theorem wi_seg {cyc : Bool} {m : Nat} {a b : Rat} (wa : Wi cyc m a) (wb : Wi cyc m b) {n : Int} (h1 : flI a ≤ n) (h2 : n < clI b) : Inn cyc m n := by
  have hd := a.den_nz
  rcases wa with ⟨rfl, hm⟩ | ⟨rfl, w0, w1⟩
  · exact ⟨hm, .inl rfl⟩
  rcases wb with ⟨h, _⟩ | ⟨_, e0, e1⟩
  · cases h
  have g0 : 0 ≤ flI a := Int.ediv_nonneg w0 (by omega)
  have g1 : clI b ≤ (m : Int) := cl_iff.mpr (int_le.mpr e1)
  exact ⟨by omega, .inr ⟨by omega, by omega⟩⟩
theorem tQ_zb {a b : Rat} (ha : Td a) (hb : Td b) {k : Nat} (hk : k ≤ cntQ a b) : Zb (tQ a b k) 60 18000 := by
  have fa := ha.fl
  have fb := hb.fl
  unfold tQ
  split
  · exact tm_zb ha.1
  · split
    · exact tm_zb hb.1
    · refine (zb_int _ 60).le ?_
      unfold cntQ at hk
      omega
theorem tl_60 {t : Rat} (h : Zb t 60 18000) : Tl t := (zb_up 126 h).le (by decide)
theorem onQ_int (pts : List PQ) (sgs : List (Option (PQ × PQ))) (n : Int) : onQ pts sgs (n : Rat) = ptA pts n := by
  unfold onQ
  rw [Rat.den_intCast, if_pos rfl, fl_int]
theorem times_on (pts : List PQ) (sgs : List (Option (PQ × PQ))) {a b : Rat} (h : a ≤ b) : (timesQ a b).map (onQ pts sgs) = ptsP pts sgs a b := by
  have hm : (midT a (cntQ a b - 1)).map (onQ pts sgs) = midQ pts a (cntQ a b - 1) := by
    unfold midT midQ
    rw [List.map_map]
    refine List.map_congr_left fun i _ => ?_
    exact onQ_int pts sgs _
  unfold timesQ ptsP
  by_cases hab : a = b
  · have c1 : cntQ a b - 1 = 0 := by
      have h1 : a < ((flI a + 1 : Int) : Rat) := fl_iff'.mp (by omega)
      have h2 : clI b ≤ flI a + 1 := cl_iff.mpr (by rw [← hab]; exact Rat.le_of_lt h1)
      unfold cntQ
      omega
    rw [if_pos hab, if_pos hab, c1]
    rfl
  · rw [if_neg hab, if_neg hab, List.map_append, List.map_append, hm]
    rfl
theorem times_in {a b : Rat} (ha : Td a) (hb : Td b) {cyc : Bool} {m : Nat} (wa : Wi cyc m a) (wb : Wi cyc m b) {t : Rat} (ht : t ∈ timesQ a b) : Tl t ∧ (t.den ≠ 1 → Inn cyc m (flI t)) := by
  have fa := ha.fl
  have fb := hb.fl
  unfold timesQ at ht
  rcases List.mem_append.mp ht with ht | ht
  · rcases List.mem_append.mp ht with ht | ht
    · rw [List.mem_singleton.mp ht]
      exact ⟨tl_60 (tm_zb ha.1), wi_inn wa⟩
    · unfold midT at ht
      obtain ⟨i, hi, rfl⟩ := List.mem_map.mp ht
      have hi := List.mem_range.mp hi
      refine ⟨tl_60 ((zb_int _ 60).le ?_), fun h => absurd (Rat.den_intCast _) h⟩
      unfold cntQ at hi
      omega
  · split at ht
    · cases ht
    · rw [List.mem_singleton.mp ht]
      exact ⟨tl_60 (tm_zb hb.1), wi_inn wb⟩
def t13 : Rat := ⟨1, 3, by decide, by decide⟩
def t23 : Rat := ⟨2, 3, by decide, by decide⟩
/-- the time between two listed ones, its place on the segment -/
theorem mid_time {a b : Rat} (ha : Td a) (hb : Td b) (h : a < b) {k : Nat} (hk : k < cntQ a b) {u : Rat} (u0 : 0 < u) (u1 : u < 1) (zu : Zb u 3 3) {pts : List PQ} {sgs : List (Option (PQ × PQ))} :
    Tl (tQ a b k + u * (tQ a b (k + 1) - tQ a b k)) ∧ flI (tQ a b k + u * (tQ a b (k + 1) - tQ a b k)) = flI a + (k : Int) ∧
    onQ pts sgs (tQ a b k + u * (tQ a b (k + 1) - tQ a b k)) = evS (ptA pts (flI a + (k : Int))) (sgA sgs (flI a + (k : Int))) (ptA pts (flI a + (k : Int) + 1)) (e0Q (flI a + (k : Int)) a + u * (e1Q (flI a + (k : Int)) b - e0Q (flI a + (k : Int)) a)) := by
  obtain ⟨h1, h2, h3, h4, h5⟩ := tQ_seg h hk
  have z0 := tQ_zb ha hb (Nat.le_of_lt hk)
  have z1 := tQ_zb ha hb hk
  have zt : Tl (tQ a b k + u * (tQ a b (k + 1) - tQ a b k)) := by
    have zm : Zb (u * (tQ a b (k + 1) - tQ a b k)) 180 108000 := zb_mul zu (zb_sub z1 z0)
    have z0' : Zb (tQ a b k) 180 54000 := zb_up 3 z0
    exact (zb_up 42 (zb_add z0' zm)).le (by decide)
  refine ⟨zt, ?_⟩
  generalize tQ a b k = t0 at *
  generalize tQ a b (k + 1) = t1 at *
  generalize flI a + (k : Int) = n at *
  generalize e0Q n a = x at *
  generalize e1Q n b = y at *
  have et : t0 + u * (t1 - t0) = (n : Rat) + (x + u * (y - x)) := by rw [h1, h2]; grind
  have p0 : 0 < u * (y - x) := Rat.mul_pos u0 (by grind)
  have p1 : u * (y - x) < y - x := by
    have := Rat.mul_pos (show 0 < 1 - u by grind) (show 0 < y - x by grind)
    grind
  have g1 : (n : Rat) ≤ t0 + u * (t1 - t0) := by rw [et]; grind
  have g2 : t0 + u * (t1 - t0) < ((n + 1 : Int) : Rat) := by rw [et, n1_r]; grind
  refine ⟨fl_n g1 g2, ?_⟩
  rw [onQ_in pts sgs g1 (Rat.le_of_lt g2), et]
  congr 1
  grind
def sp__law_is_part (K : PySem.W.Frag) : Sp := fun vs H Q _ => ∃ (v w : V) (D : Addr) (ts : List V) (pts : List PQ) (sgs : List (Option (PQ × PQ))) (cyc : Bool) (a b : Rat), vs = [v, w, .ref D] ∧ Dp K H v (pathQ (ptsP pts sgs a b) (sgsP pts sgs a b) false) ∧ Dp K H w (pathQ pts sgs cyc) ∧ PathB pts sgs cyc 5 ∧ H D = some (.lst ts) ∧ DpAll K H ts ((timesQ a b).map qD) ∧ Td a ∧ Td b ∧ a ≤ b ∧ Wi cyc sgs.length a ∧ Wi cyc sgs.length b ∧ ∀ H', Q (.bl true) H'
theorem times_lenP (pts : List PQ) (sgs : List (Option (PQ × PQ))) {a b : Rat} (h : a ≤ b) : (sgsP pts sgs a b).length + 1 = (timesQ a b).length := by
  by_cases hab : a = b
  · have c1 : cntQ a b - 1 = 0 := by
      have h1 : a < ((flI a + 1 : Int) : Rat) := fl_iff'.mp (by omega)
      have h2 : clI b ≤ flI a + 1 := cl_iff.mpr (by rw [← hab]; exact Rat.le_of_lt h1)
      unfold cntQ
      omega
    unfold sgsP timesQ midT
    rw [if_pos hab, if_pos hab, c1]
    rfl
  · have hlt : a < b := by
      rcases Rat.le_iff_lt_or_eq.mp h with z | z
      · exact z
      · exact absurd z hab
    rw [times_len hlt]
    unfold sgsP
    rw [if_neg hab, List.length_map, List.length_range]
theorem shaped_ptt (pts : List PQ) : SeqAt.shaped (.tuple (pts.map ptQ)) = true := by
  obtain ⟨h1, h2⟩ := shaped_pqs pts
  unfold SeqAt.shaped
  rw [Bool.and_eq_true]
  refine ⟨?_, decide_eq_true ?_⟩
  · show PyData.canLayAll0 (pts.map ptQ) = true
    exact h1
  · show PyData.depthAll (pts.map ptQ) + 1 ≤ 64
    omega
theorem pcS_none {a b : PQ} {s : Option (PQ × PQ)} {x y : Rat} : pcS a s b x y = none ↔ s = none := by
  match s with
  | none => exact ⟨fun _ => rfl, fun _ => rfl⟩
  | some (c, d) => exact ⟨fun z => (by cases z), fun z => (by cases z)⟩
theorem z_forLE5 {K : PySem.W.Frag} {tl : TE} {g : TG} {tb : TS} {n : L2.St → Hp → Prop} {r : VK} {b c : L2.St → Hp → Prop} {σ : L2.St} {H : Hp} (h : tl σ H fun x H1 => tFor (iList K (tC x)) g tb ⟨n, r, b, c⟩ σ H1) : tFor (iList K tl) g tb ⟨n, r, b, c⟩ σ H := h
section
theorem ok__law_is_part {P : Program} {w : World} {K : PySem.W.Frag} {mg : Str → Option Value} {base : Heap} {A : Nat → Addr} {D : Nat → FuncData} (T : Txt K mg A D base) : FnOk P w K mg base (L2.CX P w) 6 (A 43) (D 43) ["actual", "path", "times"] (sp__law_is_part K) := by
  refine T.F__law_is_part.okX sc__law_is_part (fun vs H Q E h => ?_) (fun cdv A' outer s H vs Q E hr h => ?_)
  · obtain ⟨v, w, D, ts, pts, sgs, cyc, a0, b0, rfl, _⟩ := h
    rfl
  obtain ⟨v, w, D, ts, pts, sgs, cyc, a0, b0, rfl, dv, dP, pb, hD, at', ha, hb, hle, wa, wb, q⟩ := h
  refine ⟨_, (pss_cons (ps_if (PW.pt (pw_or (pt_not (pt_val (pe_callB call_isi (by rfl) T.z_isinstance (by decide +kernel) (pa_cons (pv 0) (pa_cons (pe_bltn (v := .ty "tuple") (by rfl) T.z_tuple (by decide +kernel) rfl) pa_nil))))) (pw_or (pt_cmpR op_ne (pe_callB Z.c_len (by rfl) T.z_len (by decide +kernel) (pa_cons (pv 0) pa_nil)) pe_int (nomark _)) (pw_or1 (pt_cmpR L2.op_notBl (pe_ix ix_tup (pv 0) pe_int (fun _ _ => rfl)) pe_bl (nomark _))))))
  (pss_one (ps_ret pe_bl))
  pss_nil)
  (pss_cons (ps_if (PW.pt (pw_or (pt_not (pt_val (pe_callB call_isi (by rfl) T.z_isinstance (by decide +kernel) (pa_cons (pe_ix ix_tup (pv 0) pe_int (fun _ _ => rfl)) (pa_cons (pe_bltn (v := .ty "tuple") (by rfl) T.z_tuple (by decide +kernel) rfl) pa_nil))))) (pw_or1 (pt_not (pt_val (pe_callB call_isi (by rfl) T.z_isinstance (by decide +kernel) (pa_cons (pe_ix ix_tup (pv 0) pe_int (fun _ _ => rfl)) (pa_cons (pe_bltn (v := .ty "tuple") (by rfl) T.z_tuple (by decide +kernel) rfl) pa_nil))))))))
  (pss_one (ps_ret pe_bl))
  pss_nil)
  (pss_cons (ps_if (PW.pt (pw_or (pt_cmpR (op_neD hr.units) (pe_ix ix_tup (pv 0) pe_int (fun _ _ => rfl)) (pe_callTy Z.c_tupOf (by rfl) T.z_tuple (by decide +kernel) (pa_cons (pe_lc (own := [("time", 3)]) (g := gName 3) (tt := tYes) rfl sc__law_is_part.nd (pi_list (pv 2)) (blkOk_by (N := ["actual", "path", "times", "time", "k", "index", "own", "u"]) (sc := defScope s__law_is_part) (by decide +kernel)) (fun _ _ _ _ _ => pg_name (i := 3) sc__law_is_part.nd rfl (Or.inl rfl)) (fun _ _ _ _ _ => pts_nil) (fun _ _ _ _ _ => (pe_call (ok__law_on_path T) (hr.mono (by decide)) (by rfl) T.m__law_on_path T.F__law_on_path.kp T.b__law_on_path .nil passL (pa_cons (pv 1) (pa_cons (pv 3) pa_nil))))) pa_nil)) (nomark _)) (pw_or1 (pt_cmpR op_ne (pe_callB Z.c_len (by rfl) T.z_len (by decide +kernel) (pa_cons (pe_ix ix_tup (pv 0) pe_int (fun _ _ => rfl)) pa_nil)) (pe_op op_sub (pe_callB Z.c_len (by rfl) T.z_len (by decide +kernel) (pa_cons (pv 2) pa_nil)) pe_int) (nomark _)))))
  (pss_one (ps_ret pe_bl))
  pss_nil)
  (pss_cons (ps_for (passes_of rfl) rfl (pi_range1 (by rfl) T.z_range (pa_cons (pe_op op_sub (pe_callB Z.c_len (by rfl) T.z_len (by decide +kernel) (pa_cons (pv 2) pa_nil)) pe_int) pa_nil)) (pg_name (i := 4) sc__law_is_part.nd rfl (.inl rfl))
  (pss_cons (ps_set (i := 5) sc__law_is_part.nd rfl (.inl rfl) (pe_op op_fdivW (pe_ix ix_tup (pe_ix ix_list (pv 2) (pv 4) (fun _ _ => rfl)) pe_int (fun _ _ => rfl)) (pe_ix ix_tup (pe_ix ix_list (pv 2) (pv 4) (fun _ _ => rfl)) pe_int (fun _ _ => rfl))))
  (pss_cons (ps_set (i := 6) sc__law_is_part.nd rfl (.inl rfl) (pe_ix ix_tup (pe_ix ix_tup (pv 1) pe_int (fun _ _ => rfl)) (pe_op op_mod (pe_callTy Z.c_int (by rfl) T.z_int (by decide +kernel) (pa_cons (pv 5) pa_nil)) (pe_callB Z.c_len (by rfl) T.z_len (by decide +kernel) (pa_cons (pe_ix ix_tup (pv 1) pe_int (fun _ _ => rfl)) pa_nil))) (fun _ _ => rfl)))
  (pss_cons (ps_if (pt_cmpR op_ne (pe_cmpR Z.op_isN1 (pe_ix ix_tup (pe_ix ix_tup (pv 0) pe_int (fun _ _ => rfl)) (pv 4) (fun _ _ => rfl)) pe_non (nomark _)) (pe_cmpR Z.op_isN1 (pv 6) pe_non (nomark _)) (nomark _))
  (pss_one (ps_ret pe_bl))
  pss_nil)
  (pss_one (ps_for (passes_of rfl) rfl (pi_list (pe_lst (pa_cons (pe_tup (pa_cons pe_int (pa_cons pe_int pa_nil))) (pa_cons (pe_tup (pa_cons pe_int (pa_cons pe_int pa_nil))) pa_nil)))) (pg_name (i := 7) sc__law_is_part.nd rfl (.inl rfl))
  (pss_cons (ps_set (i := 3) sc__law_is_part.nd rfl (.inl rfl) (pe_call (ok__law_sum T) (hr.mono (by decide)) (by rfl) T.m__law_sum T.F__law_sum.kp T.b__law_sum .nil (passes_call (takes_of rfl rfl rfl rfl) (fun _ _ _ _ h => h)) (pa_cons (pe_ix ix_list (pv 2) (pv 4) (fun _ _ => rfl)) (pa_cons (pe_call (ok__law_product T) (hr.mono (by decide)) (by rfl) T.m__law_product T.F__law_product.kp T.b__law_product .nil (passes_call (takes_of rfl rfl rfl rfl) (fun _ _ _ _ h => h)) (pa_cons (pv 7) (pa_cons (pe_call (ok__law_difference T) (hr.mono (by decide)) (by rfl) T.m__law_difference T.F__law_difference.kp T.b__law_difference .nil (passes_call (takes_of rfl rfl rfl rfl) (fun _ _ _ _ h => h)) (pa_cons (pe_ix ix_list (pv 2) (pe_op op_add (pv 4) pe_int) (fun _ _ => rfl)) (pa_cons (pe_ix ix_list (pv 2) (pv 4) (fun _ _ => rfl)) pa_nil))) pa_nil))) pa_nil))))
  (pss_one (ps_if (pt_cmpR (op_neD hr.units) (pe_call (ok__law_on_segment T) (hr.mono (by decide)) (by rfl) T.m__law_on_segment T.F__law_on_segment.kp T.b__law_on_segment .nil (passes_call (takes_of rfl rfl rfl rfl) (fun _ _ _ _ h => h)) (pa_cons (pe_ix ix_tup (pe_ix ix_tup (pv 0) pe_int (fun _ _ => rfl)) (pv 4) (fun _ _ => rfl)) (pa_cons (pe_ix ix_tup (pe_ix ix_tup (pv 0) pe_int (fun _ _ => rfl)) (pv 4) (fun _ _ => rfl)) (pa_cons (pe_ix ix_tup (pe_ix ix_tup (pv 0) pe_int (fun _ _ => rfl)) (pe_op op_add (pv 4) pe_int) (fun _ _ => rfl)) (pa_cons (pv 7) pa_nil))))) (pe_call (ok__law_on_path T) (hr.mono (by decide)) (by rfl) T.m__law_on_path T.F__law_on_path.kp T.b__law_on_path .nil (passes_call (takes_of rfl rfl rfl rfl) (fun _ _ _ _ h => h)) (pa_cons (pv 1) (pa_cons (pv 3) pa_nil))) (nomark _))
  (pss_one (ps_ret pe_bl))
  pss_nil)))))))))
  (pss_one (ps_ret pe_bl)))))), ?_⟩
  obtain ⟨ka, kk, kg, kvs, kss, rfl, hv, hk, hg, ak, ag⟩ := dp_path dv
  obtain ⟨ks, ss, P, akp, agp, kl, sl⟩ := pathOk_of dP pb
  obtain ⟨pa, pk, pg, rfl, hA, hK, hG⟩ := P.at_
  have n1 := pb.n1
  have tl : ts.length = (timesQ a0 b0).length := by rw [dpa_len at', List.length_map]
  have gl : kss.length = (sgsP pts sgs a0 b0).length := by rw [dpa_len ag, List.length_map]
  have lP := times_lenP pts sgs hle
  have hDS : SqL K H D ts := .inl (.inl hD)
  walk_at "z"
  refine ⟨false, false, rfl, rfl, ?_⟩
  walk_at "z"
  have Ec : ((timesQ a0 b0).map (onQ pts sgs)).map ptQ = (ptsP pts sgs a0 b0).map ptQ := by rw [times_on pts sgs hle]
  refine z_lcD (K := K) (G := fun H => SqL K H D ts) (((timesQ a0 b0).map (onQ pts sgs)).map ptQ) walk_list (by rw [List.length_map, List.length_map, tl]) (by have := ptsP_len pts sgs a0 b0; have h1 := ha.fl; have h2 := hb.fl; have : cntQ a0 b0 ≤ 66 := (by unfold cntQ; omega); omega) (tup_pqs _) (fun R r => Cw.z_iList (fun S h => by walk_at "z"; exact h) hDS r) (fun H' s => (Tg.SameX.of s).seqL hDS)
    (fun i x d H5 H6 R hd hi s5 y hR => ?_) fun D2 acc2 H5 f5 s5 h5 l5 a5 => ?_
  · obtain ⟨rfl, hx⟩ := y
    obtain ⟨t, ht⟩ : ∃ z, (timesQ a0 b0)[i]? = some z := ⟨_, List.getElem?_eq_getElem (by omega)⟩
    rw [List.getElem?_map, List.getElem?_map, ht] at hd
    cases hd
    obtain ⟨x', hx', dx⟩ := dpa_get (dp_monoA s5 at') (show ((timesQ a0 b0).map qD)[i]? = some (qD t) by rw [List.getElem?_map, ht]; rfl)
    rw [hx] at hx'
    cases hx'
    obtain ⟨b1, b2⟩ := times_in ha hb wa wb (List.mem_of_getElem? ht)
    refine ⟨rfl, ?_⟩
    walk_at "z"
    exact ⟨_, _, pts, sgs, cyc, t, rfl, dp_mono s5 dP, pb, dx, b1, b2, fun v' H7 s7 d7 => hR v' H7 s7 d7⟩
  rw [Ec] at a5
  walk_at "z"
  refine z_tupOf (.inl (.inl h5)) fun p6 H6 f6 s6 h6 => ?_
  walk_at "z"
  have s06 := s5.trans s6
  have hk6 := seqT s06 hk
  have hg6 := seqT s06 hg
  have hv6 := seqT s06 hv
  have hD6 := s06 _ _ hD
  have hDS6 : SqL K H6 D ts := .inl (.inl hD6)
  refine z_neSame (d := .tuple ((ptsP pts sgs a0 b0).map ptQ)) (.tup hk6 (dp_monoA s06 ak)) (.tup (.inl (.inl h6)) (dp_monoA s6 a5)) (shaped_ptt _) ?_
  walk_at "z"
  rw [if_neg (by rw [decide_eq_false (fun z => z (by omega))]; exact Bool.false_ne_true)]
  walk_at "z"
  have Sm : Same H H6 := s06
  clear s5 s6 f5 f6 h5 h6 a5 l5 s06
  refine z_forR1 kss.length (by have := ptsP_len pts sgs a0 b0; have h1 := ha.fl; have h2 := hb.fl; have : cntQ a0 b0 ≤ 66 := (by unfold cntQ; omega); omega) (fun R r => by walk_at "z"; rw [show (ts.length : Int) - 1 = ((kss.length : Nat) : Int) by omega]; exact r) (fun i σ' H' => Same H6 H' ∧ ∃ (x3 x4 x5 x6 x7 : Option V), σ' = [some (.ref ka), some (.ref pa), some (.ref D), x3, x4, x5, x6, x7]) ⟨fun _ _ z => z, _, _, _, _, _, rfl⟩ ?_ ?_
  · rintro i σ' H7 hi ⟨s7, x3, x4, x5, x6, x7, rfl⟩
    have hne : a0 ≠ b0 := fun z => by
      have : (sgsP pts sgs a0 b0).length = 0 := by
        unfold sgsP
        rw [if_pos z]
        rfl
      omega
    have hlt : a0 < b0 := by
      rcases Rat.le_iff_lt_or_eq.mp hle with z | z
      · exact z
      · exact absurd z hne
    have tl2 := times_len hlt
    have hic : i < cntQ a0 b0 := by omega
    have S7 := Sm.trans s7
    obtain ⟨vt, hvt, dvt⟩ := dpa_get (dp_monoA S7 at') (show ((timesQ a0 b0).map qD)[i]? = some (qD (tQ a0 b0 i)) by rw [List.getElem?_map, times_at hlt (Nat.le_of_lt hic)]; rfl)
    obtain ⟨vu, hvu, dvu⟩ := dpa_get (dp_monoA S7 at') (show ((timesQ a0 b0).map qD)[i + 1]? = some (qD (tQ a0 b0 (i + 1))) by rw [List.getElem?_map, times_at hlt hic]; rfl)
    obtain ⟨vk, hvk, dvk⟩ := dpa_get (dp_monoA S7 ak) (show ((ptsP pts sgs a0 b0).map ptQ)[i]? = some (ptQ (onQ pts sgs (tQ a0 b0 i))) by rw [← times_on pts sgs hle, List.getElem?_map, List.getElem?_map, times_at hlt (Nat.le_of_lt hic)]; rfl)
    obtain ⟨vl, hvl, dvl⟩ := dpa_get (dp_monoA S7 ak) (show ((ptsP pts sgs a0 b0).map ptQ)[i + 1]? = some (ptQ (onQ pts sgs (tQ a0 b0 (i + 1)))) by rw [← times_on pts sgs hle, List.getElem?_map, List.getElem?_map, times_at hlt hic]; rfl)
    obtain ⟨vs, hvs, dvs⟩ := dpa_get (dp_monoA S7 ag) (show ((sgsP pts sgs a0 b0).map sgQ)[i]? = some (sgQ (pieceQ pts sgs a0 b0 (flI a0 + (i : Int)))) by
      unfold sgsP
      rw [if_neg hne, List.map_map, List.getElem?_map, List.getElem?_range hic]
      rfl)
    obtain ⟨t1, t2, t3, t4, t5⟩ := tQ_seg hlt hic
    have inn : Inn cyc sgs.length (flI a0 + (i : Int)) := wi_seg wa wb (by omega) (by have := cnt_pos hlt; omega)
    have m1 := inn.1
    obtain ⟨wg, hwg, dwg, mg'⟩ := at_sg (dp_monoA S7 agp) m1 (flI a0 + (i : Int))
    obtain ⟨_, _, _, mA⟩ := at_pt akp n1 (flI a0 + (i : Int))
    obtain ⟨_, _, _, mB⟩ := at_pt akp n1 (flI a0 + (i : Int) + 1)
    have z0 := e0_zb (n := flI a0 + (i : Int)) ha.1 t3 (by grind)
    have z1 := e1_zb (n := flI a0 + (i : Int)) hb.1 (by grind) t5
    have nm : ∀ m : Int, ((flI a0 + (i : Int) : Int) : Rat) + e0Q (flI a0 + (i : Int)) a0 - ((flI a0 + (i : Int) : Int) : Rat) = e0Q (flI a0 + (i : Int)) a0 := fun _ => by grind
    have nm' : ((flI a0 + (i : Int) : Int) : Rat) + e1Q (flI a0 + (i : Int)) b0 - ((flI a0 + (i : Int) : Int) : Rat) = e1Q (flI a0 + (i : Int)) b0 := by grind
    have fl0 : flI (tQ a0 b0 i) = flI a0 + (i : Int) := fl_n (by rw [t1]; grind) (by rw [t1, n1_r]; grind)
    have o0 : onQ pts sgs (tQ a0 b0 i) = evS (ptA pts (flI a0 + (i : Int))) (sgA sgs (flI a0 + (i : Int))) (ptA pts (flI a0 + (i : Int) + 1)) (e0Q (flI a0 + (i : Int)) a0) := by
      rw [onQ_in pts sgs (n := flI a0 + (i : Int)) (by rw [t1]; grind) (by rw [t1, n1_r]; grind), t1, nm 0]
    have o1 : onQ pts sgs (tQ a0 b0 (i + 1)) = evS (ptA pts (flI a0 + (i : Int))) (sgA sgs (flI a0 + (i : Int))) (ptA pts (flI a0 + (i : Int) + 1)) (e1Q (flI a0 + (i : Int)) b0) := by
      rw [onQ_in pts sgs (n := flI a0 + (i : Int)) (by rw [t2]; grind) (by rw [t2, n1_r]; grind), t2, nm']
    rw [o0] at dvk
    rw [o1] at dvl
    have zq0 := tQ_zb ha hb (Nat.le_of_lt hic)
    have zq1 := tQ_zb ha hb hic
    have mt13 := mid_time ha hb hlt hic (u := t13) (by decide +kernel) (by decide +kernel) ⟨1, by decide +kernel, by decide⟩ (pts := pts) (sgs := sgs)
    have mt23 := mid_time ha hb hlt hic (u := t23) (by decide +kernel) (by decide +kernel) ⟨2, by decide +kernel, by decide⟩ (pts := pts) (sgs := sgs)
    obtain ⟨pt, rfl, hpt⟩ := dp_q dvt
    have hD7 := s7 _ _ hD6
    have hDS7 : SqL K H7 D ts := .inl (.inl hD7)
    have hv7 := seqT s7 hv6
    have hk7 := seqT s7 hk6
    have hg7 := seqT s7 hg6
    have hA7 := seqT S7 hA
    have hG7 := seqT S7 hG
    have hz := (tQ a0 b0 i).den_nz
    have bq0 := (zq0.bd (by decide))
    have bq01 := bq0.1
    have bq02 := bq0.2
    walk_at "z"
    refine z_ixL hDS7 (atI_nat hvt) ?_
    walk_at "z"
    refine z_ixL hDS7 (atI_nat hvt) ?_
    walk_at "z"
    refine z_I (wide_div (b := 200) (by omega) (by omega) (by decide) (by decide)) ?_
    rw [show (tQ a0 b0 i).num / ((tQ a0 b0 i).den : Int) = flI a0 + (i : Int) from fl0]
    walk_at "z"
    rw [sl]
    refine z_ixT hG7 (show atI ss ((flI a0 + (i : Int)) % (sgs.length : Int)) = some wg by rw [← Int.toNat_of_nonneg (Int.emod_nonneg (flI a0 + (i : Int)) (show (sgs.length : Int) ≠ 0 by omega))]; exact atI_nat hwg) ?_
    walk_at "z"
    refine z_ixT hg7 (atI_nat hvs) ?_
    walk_at "z"
    have hdec : decide (vs = V.non) = decide (wg = V.non) := by
      unfold pieceQ at dvs
      revert dvs dwg
      cases sgA sgs (flI a0 + (i : Int)) with
      | none =>
        intro dvs dwg
        rw [dp_non dvs, dp_non dwg]
      | some cd =>
        intro dvs dwg
        obtain ⟨_, _, _, rfl, _⟩ := dp_t2 dvs
        obtain ⟨_, _, _, rfl, _⟩ := dp_t2 dwg
        rfl
    refine ⟨rfl, ?_⟩
    walk_at "z"
    refine ⟨rfl, ?_⟩
    refine ⟨rfl, ?_⟩
    rw [hdec]
    have hself : ∀ x : Bool, (!decide (V.bl x = V.bl x)) = false := fun x => by simp
    rw [hself]
    walk_at "z"
    refine z_forLE5 ?_
    walk_at "z"
    intro q1 H8 f8 s8 h8
    walk_at "z"
    intro q2 H9 f9 s9 h9
    walk_at "z"
    intro D3 HA fA sA hD3
    have s7A := (s8.trans s9).trans sA
    have x13 : Dp K HA (.ref q1) (qD t13) := dpT2 ((s9.trans sA) _ _ h8)
    have x23 : Dp K HA (.ref q2) (qD t23) := dpT2 (sA _ _ h9)
    have SA := S7.trans s7A
    have s6A := s7.trans s7A
    clear h8 h9 s8 s9 sA f8 f9 fA
    have hD3S : SqL K HA D3 [.ref q1, .ref q2] := .inl (.inl hD3)
    refine z_forL (fun R r => by walk_at "z"; exact r) hD3S (fun j σ' H' => Same HA H' ∧ ∃ (x3 x7 : Option V), σ' = [some (.ref ka), some (.ref pa), some (.ref D), x3, some (.int (i : Int)), some (.int (flI a0 + (i : Int))), some wg, x7]) ⟨fun _ _ z => z, _, _, rfl⟩ (fun j σ' H' _ h => .inl (.inl (h.1 _ _ hD3))) ?_ ?_
    · rintro j x σ' HB hx ⟨sB, y3, y7, rfl⟩
      have SB := SA.trans sB
      have s7B := s7A.trans sB
      obtain ⟨u, dxu, zu, tlu, flu, onu, uTu⟩ : ∃ u : Rat, Dp K HB x (qD u) ∧ Zb u 3 3 ∧ Tl (tQ a0 b0 i + u * (tQ a0 b0 (i + 1) - tQ a0 b0 i)) ∧ flI (tQ a0 b0 i + u * (tQ a0 b0 (i + 1) - tQ a0 b0 i)) = flI a0 + (i : Int) ∧
          onQ pts sgs (tQ a0 b0 i + u * (tQ a0 b0 (i + 1) - tQ a0 b0 i)) = evS (ptA pts (flI a0 + (i : Int))) (sgA sgs (flI a0 + (i : Int))) (ptA pts (flI a0 + (i : Int) + 1)) (e0Q (flI a0 + (i : Int)) a0 + u * (e1Q (flI a0 + (i : Int)) b0 - e0Q (flI a0 + (i : Int)) a0)) ∧ Tu u := by
        match j, hx with
        | 0, hx =>
          cases hx
          exact ⟨t13, dp_mono sB x13, ⟨1, by decide +kernel, by decide⟩, mt13.1, mt13.2.1, mt13.2.2, tu3 ⟨1, by decide +kernel, by decide⟩⟩
        | 1, hx =>
          cases hx
          exact ⟨t23, dp_mono sB x23, ⟨2, by decide +kernel, by decide⟩, mt23.1, mt23.2.1, mt23.2.2, tu3 ⟨2, by decide +kernel, by decide⟩⟩
        | j + 2, hx => simp at hx
      have hDSB : SqL K HB D ts := .inl (.inl (s7B _ _ hD7))
      walk_at "z"
      have at1 : atI ts ((i : Int) + 1) = some vu := atI_nat (j := i + 1) hvu
      have atk1 : atI kvs ((i : Int) + 1) = some vl := atI_nat (j := i + 1) hvl
      refine z_ixL hDSB (atI_nat hvt) ?_
      walk_at "z"
      refine z_ixL hDSB at1 ?_
      walk_at "z"
      refine z_ixL hDSB (atI_nat hvt) ?_
      walk_at "z"
      have bu : Bl u := zbl zu (by decide) (by decide) (by decide)
      have bt0 : Bl (tQ a0 b0 i) := zbl zq0 (by decide) (by decide) (by decide)
      have bt1 : Bl (tQ a0 b0 (i + 1)) := zbl zq1 (by decide) (by decide) (by decide)
      refine lop (dp_mono s7B dvu) (dp_mono s7B dvt) bt1 bt0 fun r1 HC sC dC => ?_
      walk_at "z"
      refine lop (dp_mono sC dxu) dC bu (zbl (zb_sub zq1 zq0) (by decide) (by decide) (by decide)) fun r2 HD sD dD => ?_
      walk_at "z"
      refine lop (dp_mono ((s7B.trans sC).trans sD) dvt) dD bt0 (zbl (zb_mul zu (zb_sub zq1 zq0)) (by decide) (by decide) (by decide)) fun r3 HE sE dE => ?_
      have sBE := (sC.trans sD).trans sE
      have s7E := s7B.trans sBE
      have hvE := seqT s7E hv7
      have hkE := seqT s7E hk7
      have hgE := seqT s7E hg7
      walk_at "z"
      refine z_ixT hkE (atI_nat hvk) ?_
      walk_at "z"
      refine z_ixT hgE (atI_nat hvs) ?_
      walk_at "z"
      refine z_ixT hkE atk1 ?_
      walk_at "z"
      have e0l : e0Q (flI a0 + (i : Int)) a0 ≤ 1 := by grind
      have e1g : 0 ≤ e1Q (flI a0 + (i : Int)) b0 := by grind
      refine onPQ (dp_mono s7E dvk) (dp_mono s7E dvs) (dp_mono s7E dvl) (dp_mono sBE dxu) (nuE (pb.pb _ mA) (pb.pb _ mB) (pb.sb _ mg') z0 t3 e0l) (nuE (pb.pb _ mA) (pb.pb _ mB) (pb.sb _ mg') z1 e1g t5) (nuPc (pb.pb _ mA) (pb.pb _ mB) (pb.sb _ mg') z0 z1 t3 e0l e1g t5) uTu fun r4 HF sF dF => ?_
      unfold pieceQ at dF
      rw [evS_sub] at dF
      walk_at "z"
      refine ⟨_, _, pts, sgs, cyc, _, rfl, dp_mono ((S7.trans s7E).trans sF) dP, pb, dp_mono sF dE, tlu, fun _ => by rw [flu]; exact inn, fun r5 HG sG dG => ?_⟩
      rw [onu] at dG
      refine z_neSame (dp_mono sG dF) dG (shaped_p _ _) ?_
      walk_at "z"
      exact ⟨((sBE.trans sF).trans sG) |> (sB.trans ·), _, _, rfl⟩
    · rintro σ' HB ⟨sB, y3, y7, rfl⟩
      walk_at "z"
      exact ⟨s6A.trans sB, _, _, _, _, _, rfl⟩
  · rintro σ' H7 ⟨s7, x3, x4, x5, x6, x7, rfl⟩
    walk_at "z"
    exact q _
end
def sp__law_refused (K : PySem.W.Frag) (P P2 : Addr) : Sp := fun vs H Q _ => ∃ (v w u : V) (pts : List PQ) (sgs : List (Option (PQ × PQ))) (cyc : Bool) (s e : Rat), vs = [v, w, u] ∧ Dp K H v (pathQ pts sgs cyc) ∧ PathB pts sgs cyc 5 ∧ Dp K H w (qD s) ∧ Dp K H u (qD e) ∧ Tm s ∧ Tm e ∧ GxR.TabG H P ∧ GxR.TabG H P2 ∧
  hlQ cyc sgs.length (if e < s then e else s) ≠ hlQ cyc sgs.length (if e < s then s else e) ∧ 24 < cntQ (hlQ cyc sgs.length (if e < s then e else s)) (hlQ cyc sgs.length (if e < s then s else e)) + 1 ∧ ∀ H', Q (.bl true) H'
def sp_law (K : PySem.W.Frag) (P P2 : Addr) : Sp := fun vs H Q _ => ∃ (a : Addr) (ns : List Int), vs = [.ref a] ∧ SqL K H a (ns.map V.int) ∧ ns.length ≤ 63 ∧ GxR.TabG H P ∧ GxR.TabG H P2 ∧ ∀ H', Q (.bl true) H'
theorem clamp_td {m : Nat} {t : Rat} (h : Td t) (hm : m ≤ 5) : Td (clampQ m t) := by
  refine ⟨clamp_tm h.1 hm, ?_⟩
  have m0 : ((0 : Int) : Rat) ≤ (m : Rat) := by exact_mod_cast Int.natCast_nonneg m
  have m60 : (m : Rat) ≤ ((60 : Int) : Rat) := by
    have : ((m : Int) : Rat) ≤ ((60 : Int) : Rat) := by exact_mod_cast (show (m : Int) ≤ 60 by omega)
    exact this
  have h6 : ((-6 : Int) : Rat) ≤ ((0 : Int) : Rat) := by exact_mod_cast (show (-6 : Int) ≤ 0 by decide)
  have h60 : ((0 : Int) : Rat) ≤ ((60 : Int) : Rat) := by exact_mod_cast (show (0 : Int) ≤ 60 by decide)
  have z0 : ((0 : Int) : Rat) = 0 := rfl
  obtain ⟨_, h1, h2⟩ := h
  unfold clampQ
  split
  · rw [z0] at h6 h60
    exact ⟨h6, h60⟩
  · split
    · exact ⟨Rat.le_trans h6 m0, m60⟩
    · exact ⟨h1, h2⟩
theorem hl_td {cyc : Bool} {m : Nat} {t : Rat} (h : Td t) (hm : m ≤ 5) : Td (hlQ cyc m t) := by
  unfold hlQ
  split
  · exact h
  · exact clamp_td h hm
theorem hl_mono {cyc : Bool} {m : Nat} {s e : Rat} (h : s ≤ e) : hlQ cyc m s ≤ hlQ cyc m e := by
  unfold hlQ
  split
  · exact h
  · exact clamp_mono h
theorem hl_wi {cyc : Bool} {m : Nat} {t : Rat} (h : Tm t) (hm : cyc = true → 1 ≤ m) : Wi cyc m (hlQ cyc m t) := by
  unfold hlQ
  cases cyc with
  | true => exact .inl ⟨rfl, hm rfl⟩
  | false => exact clamp_wi h
theorem map_take1 {α β : Type} (f : α → β) {l : List α} {i : Nat} {a : α} (h : l[i]? = some a) : (l.map f).take (i + 1) = (l.map f).take i ++ [f a] := by
  rw [List.take_add_one, List.getElem?_map, h]
  rfl
theorem tup_take5 (sgs : List (Option (PQ × PQ))) (i : Nat) : tupOnlyA ((sgs.map sgQ).take i) = true := by
  rw [← List.map_take]
  exact tup_sqs _
section
theorem ok__law_refused {P : Program} {w : World} {K : PySem.W.Frag} {mg : Str → Option Value} {base : Heap} {A : Nat → Addr} {D : Nat → FuncData} (T : Txt K mg A D base) : FnOk P w K mg base (L2.CX P w) 21 (A 42) (D 42) ["path", "start", "end"] (sp__law_refused K (A 48) (A 46)) := by
  refine T.F__law_refused.okX sc__law_refused (fun vs H Q E h => ?_) (fun cdv A' outer s H vs Q E hr h => ?_)
  · obtain ⟨v, w, u, pts, sgs, cyc, s0, e, rfl, _⟩ := h
    rfl
  obtain ⟨v, w, u, pts, sgs, cyc, s0, e, rfl, dP, pb, ds, de, bs, be, tG, tG2, h1, h2, q⟩ := h
  refine ⟨_, (pss_cons (ps_try_as (i := 3) (Wout := fun _ _ _ _ => False) rfl rfl sc__law_refused.nd rfl rfl ⟨rfl, by decide, .inl T.x_TooMany.g⟩ takes0 (fun W pn xe tk PO => (pss_one (ps_expr (pe_callS (ok_subpath T) (hr.mono (by decide)) (by rfl) T.m_subpath T.F_subpath.kp T.b_subpath (fun σ => passAt tk σ) (by exact (pa_cons (pv 0) (pa_cons (pv 1) (pa_cons (pv 2) pa_nil))))))))
  (fun a oe cls d pn hz hf => (pss_one (ps_ret (pe_callB (Z.call_isE hz hf) (by rfl) T.z_isinstance (by decide +kernel) (pa_cons (pv 3) (pa_cons (Z.pe_globR T.x_FontError.g) pa_nil)))))))
  (pss_one (ps_ret pe_bl))), ?_⟩
  walk_at "z"
  refine ⟨v, w, u, pts, sgs, cyc, s0, e, rfl, dP, pb, ds, de, bs, be, tG, tG2, fun _ _ H' => ?_, fun h => ?_⟩
  · refine z_exc (exm T.x_TooMany T.e_TooMany_TooMany) fun a ha => ?_
    walk_at "z"
    refine z_isEr T.x_TooMany.c (kit_own T.x_FontError T.e_TooMany_FontError T.e_FontError_FontError) ?_
    exact q _
  · rcases h with h | h
    · exact absurd h h1
    · exact absurd h (by omega)
theorem ok_law {P : Program} {w : World} {K : PySem.W.Frag} {mg : Str → Option Value} {base : Heap} {A : Nat → Addr} {D : Nat → FuncData} (T : Txt K mg A D base) : FnOk P w K mg base CX0 22 (A 44) (D 44) ["script"] (sp_law K (A 46) (A 48)) := by
  refine T.F_law.ok sc_law (fun vs H Q E h => ?_) (fun cdv A' outer s H vs Q E hr h => ?_)
  · obtain ⟨l, ns, rfl, _⟩ := h
    rfl
  obtain ⟨l, ns, rfl, hS, _, tG2, tG, q⟩ := h
  refine ⟨_, (pss_cons (ps_set (i := 1) sc_law.nd rfl (.inl rfl) (pe_call (ok__law_path T) (hr.mono (by decide)) (by rfl) T.m__law_path T.F__law_path.kp T.b__law_path .nil passL (pa_cons (pe_call (ok__law_stream T) (hr.mono (by decide)) (by rfl) T.m__law_stream T.F__law_stream.kp T.b__law_stream .nil passL (pa_cons (pe_call (ok__law_cell T) (hr.mono (by decide)) (by rfl) T.m__law_cell T.F__law_cell.kp T.b__law_cell .nil passL (pa_cons (pv 0) (pa_cons pe_int pa_nil))) pa_nil)) (pa_cons pe_int pa_nil))))
  (pss_cons (ps_set (i := 2) sc_law.nd rfl (.inl rfl) (pe_call (ok__law_stream T) (hr.mono (by decide)) (by rfl) T.m__law_stream T.F__law_stream.kp T.b__law_stream .nil passL (pa_cons (pe_call (ok__law_cell T) (hr.mono (by decide)) (by rfl) T.m__law_cell T.F__law_cell.kp T.b__law_cell .nil passL (pa_cons (pv 0) (pa_cons pe_int pa_nil))) pa_nil)))
  (pss_cons (ps_set (i := 3) sc_law.nd rfl (.inl rfl) (pe_call (ok__law_time T) (hr.mono (by decide)) (by rfl) T.m__law_time T.F__law_time.kp T.b__law_time .nil passL (pa_cons (pv 2) pa_nil)))
  (pss_cons (ps_set (i := 4) sc_law.nd rfl (.inl rfl) (pe_call (ok__law_time T) (hr.mono (by decide)) (by rfl) T.m__law_time T.F__law_time.kp T.b__law_time .nil passL (pa_cons (pv 2) pa_nil)))
  (pss_cons (ps_set (i := 5) sc_law.nd rfl (.inl rfl) (pe_call (ok__law_less T) (hr.mono (by decide)) (by rfl) T.m__law_less T.F__law_less.kp T.b__law_less .nil passL (pa_cons (pv 4) (pa_cons (pv 3) pa_nil))))
  (pss_cons (ps_set (i := 6) sc_law.nd rfl (.inl rfl) (pe_ix ix_list (pe_lst (pa_cons (pv 3) (pa_cons (pv 4) pa_nil))) (pe_callTy Z.c_int (by rfl) T.z_int (by decide +kernel) (pa_cons (pv 5) pa_nil)) (fun _ _ => rfl)))
  (pss_cons (ps_set (i := 7) sc_law.nd rfl (.inl rfl) (pe_ix ix_list (pe_lst (pa_cons (pv 4) (pa_cons (pv 3) pa_nil))) (pe_callTy Z.c_int (by rfl) T.z_int (by decide +kernel) (pa_cons (pv 5) pa_nil)) (fun _ _ => rfl)))
  (Evl.pss_cut (ps_if (pt_not (pt_val (pe_ix ix_tup (pv 1) pe_int (fun _ _ => rfl))))
  (pss_cons (ps_set (i := 8) sc_law.nd rfl (.inl rfl) (pe_tup (pa_cons (pe_callB Z.c_len (by rfl) T.z_len (by decide +kernel) (pa_cons (pe_ix ix_tup (pv 1) pe_int (fun _ _ => rfl)) pa_nil)) (pa_cons pe_int pa_nil))))
  (pss_cons (ps_set (i := 6) sc_law.nd rfl (.inl rfl) (pe_ix ix_list (pe_lst (pa_cons (pe_ix ix_list (pe_lst (pa_cons (pv 6) (pa_cons (pv 8) pa_nil))) (pe_callTy Z.c_int (by rfl) T.z_int (by decide +kernel) (pa_cons (pe_call (ok__law_less T) (hr.mono (by decide)) (by rfl) T.m__law_less T.F__law_less.kp T.b__law_less .nil passL (pa_cons (pv 8) (pa_cons (pv 6) pa_nil))) pa_nil)) (fun _ _ => rfl)) (pa_cons (pe_tup (pa_cons pe_int (pa_cons pe_int pa_nil))) pa_nil))) (pe_callTy Z.c_int (by rfl) T.z_int (by decide +kernel) (pa_cons (pe_cmpR op_lt (pe_ix ix_tup (pv 6) pe_int (fun _ _ => rfl)) pe_int (nomark _)) pa_nil)) (fun _ _ => rfl)))
  (pss_one (ps_set (i := 7) sc_law.nd rfl (.inl rfl) (pe_ix ix_list (pe_lst (pa_cons (pe_ix ix_list (pe_lst (pa_cons (pv 7) (pa_cons (pv 8) pa_nil))) (pe_callTy Z.c_int (by rfl) T.z_int (by decide +kernel) (pa_cons (pe_call (ok__law_less T) (hr.mono (by decide)) (by rfl) T.m__law_less T.F__law_less.kp T.b__law_less .nil passL (pa_cons (pv 8) (pa_cons (pv 7) pa_nil))) pa_nil)) (fun _ _ => rfl)) (pa_cons (pe_tup (pa_cons pe_int (pa_cons pe_int pa_nil))) pa_nil))) (pe_callTy Z.c_int (by rfl) T.z_int (by decide +kernel) (pa_cons (pe_cmpR op_lt (pe_ix ix_tup (pv 7) pe_int (fun _ _ => rfl)) pe_int (nomark _)) pa_nil)) (fun _ _ => rfl))))))
  pss_nil)
  (pss_cons (ps_set (i := 9) sc_law.nd rfl (.inl rfl) (pe_call (ok__law_times T) (hr.mono (by decide)) (by rfl) T.m__law_times T.F__law_times.kp T.b__law_times .nil passL (pa_cons (pv 6) (pa_cons (pv 7) pa_nil))))
  (pss_cons (ps_if (pt_cmpR op_gt (pe_callB Z.c_len (by rfl) T.z_len (by decide +kernel) (pa_cons (pv 9) pa_nil)) pe_int (nomark _))
  (pss_one (ps_ret (pe_call (ok__law_refused T) (hr.mono (by decide)) (by rfl) T.m__law_refused T.F__law_refused.kp T.b__law_refused .nil passL (pa_cons (pv 1) (pa_cons (pv 3) (pa_cons (pv 4) pa_nil))))))
  pss_nil)
  (pss_cons (ps_set (i := 10) sc_law.nd rfl (.inl rfl) (pe_call (ok_subpath T) (hr.mono (by decide)) (by rfl) T.m_subpath T.F_subpath.kp T.b_subpath .nil passL (pa_cons (pv 1) (pa_cons (pv 3) (pa_cons (pv 4) pa_nil)))))
  (Evl.pss_cut (ps_if (pt_val (pv 5))
  (pss_cons (ps_if (PW.pt (pw_or (pt_not (pt_val (pe_callB call_isi (by rfl) T.z_isinstance (by decide +kernel) (pa_cons (pv 10) (pa_cons (pe_bltn (v := .ty "tuple") (by rfl) T.z_tuple (by decide +kernel) rfl) pa_nil))))) (pw_or1 (pt_cmpR op_ne (pe_callB Z.c_len (by rfl) T.z_len (by decide +kernel) (pa_cons (pv 10) pa_nil)) pe_int (nomark _)))))
  (pss_one (ps_ret pe_bl))
  pss_nil)
  (pss_cons (ps_set (i := 11) sc_law.nd rfl (.inl rfl) (pe_lst pa_nil))
  (pss_cons (ps_for PassesOwn.never rfl (pi_tup (Tg.pe_revT (pe_ix ix_tup (pv 10) pe_int (fun _ _ => rfl)) po_none)) (pg_name (i := 12) sc_law.nd rfl (.inl rfl))
  (pss_one (ps_if (pt_cmpR Z.op_isN1 (pv 12) pe_non (nomark _))
  (pss_one (ps_expr (pe_bm PySem.F.plainAttrs_list PySem.F.slot_list_append PySem.F.type_list_append mt_append (pv 11) (pa_cons pe_non pa_nil))))
  (pss_one (ps_expr (pe_bm PySem.F.plainAttrs_list PySem.F.slot_list_append PySem.F.type_list_append mt_append (pv 11) (pa_cons (pe_tup (pa_cons (pe_ix ix_tup (pv 12) pe_int (fun _ _ => rfl)) (pa_cons (pe_ix ix_tup (pv 12) pe_int (fun _ _ => rfl)) pa_nil))) pa_nil)))))))
  (pss_one (ps_set (i := 10) sc_law.nd rfl (.inl rfl) (pe_tup (pa_cons (Tg.pe_revT (pe_ix ix_tup (pv 10) pe_int (fun _ _ => rfl)) po_none) (pa_cons (pe_callTy Z.c_tupOf (by rfl) T.z_tuple (by decide +kernel) (pa_cons (pv 11) pa_nil)) (pa_cons (pe_ix ix_tup (pv 10) pe_int (fun _ _ => rfl)) pa_nil)))))))))
  pss_nil)
  (pss_one (ps_ret (pe_call (ok__law_is_part T) (hr.mono (by decide)) (by rfl) T.m__law_is_part T.F__law_is_part.kp T.b__law_is_part .nil passL (pa_cons (pv 10) (pa_cons (pv 1) (pa_cons (pv 9) pa_nil)))))))))))))))))), ?_⟩
  walk_at "z"
  refine ⟨l, ns, 0, rfl, hS, fun v => ?_⟩
  walk_at "z"
  refine ⟨v, rfl, fun p H1 a b m hp s1 h1 => ?_⟩
  have S1 := Sd.mk0 hp s1 h1
  walk_at "z"
  refine ⟨p, 5, H, rfl, by decide, by decide, S1, fun vp pts sgs cyc H2 dP pb S2 k2 => ?_⟩
  walk_at "z"
  refine ⟨l, ns, 1, rfl, S2.same.seq hS, fun v2 => ?_⟩
  walk_at "z"
  refine ⟨v2, rfl, fun p2 H3 a2 b2 m2 hp2 s3 h3 => ?_⟩
  have S3 := Sd.mk0 hp2 s3 h3
  walk_at "z"
  refine ⟨p2, H2, rfl, S3, fun vs s0 H4 bs S4 k4 ds => ?_⟩
  walk_at "z"
  refine ⟨p2, H2, rfl, S4, fun ve e0 H5 be S5 k5 de => ?_⟩
  have ds5 := kp_sd S4 k5 rfl ds
  have s25 := S5.same
  have dP5 := dp_mono s25 dP
  have X5 : Tg.SameX H H5 := .of (S2.same.trans s25)
  clear k5 k4 S5 S4 S3 s3 h3 hp2 k2 S1 s1 h1 hp dP s25 ds
  have n1 := pb.n1
  have n2 := pb.n2
  have n3 := pb.n3
  have m5 : sgs.length ≤ 5 := by split at n3 <;> omega
  have mc : cyc = true → 1 ≤ sgs.length := fun z => by
    rw [if_pos z] at n3
    omega
  obtain ⟨pa, pk, pg, ks, ss, rfl, hA, hK, hG, ak, ag⟩ := dp_path dP5
  have sl : ss.length = sgs.length := by rw [dpa_len ag, List.length_map]
  have bl : ∀ {t : Rat}, Td t → Bl t := fun h => ⟨Nat.lt_of_le_of_lt h.1.1 (by decide), Nat.lt_of_le_of_lt h.1.2 (by decide)⟩
  walk_at "z"
  refine ⟨_, _, e0, s0, rfl, de, ds5, bl be, bl bs, ?_⟩
  walk_at "z"
  intro pl H6 f6 s6 h6
  walk_at "z"
  have ds6 := dp_mono s6 ds5
  have de6 := dp_mono s6 de
  obtain ⟨wlo, hlo, dlo⟩ : ∃ w, atI [vs, ve] (if decide (e0 < s0) = true then 1 else 0) = some w ∧ Dp K H6 w (qD (if e0 < s0 then e0 else s0)) := by
    by_cases c : e0 < s0
    · rw [if_pos (decide_eq_true c), if_pos c]
      exact ⟨ve, rfl, de6⟩
    · rw [if_neg (by rw [decide_eq_false c]; exact Bool.false_ne_true), if_neg c]
      exact ⟨vs, rfl, ds6⟩
  refine z_ixL (.inl (.inl h6)) hlo ?_
  walk_at "z"
  intro pl2 H7 f7 s7 h7
  walk_at "z"
  obtain ⟨whi, hhi, dhi⟩ : ∃ w, atI [ve, vs] (if decide (e0 < s0) = true then 1 else 0) = some w ∧ Dp K H7 w (qD (if e0 < s0 then s0 else e0)) := by
    by_cases c : e0 < s0
    · rw [if_pos (decide_eq_true c), if_pos c]
      exact ⟨vs, rfl, dp_mono s7 ds6⟩
    · rw [if_neg (by rw [decide_eq_false c]; exact Bool.false_ne_true), if_neg c]
      exact ⟨ve, rfl, dp_mono s7 de6⟩
  refine z_ixL (.inl (.inl h7)) hhi ?_
  have s57 := s6.trans s7
  have dlo7 := dp_mono s7 dlo
  have tdlo : Td (if e0 < s0 then e0 else s0) := by split <;> assumption
  have tdhi : Td (if e0 < s0 then s0 else e0) := by split <;> assumption
  have lohi : (if e0 < s0 then e0 else s0) ≤ (if e0 < s0 then s0 else e0) := by
    split
    · rename_i c
      exact Rat.le_of_lt c
    · rename_i c
      exact Rat.not_lt.mp c
  have hA7 := seqT s57 hA
  have hG7 := seqT s57 hG
  have de7 := dp_mono s57 de
  have ds7 := dp_mono s57 ds5
  have dP7 := dp_mono s57 dP5
  have X7 : Tg.SameX H H7 := X5.trans (.of s57)
  clear h6 h7 s6 s7 s57 dlo f6 f7 hlo hhi ds6 de6
  have outE : ∀ H' Q' E', PartR K A H' Q' E' pts sgs (hlQ cyc sgs.length (if e0 < s0 then e0 else s0)) (hlQ cyc sgs.length (if e0 < s0 then s0 else e0)) (decide (e0 < s0)) → PartR K A H' Q' E' pts sgs (hlQ cyc sgs.length (if e0 < s0 then e0 else s0)) (hlQ cyc sgs.length (if e0 < s0 then s0 else e0)) (decide (e0 < s0)) := fun _ _ _ h => h
  have tn : decide (e0 < s0) = decide (e0 < s0) := rfl
  walk_at "z"
  refine z_cut (fun σ' H' => Same H7 H' ∧ ∃ (w1 w2 : V) (x8 : Option V), σ' = [some (.ref l), some (.ref pa), some (.ref p2), some vs, some ve, some (.bl (decide (e0 < s0))), some w1, some w2, x8, none, none, none, none] ∧ Dp K H' w1 (qD (hlQ cyc sgs.length (if e0 < s0 then e0 else s0))) ∧ Dp K H' w2 (qD (hlQ cyc sgs.length (if e0 < s0 then s0 else e0)))) ?_ ?_
  · walk_at "z"
    cases cyc with
    | true =>
      walk_at "z"
      exact ⟨fun _ _ z => z, _, _, _, rfl, dlo7, dhi⟩
    | false =>
      generalize (if e0 < s0 then e0 else s0) = lo at *
      generalize (if e0 < s0 then s0 else e0) = hi at *
      walk_at "z"
      intro pm H8 f8 s8 h8
      have dm : Dp K H8 (.ref pm) (qD ((sgs.length : Nat) : Rat)) := dp_mkq (by rw [Rat.num_natCast, Rat.den_natCast, ← sl]; exact h8)
      have blm : Bl ((sgs.length : Nat) : Rat) := ⟨by rw [Rat.num_natCast]; exact Nat.lt_of_le_of_lt (show ((sgs.length : Int)).natAbs ≤ 5 by omega) (by decide), by rw [Rat.den_natCast]; decide⟩
      have dlo8 := dp_mono s8 dlo7
      -- one of the two times, held within the path
      obtain ⟨xPL, rfl, xhPL⟩ := dp_q dlo8
      walk_at "z"
      intro xQA xHA xFA xSA xHQA
      walk_at "z"
      refine ⟨_, _, ((sgs.length : Nat) : Rat), lo, rfl, dp_mono xSA dm, dp_mono xSA dlo8, blm, bl tdlo, ?_⟩
      walk_at "z"
      obtain ⟨xWA, xhWA, xdWA⟩ : ∃ w, atI [V.ref xPL, V.ref pm] (if decide (((sgs.length : Nat) : Rat) < lo) = true then 1 else 0) = some w ∧ Dp K xHA w (qD (if ((sgs.length : Nat) : Rat) < lo then ((sgs.length : Nat) : Rat) else lo)) := by
        by_cases c : ((sgs.length : Nat) : Rat) < lo
        · rw [if_pos (decide_eq_true c), if_pos c]
          exact ⟨_, rfl, dp_mono xSA dm⟩
        · rw [if_neg (by rw [decide_eq_false c]; exact Bool.false_ne_true), if_neg c]
          exact ⟨_, rfl, dp_mono xSA dlo8⟩
      refine z_ixL (.inl (.inl xHQA)) xhWA ?_
      walk_at "z"
      intro xQB xHB xFB xSB xHQB
      have xdz : Dp K xHB (.ref xQB) (qD 0) := dpT2 xHQB
      walk_at "z"
      intro xQC xHC xFC xSC xHQC
      have xhPLC := seqT ((xSA.trans xSB).trans xSC) xhPL
      walk_at "z"
      obtain ⟨xWB, xhWB, xdWB⟩ : ∃ w, atI [xWA, V.ref xQB] (if decide (lo.num < 0) = true then 1 else 0) = some w ∧ Dp K xHC w (qD (clampQ sgs.length lo)) := by
        unfold clampQ
        by_cases c : lo < 0
        · rw [if_pos (decide_eq_true (lt_num.mp c)), if_pos c]
          exact ⟨_, rfl, dp_mono xSC xdz⟩
        · rw [if_neg (by rw [decide_eq_false (fun z => c (lt_num.mpr z))]; exact Bool.false_ne_true), if_neg c]
          exact ⟨_, rfl, dp_mono (xSB.trans xSC) xdWA⟩
      refine z_ixL (.inl (.inl xHQC)) xhWB ?_
      have sx := (xSA.trans xSB).trans xSC
      have dm2 := dp_mono sx dm
      have dhi2 := dp_mono (s8.trans sx) dhi
      -- one of the two times, held within the path
      obtain ⟨yPL, rfl, yhPL⟩ := dp_q dhi2
      walk_at "z"
      intro yQA yHA yFA ySA yHQA
      walk_at "z"
      refine ⟨_, _, ((sgs.length : Nat) : Rat), hi, rfl, dp_mono ySA dm2, dp_mono ySA dhi2, blm, bl tdhi, ?_⟩
      walk_at "z"
      obtain ⟨yWA, yhWA, ydWA⟩ : ∃ w, atI [V.ref yPL, V.ref pm] (if decide (((sgs.length : Nat) : Rat) < hi) = true then 1 else 0) = some w ∧ Dp K yHA w (qD (if ((sgs.length : Nat) : Rat) < hi then ((sgs.length : Nat) : Rat) else hi)) := by
        by_cases c : ((sgs.length : Nat) : Rat) < hi
        · rw [if_pos (decide_eq_true c), if_pos c]
          exact ⟨_, rfl, dp_mono ySA dm2⟩
        · rw [if_neg (by rw [decide_eq_false c]; exact Bool.false_ne_true), if_neg c]
          exact ⟨_, rfl, dp_mono ySA dhi2⟩
      refine z_ixL (.inl (.inl yHQA)) yhWA ?_
      walk_at "z"
      intro yQB yHB yFB ySB yHQB
      have ydz : Dp K yHB (.ref yQB) (qD 0) := dpT2 yHQB
      walk_at "z"
      intro yQC yHC yFC ySC yHQC
      have yhPLC := seqT ((ySA.trans ySB).trans ySC) yhPL
      walk_at "z"
      obtain ⟨yWB, yhWB, ydWB⟩ : ∃ w, atI [yWA, V.ref yQB] (if decide (hi.num < 0) = true then 1 else 0) = some w ∧ Dp K yHC w (qD (clampQ sgs.length hi)) := by
        unfold clampQ
        by_cases c : hi < 0
        · rw [if_pos (decide_eq_true (lt_num.mp c)), if_pos c]
          exact ⟨_, rfl, dp_mono ySC ydz⟩
        · rw [if_neg (by rw [decide_eq_false (fun z => c (lt_num.mpr z))]; exact Bool.false_ne_true), if_neg c]
          exact ⟨_, rfl, dp_mono (ySB.trans ySC) ydWA⟩
      refine z_ixL (.inl (.inl yHQC)) yhWB ?_
      walk_at "z"
      have sy := (ySA.trans ySB).trans ySC
      exact ⟨(s8.trans sx).trans sy, _, _, _, rfl, dp_mono sy xdWB, ydWB⟩
  rintro σ' H8 ⟨s8, w1, w2, x8, rfl, dw1, dw2⟩
  walk_at "z"
  refine ⟨w1, w2, _, _, rfl, dw1, dw2, hl_td tdlo m5, hl_td tdhi m5, hl_mono lohi, fun D ts H9 s9 hD at' => ?_⟩
  have tl : ts.length = (timesQ (hlQ cyc sgs.length (if e0 < s0 then e0 else s0)) (hlQ cyc sgs.length (if e0 < s0 then s0 else e0))).length := by rw [dpa_len at', List.length_map]
  have hDS : SqL K H9 D ts := .inl (.inl hD)
  have s79 := s8.trans s9
  have X9 : Tg.SameX H H9 := X7.trans (.of s79)
  have dP9 := dp_mono s79 dP7
  have ds9 := dp_mono s79 ds7
  have de9 := dp_mono s79 de7
  have tda := hl_td (cyc := cyc) tdlo m5
  have tdb := hl_td (cyc := cyc) tdhi m5
  have wia := hl_wi (cyc := cyc) tdlo.1 mc
  have wib := hl_wi (cyc := cyc) tdhi.1 mc
  have hab := hl_mono (cyc := cyc) (m := sgs.length) lohi
  have lenT : 24 < (timesQ (hlQ cyc sgs.length (if e0 < s0 then e0 else s0)) (hlQ cyc sgs.length (if e0 < s0 then s0 else e0))).length → hlQ cyc sgs.length (if e0 < s0 then e0 else s0) ≠ hlQ cyc sgs.length (if e0 < s0 then s0 else e0) ∧ 24 < cntQ (hlQ cyc sgs.length (if e0 < s0 then e0 else s0)) (hlQ cyc sgs.length (if e0 < s0 then s0 else e0)) + 1 := fun h => by
    have hne : hlQ cyc sgs.length (if e0 < s0 then e0 else s0) ≠ hlQ cyc sgs.length (if e0 < s0 then s0 else e0) := fun z => by
      have h1 := times_lenP pts sgs hab
      have h2 : (sgsP pts sgs (hlQ cyc sgs.length (if e0 < s0 then e0 else s0)) (hlQ cyc sgs.length (if e0 < s0 then s0 else e0))).length = 0 := by
        unfold sgsP
        rw [if_pos z]
        rfl
      omega
    refine ⟨hne, ?_⟩
    rcases Rat.le_iff_lt_or_eq.mp hab with z | z
    · rw [times_len z] at h
      exact h
    · exact absurd z hne
  have lenF : hlQ cyc sgs.length (if e0 < s0 then e0 else s0) ≠ hlQ cyc sgs.length (if e0 < s0 then s0 else e0) → 24 < cntQ (hlQ cyc sgs.length (if e0 < s0 then e0 else s0)) (hlQ cyc sgs.length (if e0 < s0 then s0 else e0)) + 1 → 24 < ts.length := fun hne h => by
    rw [tl]
    rcases Rat.le_iff_lt_or_eq.mp hab with z | z
    · rw [times_len z]
      exact h
    · exact absurd z hne
  rw [← tl] at lenT
  walk_at "z"
  refine z_if (fun c24 => ?_) (fun c24 => ?_)
  · obtain ⟨h1, h2⟩ := lenT (by omega)
    walk_at "z"
    exact ⟨_, vs, ve, pts, sgs, cyc, s0, e0, rfl, dP9, pb, ds9, de9, bs.1, be.1, X9.tab _ tG, X9.tab _ tG2, h1, h2, q⟩
  walk_at "z"
  refine ⟨_, vs, ve, pts, sgs, cyc, s0, e0, rfl, dP9, pb, ds9, de9, bs.1, be.1, X9.tab _ tG, X9.tab _ tG2, fun h1 h2 => absurd (lenF h1 h2) (by omega), fun _ va HA sA dA => ?_⟩
  have hDA := sA.lst hD
  have atA := sA.dpA at'
  have dPA := sA.dp dP9
  generalize hlQ cyc sgs.length (if e0 < s0 then e0 else s0) = a0 at *
  generalize hlQ cyc sgs.length (if e0 < s0 then s0 else e0) = b0 at *
  clear lenF lenT outE dlo7 dhi dw1 dw2 hD at' hDS dP9 ds9 de9 dP7 ds7 de7 dP5 ds5 de
  walk_at "z"
  refine z_cut (fun σ' H' => ∃ (v2 : V) (x11 x12 : Option V), σ' = [some (.ref l), some (.ref pa), some (.ref p2), some vs, some ve, some (.bl (decide (e0 < s0))), some w1, some w2, x8, some (.ref D), some v2, x11, x12] ∧ Same HA H' ∧ Dp K H' v2 (pathQ (ptsP pts sgs a0 b0) (sgsP pts sgs a0 b0) false)) ?_ ?_
  · walk_at "z"
    by_cases c : e0 < s0
    · rw [if_pos (decide_eq_true c)]
      rw [decide_eq_true c] at dA
      have dA : Dp K HA va (pathQ (ptsP pts sgs a0 b0).reverse ((sgsP pts sgs a0 b0).reverse.map sw) false) := dA
      obtain ⟨qa, qk, qg, kv, sv, rfl, h1, h2, h3, bk, bg⟩ := dp_path dA
      walk_at "z"
      have lP := times_lenP pts sgs hab
      have rsr : ((sgsP pts sgs a0 b0).reverse.map sw).reverse.map sw = sgsP pts sgs a0 b0 := by
        rw [← List.map_reverse, List.reverse_reverse, List.map_map, show sw ∘ sw = id from funext fun s => sw_sw s, List.map_id]
      have gl : ((sgsP pts sgs a0 b0).reverse.map sw).length ≤ 24 := by rw [List.length_map, List.length_reverse]; omega
      generalize hrs : (sgsP pts sgs a0 b0).reverse.map sw = rs at *
      have kl : kv.length = (ptsP pts sgs a0 b0).length := by rw [dpa_len bk, List.length_map, List.length_reverse]
      have sl' : sv.length = rs.length := by rw [dpa_len bg, List.length_map]
      have pl24 := ptsP_len pts sgs a0 b0
      have c66 : cntQ a0 b0 ≤ 66 := by have h1 := tda.fl; have h2 := tdb.fl; unfold cntQ; omega
      intro D4 H1' fD s1 hD4
      walk_at "z"
      refine z_forTE ?_
      walk_at "z"
      refine Tg.z_revT (hi := none) (fun R r => by walk_at "z"; refine z_ixT (seqT s1 h1) rfl ?_; exact r) (seqT s1 h3) (fun R r => r) (fun h e => by cases e) fun p3 H3 f3 s3 e3 => ?_
      have e3 : H3 p3 = some (.tup sv.reverse) := by
        rw [e3]
        show some (HO.tup (sv.reverse.take sv.length)) = some (HO.tup sv.reverse)
        rw [List.take_of_length_le (by rw [List.length_reverse]; omega)]
      have s03 := s1.trans s3
      have dr : DpAll K H3 sv.reverse (rs.map sgQ).reverse := dpa_rev (dp_monoA s03 bg)
      have e4 : (rs.map sgQ).reverse = rs.reverse.map sgQ := List.map_reverse.symm
      refine z_forT (fun R r => by walk_at "z"; exact r) (.inl (.inl e3)) (fun i σ' H' => Same HA H' ∧ DpAll K H' sv.reverse (rs.reverse.map sgQ) ∧ H' p3 = some (.tup sv.reverse) ∧ ∃ (acc : List V) (u : Option V), σ' = [some (.ref l), some (.ref pa), some (.ref p2), some vs, some ve, some (.bl (decide (e0 < s0))), some w1, some w2, x8, some (.ref D), some (.ref qa), some (.ref D4), u] ∧ H' D4 = some (.lst acc) ∧ acc.length = i ∧ DpAll K H' acc (((rs.reverse.map sw).map sgQ).take i))
        ⟨s03, by rw [← e4]; exact dr, e3, [], _, rfl, s3 _ _ hD4, rfl, .nil⟩ (fun i σ' H' _ h => .inl (.inl h.2.2.1)) ?_ ?_
      · clear s3 e3 s1 hD4 s03 dr
        rintro i x σ' H4 hx ⟨s4, d4, e4', acc, u, rfl, h4, l4, a4⟩
        have hi : i < rs.reverse.length := by
          have := (List.getElem?_eq_some_iff.mp hx).1
          rw [List.length_reverse] at this ⊢
          omega
        obtain ⟨sg, hsg⟩ : ∃ z, rs.reverse[i]? = some z := ⟨_, List.getElem?_eq_getElem hi⟩
        obtain ⟨x', hx', dx⟩ := dpa_get d4 (show (rs.reverse.map sgQ)[i]? = some (sgQ sg) by rw [List.getElem?_map, hsg]; rfl)
        rw [hx] at hx'
        cases hx'
        rw [List.length_reverse] at hi
        have e5 : ((rs.reverse.map sw).map sgQ).take (i + 1) = ((rs.reverse.map sw).map sgQ).take i ++ [sgQ (sw sg)] := map_take1 sgQ (by rw [List.getElem?_map, hsg]; rfl)
        have np : p3 ≠ D4 := fun z => by rw [z, h4] at e4'; cases e4'
        have st : ∀ (v : V) (H5 : Hp), Same H4 H5 → Dp K H5 v (sgQ (sw sg)) → Same HA (upd H5 D4 (.lst (acc ++ [v]))) ∧ DpAll K (upd H5 D4 (.lst (acc ++ [v]))) sv.reverse (rs.reverse.map sgQ) ∧ (upd H5 D4 (.lst (acc ++ [v]))) p3 = some (.tup sv.reverse) ∧ (upd H5 D4 (.lst (acc ++ [v]))) D4 = some (.lst (acc ++ [v])) ∧
            (acc ++ [v]).length = i + 1 ∧ DpAll K (upd H5 D4 (.lst (acc ++ [v]))) (acc ++ [v]) (((rs.reverse.map sw).map sgQ).take (i + 1)) := fun v H5 s5 dv => by
          have h5 := s5 _ _ h4
          refine ⟨fun b o h => ?_, dp_kpA kp_at h5 (tup_sqs _) (dp_monoA s5 d4), ?_, upd_same, by rw [List.length_append, l4]; rfl, ?_⟩
          · rw [upd_ne (ne_of_none h fD)]
            exact s5 _ _ (s4 _ _ h)
          · rw [upd_ne np]
            exact s5 _ _ e4'
          · rw [e5]
            exact dpa_app (dp_kpA kp_at h5 (tup_take5 _ _) (dp_monoA s5 a4)) (.cons (dp_kp kp_at h5 (tup_sgq _) dv) .nil)
        walk_at "z"
        match sg, dx, st with
        | none, dx, st =>
          rw [dp_non dx]
          walk_at "z"
          refine z_bmL (fun R q => by walk_at "z"; exact q) h4 ?_
          walk_at "z"
          refine z_append h4 (by omega) ?_
          walk_at "z"
          obtain ⟨t1, t2, t3, t4, t5, t6⟩ := st .non H4 (fun _ _ z => z) .non
          exact ⟨t1, t2, t3, _, _, rfl, t4, t5, t6⟩
        | some (c', d'), dx, st =>
          obtain ⟨pc, v1, v2, rfl, hpc, d1, d2⟩ := dp_t2 dx
          walk_at "z"
          refine z_bmL (fun R q => by walk_at "z"; exact q) h4 ?_
          walk_at "z"
          intro pt H5 _ s5 h5
          walk_at "z"
          refine z_append (s5 _ _ h4) (by omega) ?_
          walk_at "z"
          obtain ⟨t1, t2, t3, t4, t5, t6⟩ := st (.ref pt) H5 s5 (dp_mk h5 (.cons (dp_mono s5 d2) (.cons (dp_mono s5 d1) .nil)))
          exact ⟨t1, t2, t3, _, _, rfl, t4, t5, t6⟩
      clear s3 e3 s1 hD4 s03 dr
      rintro σ' H4 ⟨s4, d4, e4', acc, u, rfl, h4, l4, a4⟩
      rw [List.take_of_length_le (by rw [List.length_map, List.length_map, List.length_reverse, List.length_reverse]; omega), rsr] at a4
      have h14 := seqT s4 h1
      have h24 := seqT s4 h2
      walk_at "z"
      refine Tg.z_revT (hi := none) (fun R r => by walk_at "z"; exact r) h24 (fun R r => r) (fun h e => by cases e) fun p5 H5 f5 s5 e5 => ?_
      have e5 : H5 p5 = some (.tup kv.reverse) := by
        rw [e5]
        show some (HO.tup (kv.reverse.take kv.length)) = some (HO.tup kv.reverse)
        rw [List.take_of_length_le (by rw [List.length_reverse]; omega)]
      have dk5 : DpAll K H5 kv.reverse ((ptsP pts sgs a0 b0).map ptQ) := by
        have := dpa_rev (dp_monoA (s4.trans s5) bk)
        rwa [← List.map_reverse, List.reverse_reverse] at this
      walk_at "z"
      refine z_tupOf (.inl (.inl (s5 _ _ h4))) fun p6 H6 f6 s6 h6 => ?_
      walk_at "z"
      have h16 := seqT (s5.trans s6) h14
      refine z_ixT h16 rfl ?_
      walk_at "z"
      intro p7 H7' f7 s7 h7
      walk_at "z"
      have s67 := s6.trans s7
      exact ⟨_, _, _, rfl, (s4.trans s5).trans s67, dp_mkpath (.inl (.inl h7)) (.inl (.inl (s67 _ _ e5))) (.inl (.inl (s7 _ _ h6))) (dp_monoA s67 dk5) (dp_monoA (s5.trans s67) a4)⟩
    · rw [if_neg (by rw [decide_eq_false c]; exact Bool.false_ne_true)]
      rw [decide_eq_false c] at dA
      walk_at "z"
      exact ⟨va, _, _, rfl, fun _ _ z => z, dA⟩
  rintro σ' HB ⟨v2, x11, x12, rfl, sB, dv2⟩
  walk_at "z"
  exact ⟨v2, _, D, ts, pts, sgs, cyc, a0, b0, rfl, dv2, dp_mono sB dPA, pb, sB _ _ hDA, dp_monoA sB atA, tda, tdb, hab, wia, wib, q⟩
end

theorem all_mk {l : PySem.W.OpenLaw} {q : Program} {w : World} {K : PySem.W.Frag} {h : Heap} {mg : Str → Option Value} {fa : Addr} (X : K.In h) (G : h.Ns mainGlobals mg) (hfa : mg "law" = some (.ref fa)) (tabs : Tg.TabAll q K mg h)
    {a4 : Addr} {od4 an4 : Option Addr} {sl4 : Array (Option Value)} {oc4 kV4 dc4 pm4 cd4 ct4 : Value} {a5 : Addr} {od5 an5 : Option Addr} {sl5 : Array (Option Value)} {oc5 kV5 dc5 pm5 cd5 ct5 : Value} {a6 : Addr} {od6 an6 : Option Addr} {sl6 : Array (Option Value)} {oc6 kV6 dc6 pm6 cd6 ct6 : Value} {a7 : Addr} {od7 an7 : Option Addr} {sl7 : Array (Option Value)} {oc7 kV7 dc7 pm7 cd7 ct7 : Value} {a8 : Addr} {od8 an8 : Option Addr} {sl8 : Array (Option Value)} {oc8 kV8 dc8 pm8 cd8 ct8 : Value} {a9 : Addr} {od9 an9 : Option Addr} {sl9 : Array (Option Value)} {oc9 kV9 dc9 pm9 cd9 ct9 : Value} {a10 : Addr} {od10 an10 : Option Addr} {sl10 : Array (Option Value)} {oc10 kV10 dc10 pm10 cd10 ct10 : Value} {a11 : Addr} {od11 an11 : Option Addr} {sl11 : Array (Option Value)} {oc11 kV11 dc11 pm11 cd11 ct11 : Value} {a12 : Addr} {od12 an12 : Option Addr} {sl12 : Array (Option Value)} {oc12 kV12 dc12 pm12 cd12 ct12 : Value} {a13 : Addr} {od13 an13 : Option Addr} {sl13 : Array (Option Value)} {oc13 kV13 dc13 pm13 ct13 : Value} {cc13 pp13 : Addr} {ce13 : Value} {cf13 : Option Addr} {cv13 : Array Value} {cw13 : Array (Option Value)} {a14 : Addr} {od14 an14 : Option Addr} {sl14 : Array (Option Value)} {oc14 kV14 dc14 pm14 cd14 ct14 : Value} {a15 : Addr} {od15 an15 : Option Addr} {sl15 : Array (Option Value)} {oc15 kV15 dc15 pm15 cd15 ct15 : Value} {a16 : Addr} {od16 an16 : Option Addr} {sl16 : Array (Option Value)} {oc16 kV16 dc16 pm16 cd16 ct16 : Value} {a17 : Addr} {od17 an17 : Option Addr} {sl17 : Array (Option Value)} {oc17 kV17 dc17 pm17 cd17 ct17 : Value} {a18 : Addr} {od18 an18 : Option Addr} {sl18 : Array (Option Value)} {oc18 kV18 dc18 pm18 cd18 ct18 : Value} {a19 : Addr} {od19 an19 : Option Addr} {sl19 : Array (Option Value)} {oc19 kV19 dc19 pm19 cd19 ct19 : Value} {a20 : Addr} {od20 an20 : Option Addr} {sl20 : Array (Option Value)} {oc20 kV20 dc20 pm20 cd20 ct20 : Value} {a21 : Addr} {od21 an21 : Option Addr} {sl21 : Array (Option Value)} {oc21 kV21 dc21 pm21 cd21 ct21 : Value} {a22 : Addr} {od22 an22 : Option Addr} {sl22 : Array (Option Value)} {oc22 kV22 dc22 pm22 cd22 ct22 : Value} {a23 : Addr} {od23 an23 : Option Addr} {sl23 : Array (Option Value)} {oc23 kV23 dc23 pm23 ct23 : Value} {cc23 pp23 : Addr} {ce23 : Value} {cf23 : Option Addr} {cv23 : Array Value} {cw23 : Array (Option Value)} {a24 : Addr} {od24 an24 : Option Addr} {sl24 : Array (Option Value)} {oc24 kV24 dc24 pm24 cd24 ct24 : Value} {a25 : Addr} {od25 an25 : Option Addr} {sl25 : Array (Option Value)} {oc25 kV25 dc25 pm25 cd25 ct25 : Value} {a26 : Addr} {od26 an26 : Option Addr} {sl26 : Array (Option Value)} {oc26 kV26 dc26 pm26 cd26 ct26 : Value} {a27 : Addr} {od27 an27 : Option Addr} {sl27 : Array (Option Value)} {oc27 kV27 dc27 pm27 cd27 ct27 : Value} {a28 : Addr} {od28 an28 : Option Addr} {sl28 : Array (Option Value)} {oc28 kV28 dc28 pm28 cd28 ct28 : Value} {a29 : Addr} {od29 an29 : Option Addr} {sl29 : Array (Option Value)} {oc29 kV29 dc29 pm29 cd29 ct29 : Value} {a30 : Addr} {od30 an30 : Option Addr} {sl30 : Array (Option Value)} {oc30 kV30 dc30 pm30 cd30 ct30 : Value} {a31 : Addr} {od31 an31 : Option Addr} {sl31 : Array (Option Value)} {oc31 kV31 dc31 pm31 cd31 ct31 : Value} {a32 : Addr} {od32 an32 : Option Addr} {sl32 : Array (Option Value)} {oc32 kV32 dc32 pm32 cd32 ct32 : Value} {a33 : Addr} {od33 an33 : Option Addr} {sl33 : Array (Option Value)} {oc33 kV33 dc33 pm33 cd33 ct33 : Value} {a34 : Addr} {od34 an34 : Option Addr} {sl34 : Array (Option Value)} {oc34 kV34 dc34 pm34 cd34 ct34 : Value} {a35 : Addr} {od35 an35 : Option Addr} {sl35 : Array (Option Value)} {oc35 kV35 dc35 pm35 cd35 ct35 : Value} {a36 : Addr} {od36 an36 : Option Addr} {sl36 : Array (Option Value)} {oc36 kV36 dc36 pm36 cd36 ct36 : Value} {a37 : Addr} {od37 an37 : Option Addr} {sl37 : Array (Option Value)} {oc37 kV37 dc37 pm37 cd37 ct37 : Value} {a38 : Addr} {od38 an38 : Option Addr} {sl38 : Array (Option Value)} {oc38 kV38 dc38 pm38 cd38 ct38 : Value} {a39 : Addr} {od39 an39 : Option Addr} {sl39 : Array (Option Value)} {oc39 kV39 dc39 pm39 cd39 ct39 : Value} {a40 : Addr} {od40 an40 : Option Addr} {sl40 : Array (Option Value)} {oc40 kV40 dc40 pm40 cd40 ct40 : Value} {a41 : Addr} {od41 an41 : Option Addr} {sl41 : Array (Option Value)} {oc41 kV41 dc41 pm41 cd41 ct41 : Value} {a42 : Addr} {od42 an42 : Option Addr} {sl42 : Array (Option Value)} {oc42 kV42 dc42 pm42 cd42 ct42 : Value} {a43 : Addr} {od43 an43 : Option Addr} {sl43 : Array (Option Value)} {oc43 kV43 dc43 pm43 cd43 ct43 : Value} {a44 : Addr} {od44 an44 : Option Addr} {sl44 : Array (Option Value)} {oc44 kV44 dc44 pm44 cd44 ct44 : Value} {a0 : Addr} {a1 : Addr} {a2 : Addr} {a3 : Addr} {t_LIMIT : Tok} {t_MOST_KNOTS : Tok} {a49 : Addr} {tZERO_0_0 : Tok} {tZERO_0_1 : Tok} {odZERO_0 : Option Addr} {nnZERO_0 : Nat} {slZERO_0 : Array (Option Value)} {a50 : Addr} {tONE_0_0 : Tok} {tONE_0_1 : Tok} {odONE_0 : Option Addr} {nnONE_0 : Nat} {slONE_0 : Array (Option Value)}
    (n4 : PySem.W.nsIn K mainGlobals "ratio" = some (some (.ref a4)))
    (l4 : K.lookup a4 = some ⟨oc4, od4, .func (PySem.W.fnOf "ratio" "ratio" (defArgs s_ratio) (defBody s_ratio) (defScope s_ratio) .none kV4 dc4 pm4 an4 cd4 ct4), sl4⟩)
    (c4 : PySem.W.codeIn K cd4 "ratio" = true) (k4 : PySem.W.keepIn K (.ref a4) = true)
    (n5 : PySem.W.nsIn K mainGlobals "add" = some (some (.ref a5)))
    (l5 : K.lookup a5 = some ⟨oc5, od5, .func (PySem.W.fnOf "add" "add" (defArgs s_add) (defBody s_add) (defScope s_add) .none kV5 dc5 pm5 an5 cd5 ct5), sl5⟩)
    (c5 : PySem.W.codeIn K cd5 "add" = true) (k5 : PySem.W.keepIn K (.ref a5) = true)
    (n6 : PySem.W.nsIn K mainGlobals "subtract" = some (some (.ref a6)))
    (l6 : K.lookup a6 = some ⟨oc6, od6, .func (PySem.W.fnOf "subtract" "subtract" (defArgs s_subtract) (defBody s_subtract) (defScope s_subtract) .none kV6 dc6 pm6 an6 cd6 ct6), sl6⟩)
    (c6 : PySem.W.codeIn K cd6 "subtract" = true) (k6 : PySem.W.keepIn K (.ref a6) = true)
    (n7 : PySem.W.nsIn K mainGlobals "multiply" = some (some (.ref a7)))
    (l7 : K.lookup a7 = some ⟨oc7, od7, .func (PySem.W.fnOf "multiply" "multiply" (defArgs s_multiply) (defBody s_multiply) (defScope s_multiply) .none kV7 dc7 pm7 an7 cd7 ct7), sl7⟩)
    (c7 : PySem.W.codeIn K cd7 "multiply" = true) (k7 : PySem.W.keepIn K (.ref a7) = true)
    (n8 : PySem.W.nsIn K mainGlobals "divide" = some (some (.ref a8)))
    (l8 : K.lookup a8 = some ⟨oc8, od8, .func (PySem.W.fnOf "divide" "divide" (defArgs s_divide) (defBody s_divide) (defScope s_divide) .none kV8 dc8 pm8 an8 cd8 ct8), sl8⟩)
    (c8 : PySem.W.codeIn K cd8 "divide" = true) (k8 : PySem.W.keepIn K (.ref a8) = true)
    (n9 : PySem.W.nsIn K mainGlobals "compare" = some (some (.ref a9)))
    (l9 : K.lookup a9 = some ⟨oc9, od9, .func (PySem.W.fnOf "compare" "compare" (defArgs s_compare) (defBody s_compare) (defScope s_compare) .none kV9 dc9 pm9 an9 cd9 ct9), sl9⟩)
    (c9 : PySem.W.codeIn K cd9 "compare" = true) (k9 : PySem.W.keepIn K (.ref a9) = true)
    (n10 : PySem.W.nsIn K mainGlobals "floor_of" = some (some (.ref a10)))
    (l10 : K.lookup a10 = some ⟨oc10, od10, .func (PySem.W.fnOf "floor_of" "floor_of" (defArgs s_floor_of) (defBody s_floor_of) (defScope s_floor_of) .none kV10 dc10 pm10 an10 cd10 ct10), sl10⟩)
    (c10 : PySem.W.codeIn K cd10 "floor_of" = true) (k10 : PySem.W.keepIn K (.ref a10) = true)
    (n11 : PySem.W.nsIn K mainGlobals "check_knots" = some (some (.ref a11)))
    (l11 : K.lookup a11 = some ⟨oc11, od11, .func (PySem.W.fnOf "check_knots" "check_knots" (defArgs s_check_knots) (defBody s_check_knots) (defScope s_check_knots) .none kV11 dc11 pm11 an11 cd11 ct11), sl11⟩)
    (c11 : PySem.W.codeIn K cd11 "check_knots" = true) (k11 : PySem.W.keepIn K (.ref a11) = true)
    (n12 : PySem.W.nsIn K mainGlobals "length" = some (some (.ref a12)))
    (l12 : K.lookup a12 = some ⟨oc12, od12, .func (PySem.W.fnOf "length" "length" (defArgs s_length) (defBody s_length) (defScope s_length) .none kV12 dc12 pm12 an12 cd12 ct12), sl12⟩)
    (c12 : PySem.W.codeIn K cd12 "length" = true) (k12 : PySem.W.keepIn K (.ref a12) = true)
    (n13 : PySem.W.nsIn K mainGlobals "reverse" = some (some (.ref a13)))
    (l13 : K.lookup a13 = some ⟨oc13, od13, .func (PySem.W.fnOf "reverse" "reverse" (defArgs s_reverse) (defBody s_reverse) (defScope s_reverse) .none kV13 dc13 pm13 an13 (.ref cc13) ct13), sl13⟩)
    (c13 : PySem.W.codeIn K (.ref cc13) "reverse" = true) (k13 : PySem.W.keepIn K (.ref a13) = true)
    (tl13 : K.lookup cc13 = some ⟨ce13, cf13, .fields cv13, cw13⟩) (tv13 : cv13[11]? = some (.ref pp13)) (tn13 : K.lookup pp13 = none) (tr13 : ((recsOf q).any fun e => e.name == "reverse") = true)
    (n14 : PySem.W.nsIn K mainGlobals "exchanged" = some (some (.ref a14)))
    (l14 : K.lookup a14 = some ⟨oc14, od14, .func (PySem.W.fnOf "exchanged" "exchanged" (defArgs s_exchanged) (defBody s_exchanged) (defScope s_exchanged) .none kV14 dc14 pm14 an14 cd14 ct14), sl14⟩)
    (c14 : PySem.W.codeIn K cd14 "exchanged" = true) (k14 : PySem.W.keepIn K (.ref a14) = true)
    (n15 : PySem.W.nsIn K mainGlobals "between" = some (some (.ref a15)))
    (l15 : K.lookup a15 = some ⟨oc15, od15, .func (PySem.W.fnOf "between" "between" (defArgs s_between) (defBody s_between) (defScope s_between) .none kV15 dc15 pm15 an15 cd15 ct15), sl15⟩)
    (c15 : PySem.W.codeIn K cd15 "between" = true) (k15 : PySem.W.keepIn K (.ref a15) = true)
    (n16 : PySem.W.nsIn K mainGlobals "part_between" = some (some (.ref a16)))
    (l16 : K.lookup a16 = some ⟨oc16, od16, .func (PySem.W.fnOf "part_between" "part_between" (defArgs s_part_between) (defBody s_part_between) (defScope s_part_between) .none kV16 dc16 pm16 an16 cd16 ct16), sl16⟩)
    (c16 : PySem.W.codeIn K cd16 "part_between" = true) (k16 : PySem.W.keepIn K (.ref a16) = true)
    (n17 : PySem.W.nsIn K mainGlobals "cut_segment" = some (some (.ref a17)))
    (l17 : K.lookup a17 = some ⟨oc17, od17, .func (PySem.W.fnOf "cut_segment" "cut_segment" (defArgs s_cut_segment) (defBody s_cut_segment) (defScope s_cut_segment) .none kV17 dc17 pm17 an17 cd17 ct17), sl17⟩)
    (c17 : PySem.W.codeIn K cd17 "cut_segment" = true) (k17 : PySem.W.keepIn K (.ref a17) = true)
    (n18 : PySem.W.nsIn K mainGlobals "point_at" = some (some (.ref a18)))
    (l18 : K.lookup a18 = some ⟨oc18, od18, .func (PySem.W.fnOf "point_at" "point_at" (defArgs s_point_at) (defBody s_point_at) (defScope s_point_at) .none kV18 dc18 pm18 an18 cd18 ct18), sl18⟩)
    (c18 : PySem.W.codeIn K cd18 "point_at" = true) (k18 : PySem.W.keepIn K (.ref a18) = true)
    (n19 : PySem.W.nsIn K mainGlobals "time_on" = some (some (.ref a19)))
    (l19 : K.lookup a19 = some ⟨oc19, od19, .func (PySem.W.fnOf "time_on" "time_on" (defArgs s_time_on) (defBody s_time_on) (defScope s_time_on) .none kV19 dc19 pm19 an19 cd19 ct19), sl19⟩)
    (c19 : PySem.W.codeIn K cd19 "time_on" = true) (k19 : PySem.W.keepIn K (.ref a19) = true)
    (n20 : PySem.W.nsIn K mainGlobals "clamped" = some (some (.ref a20)))
    (l20 : K.lookup a20 = some ⟨oc20, od20, .func (PySem.W.fnOf "clamped" "clamped" (defArgs s_clamped) (defBody s_clamped) (defScope s_clamped) .none kV20 dc20 pm20 an20 cd20 ct20), sl20⟩)
    (c20 : PySem.W.codeIn K cd20 "clamped" = true) (k20 : PySem.W.keepIn K (.ref a20) = true)
    (n21 : PySem.W.nsIn K mainGlobals "segment_at" = some (some (.ref a21)))
    (l21 : K.lookup a21 = some ⟨oc21, od21, .func (PySem.W.fnOf "segment_at" "segment_at" (defArgs s_segment_at) (defBody s_segment_at) (defScope s_segment_at) .none kV21 dc21 pm21 an21 cd21 ct21), sl21⟩)
    (c21 : PySem.W.codeIn K cd21 "segment_at" = true) (k21 : PySem.W.keepIn K (.ref a21) = true)
    (n22 : PySem.W.nsIn K mainGlobals "subpath" = some (some (.ref a22)))
    (l22 : K.lookup a22 = some ⟨oc22, od22, .func (PySem.W.fnOf "subpath" "subpath" (defArgs s_subpath) (defBody s_subpath) (defScope s_subpath) .none kV22 dc22 pm22 an22 cd22 ct22), sl22⟩)
    (c22 : PySem.W.codeIn K cd22 "subpath" = true) (k22 : PySem.W.keepIn K (.ref a22) = true)
    (n23 : PySem.W.nsIn K mainGlobals "part_of" = some (some (.ref a23)))
    (l23 : K.lookup a23 = some ⟨oc23, od23, .func (PySem.W.fnOf "part_of" "part_of" (defArgs s_part_of) (defBody s_part_of) (defScope s_part_of) .none kV23 dc23 pm23 an23 (.ref cc23) ct23), sl23⟩)
    (c23 : PySem.W.codeIn K (.ref cc23) "part_of" = true) (k23 : PySem.W.keepIn K (.ref a23) = true)
    (tl23 : K.lookup cc23 = some ⟨ce23, cf23, .fields cv23, cw23⟩) (tv23 : cv23[11]? = some (.ref pp23)) (tn23 : K.lookup pp23 = none) (tr23 : ((recsOf q).any fun e => e.name == "part_of") = true)
    (n24 : PySem.W.nsIn K mainGlobals "ceiling_of" = some (some (.ref a24)))
    (l24 : K.lookup a24 = some ⟨oc24, od24, .func (PySem.W.fnOf "ceiling_of" "ceiling_of" (defArgs s_ceiling_of) (defBody s_ceiling_of) (defScope s_ceiling_of) .none kV24 dc24 pm24 an24 cd24 ct24), sl24⟩)
    (c24 : PySem.W.codeIn K cd24 "ceiling_of" = true) (k24 : PySem.W.keepIn K (.ref a24) = true)
    (n25 : PySem.W.nsIn K mainGlobals "piece" = some (some (.ref a25)))
    (l25 : K.lookup a25 = some ⟨oc25, od25, .func (PySem.W.fnOf "piece" "piece" (defArgs s_piece) (defBody s_piece) (defScope s_piece) .none kV25 dc25 pm25 an25 cd25 ct25), sl25⟩)
    (c25 : PySem.W.codeIn K cd25 "piece" = true) (k25 : PySem.W.keepIn K (.ref a25) = true)
    (n26 : PySem.W.nsIn K mainGlobals "_law_cell" = some (some (.ref a26)))
    (l26 : K.lookup a26 = some ⟨oc26, od26, .func (PySem.W.fnOf "_law_cell" "_law_cell" (defArgs s__law_cell) (defBody s__law_cell) (defScope s__law_cell) .none kV26 dc26 pm26 an26 cd26 ct26), sl26⟩)
    (c26 : PySem.W.codeIn K cd26 "_law_cell" = true) (k26 : PySem.W.keepIn K (.ref a26) = true)
    (n27 : PySem.W.nsIn K mainGlobals "_law_stream" = some (some (.ref a27)))
    (l27 : K.lookup a27 = some ⟨oc27, od27, .func (PySem.W.fnOf "_law_stream" "_law_stream" (defArgs s__law_stream) (defBody s__law_stream) (defScope s__law_stream) .none kV27 dc27 pm27 an27 cd27 ct27), sl27⟩)
    (c27 : PySem.W.codeIn K cd27 "_law_stream" = true) (k27 : PySem.W.keepIn K (.ref a27) = true)
    (n28 : PySem.W.nsIn K mainGlobals "_law_next" = some (some (.ref a28)))
    (l28 : K.lookup a28 = some ⟨oc28, od28, .func (PySem.W.fnOf "_law_next" "_law_next" (defArgs s__law_next) (defBody s__law_next) (defScope s__law_next) .none kV28 dc28 pm28 an28 cd28 ct28), sl28⟩)
    (c28 : PySem.W.codeIn K cd28 "_law_next" = true) (k28 : PySem.W.keepIn K (.ref a28) = true)
    (n29 : PySem.W.nsIn K mainGlobals "_law_ratio" = some (some (.ref a29)))
    (l29 : K.lookup a29 = some ⟨oc29, od29, .func (PySem.W.fnOf "_law_ratio" "_law_ratio" (defArgs s__law_ratio) (defBody s__law_ratio) (defScope s__law_ratio) .none kV29 dc29 pm29 an29 cd29 ct29), sl29⟩)
    (c29 : PySem.W.codeIn K cd29 "_law_ratio" = true) (k29 : PySem.W.keepIn K (.ref a29) = true)
    (n30 : PySem.W.nsIn K mainGlobals "_law_sum" = some (some (.ref a30)))
    (l30 : K.lookup a30 = some ⟨oc30, od30, .func (PySem.W.fnOf "_law_sum" "_law_sum" (defArgs s__law_sum) (defBody s__law_sum) (defScope s__law_sum) .none kV30 dc30 pm30 an30 cd30 ct30), sl30⟩)
    (c30 : PySem.W.codeIn K cd30 "_law_sum" = true) (k30 : PySem.W.keepIn K (.ref a30) = true)
    (n31 : PySem.W.nsIn K mainGlobals "_law_difference" = some (some (.ref a31)))
    (l31 : K.lookup a31 = some ⟨oc31, od31, .func (PySem.W.fnOf "_law_difference" "_law_difference" (defArgs s__law_difference) (defBody s__law_difference) (defScope s__law_difference) .none kV31 dc31 pm31 an31 cd31 ct31), sl31⟩)
    (c31 : PySem.W.codeIn K cd31 "_law_difference" = true) (k31 : PySem.W.keepIn K (.ref a31) = true)
    (n32 : PySem.W.nsIn K mainGlobals "_law_product" = some (some (.ref a32)))
    (l32 : K.lookup a32 = some ⟨oc32, od32, .func (PySem.W.fnOf "_law_product" "_law_product" (defArgs s__law_product) (defBody s__law_product) (defScope s__law_product) .none kV32 dc32 pm32 an32 cd32 ct32), sl32⟩)
    (c32 : PySem.W.codeIn K cd32 "_law_product" = true) (k32 : PySem.W.keepIn K (.ref a32) = true)
    (n33 : PySem.W.nsIn K mainGlobals "_law_small" = some (some (.ref a33)))
    (l33 : K.lookup a33 = some ⟨oc33, od33, .func (PySem.W.fnOf "_law_small" "_law_small" (defArgs s__law_small) (defBody s__law_small) (defScope s__law_small) .none kV33 dc33 pm33 an33 cd33 ct33), sl33⟩)
    (c33 : PySem.W.codeIn K cd33 "_law_small" = true) (k33 : PySem.W.keepIn K (.ref a33) = true)
    (n34 : PySem.W.nsIn K mainGlobals "_law_point" = some (some (.ref a34)))
    (l34 : K.lookup a34 = some ⟨oc34, od34, .func (PySem.W.fnOf "_law_point" "_law_point" (defArgs s__law_point) (defBody s__law_point) (defScope s__law_point) .none kV34 dc34 pm34 an34 cd34 ct34), sl34⟩)
    (c34 : PySem.W.codeIn K cd34 "_law_point" = true) (k34 : PySem.W.keepIn K (.ref a34) = true)
    (n35 : PySem.W.nsIn K mainGlobals "_law_path" = some (some (.ref a35)))
    (l35 : K.lookup a35 = some ⟨oc35, od35, .func (PySem.W.fnOf "_law_path" "_law_path" (defArgs s__law_path) (defBody s__law_path) (defScope s__law_path) .none kV35 dc35 pm35 an35 cd35 ct35), sl35⟩)
    (c35 : PySem.W.codeIn K cd35 "_law_path" = true) (k35 : PySem.W.keepIn K (.ref a35) = true)
    (n36 : PySem.W.nsIn K mainGlobals "_law_bernstein" = some (some (.ref a36)))
    (l36 : K.lookup a36 = some ⟨oc36, od36, .func (PySem.W.fnOf "_law_bernstein" "_law_bernstein" (defArgs s__law_bernstein) (defBody s__law_bernstein) (defScope s__law_bernstein) .none kV36 dc36 pm36 an36 cd36 ct36), sl36⟩)
    (c36 : PySem.W.codeIn K cd36 "_law_bernstein" = true) (k36 : PySem.W.keepIn K (.ref a36) = true)
    (n37 : PySem.W.nsIn K mainGlobals "_law_on_segment" = some (some (.ref a37)))
    (l37 : K.lookup a37 = some ⟨oc37, od37, .func (PySem.W.fnOf "_law_on_segment" "_law_on_segment" (defArgs s__law_on_segment) (defBody s__law_on_segment) (defScope s__law_on_segment) .none kV37 dc37 pm37 an37 cd37 ct37), sl37⟩)
    (c37 : PySem.W.codeIn K cd37 "_law_on_segment" = true) (k37 : PySem.W.keepIn K (.ref a37) = true)
    (n38 : PySem.W.nsIn K mainGlobals "_law_time" = some (some (.ref a38)))
    (l38 : K.lookup a38 = some ⟨oc38, od38, .func (PySem.W.fnOf "_law_time" "_law_time" (defArgs s__law_time) (defBody s__law_time) (defScope s__law_time) .none kV38 dc38 pm38 an38 cd38 ct38), sl38⟩)
    (c38 : PySem.W.codeIn K cd38 "_law_time" = true) (k38 : PySem.W.keepIn K (.ref a38) = true)
    (n39 : PySem.W.nsIn K mainGlobals "_law_less" = some (some (.ref a39)))
    (l39 : K.lookup a39 = some ⟨oc39, od39, .func (PySem.W.fnOf "_law_less" "_law_less" (defArgs s__law_less) (defBody s__law_less) (defScope s__law_less) .none kV39 dc39 pm39 an39 cd39 ct39), sl39⟩)
    (c39 : PySem.W.codeIn K cd39 "_law_less" = true) (k39 : PySem.W.keepIn K (.ref a39) = true)
    (n40 : PySem.W.nsIn K mainGlobals "_law_on_path" = some (some (.ref a40)))
    (l40 : K.lookup a40 = some ⟨oc40, od40, .func (PySem.W.fnOf "_law_on_path" "_law_on_path" (defArgs s__law_on_path) (defBody s__law_on_path) (defScope s__law_on_path) .none kV40 dc40 pm40 an40 cd40 ct40), sl40⟩)
    (c40 : PySem.W.codeIn K cd40 "_law_on_path" = true) (k40 : PySem.W.keepIn K (.ref a40) = true)
    (n41 : PySem.W.nsIn K mainGlobals "_law_times" = some (some (.ref a41)))
    (l41 : K.lookup a41 = some ⟨oc41, od41, .func (PySem.W.fnOf "_law_times" "_law_times" (defArgs s__law_times) (defBody s__law_times) (defScope s__law_times) .none kV41 dc41 pm41 an41 cd41 ct41), sl41⟩)
    (c41 : PySem.W.codeIn K cd41 "_law_times" = true) (k41 : PySem.W.keepIn K (.ref a41) = true)
    (n42 : PySem.W.nsIn K mainGlobals "_law_refused" = some (some (.ref a42)))
    (l42 : K.lookup a42 = some ⟨oc42, od42, .func (PySem.W.fnOf "_law_refused" "_law_refused" (defArgs s__law_refused) (defBody s__law_refused) (defScope s__law_refused) .none kV42 dc42 pm42 an42 cd42 ct42), sl42⟩)
    (c42 : PySem.W.codeIn K cd42 "_law_refused" = true) (k42 : PySem.W.keepIn K (.ref a42) = true)
    (n43 : PySem.W.nsIn K mainGlobals "_law_is_part" = some (some (.ref a43)))
    (l43 : K.lookup a43 = some ⟨oc43, od43, .func (PySem.W.fnOf "_law_is_part" "_law_is_part" (defArgs s__law_is_part) (defBody s__law_is_part) (defScope s__law_is_part) .none kV43 dc43 pm43 an43 cd43 ct43), sl43⟩)
    (c43 : PySem.W.codeIn K cd43 "_law_is_part" = true) (k43 : PySem.W.keepIn K (.ref a43) = true)
    (n44 : PySem.W.nsIn K mainGlobals "law" = some (some (.ref a44)))
    (l44 : K.lookup a44 = some ⟨oc44, od44, .func (PySem.W.fnOf "law" "law" (defArgs s_law) (defBody s_law) (defScope s_law) .none kV44 dc44 pm44 an44 cd44 ct44), sl44⟩)
    (c44 : PySem.W.codeIn K cd44 "law" = true) (k44 : PySem.W.keepIn K (.ref a44) = true)
    (xg0 : PySem.W.nsIn K mainGlobals "FontError" = some (some (.ref a0))) (xq0 : PySem.W.excIn K a0 [.type "ValueError", .type "Exception", .type "BaseException", .type "object"] "ValueError.__new__" = true) (xk0 : PySem.W.keepIn K (.ref a0) = true) (xt0 : PySem.W.typeIn K (.ref a0) = some (.type "type"))
    (xa0 : PySem.W.findIn K (.ref a0) "__getattribute__" = some (some (.builtin "BaseException.__getattribute__"))) (xb0 : PySem.W.findIn K (.ref a0) "__getattr__" = some none) (xc0 : PySem.W.subIn K (.ref a0) (.type "BaseException") = some true) (xd0 : PySem.W.hasDictIn K a0 = true)
    (xe0 : PySem.W.findIn K (.ref a0) "__class__" = some (some (.builtin "object.__class__"))) (xf0 : PySem.W.mroIn K a0 (.type "object") = some true) (xv0 : PySem.W.subIn K (.ref a0) (.type "ValueError") = some true)
    (xg1 : PySem.W.nsIn K mainGlobals "TooGreat" = some (some (.ref a1))) (xq1 : PySem.W.excIn K a1 [.type "ValueError", .type "Exception", .type "BaseException", .type "object"] "ValueError.__new__" = true) (xk1 : PySem.W.keepIn K (.ref a1) = true) (xt1 : PySem.W.typeIn K (.ref a1) = some (.type "type"))
    (xa1 : PySem.W.findIn K (.ref a1) "__getattribute__" = some (some (.builtin "BaseException.__getattribute__"))) (xb1 : PySem.W.findIn K (.ref a1) "__getattr__" = some none) (xc1 : PySem.W.subIn K (.ref a1) (.type "BaseException") = some true) (xd1 : PySem.W.hasDictIn K a1 = true)
    (xe1 : PySem.W.findIn K (.ref a1) "__class__" = some (some (.builtin "object.__class__"))) (xf1 : PySem.W.mroIn K a1 (.type "object") = some true) (xv1 : PySem.W.subIn K (.ref a1) (.type "ValueError") = some true)
    (xg2 : PySem.W.nsIn K mainGlobals "DivisionByZero" = some (some (.ref a2))) (xq2 : PySem.W.excIn K a2 [.type "ValueError", .type "Exception", .type "BaseException", .type "object"] "ValueError.__new__" = true) (xk2 : PySem.W.keepIn K (.ref a2) = true) (xt2 : PySem.W.typeIn K (.ref a2) = some (.type "type"))
    (xa2 : PySem.W.findIn K (.ref a2) "__getattribute__" = some (some (.builtin "BaseException.__getattribute__"))) (xb2 : PySem.W.findIn K (.ref a2) "__getattr__" = some none) (xc2 : PySem.W.subIn K (.ref a2) (.type "BaseException") = some true) (xd2 : PySem.W.hasDictIn K a2 = true)
    (xe2 : PySem.W.findIn K (.ref a2) "__class__" = some (some (.builtin "object.__class__"))) (xf2 : PySem.W.mroIn K a2 (.type "object") = some true) (xv2 : PySem.W.subIn K (.ref a2) (.type "ValueError") = some true)
    (xg3 : PySem.W.nsIn K mainGlobals "TooMany" = some (some (.ref a3))) (xq3 : PySem.W.excIn K a3 [.type "ValueError", .type "Exception", .type "BaseException", .type "object"] "ValueError.__new__" = true) (xk3 : PySem.W.keepIn K (.ref a3) = true) (xt3 : PySem.W.typeIn K (.ref a3) = some (.type "type"))
    (xa3 : PySem.W.findIn K (.ref a3) "__getattribute__" = some (some (.builtin "BaseException.__getattribute__"))) (xb3 : PySem.W.findIn K (.ref a3) "__getattr__" = some none) (xc3 : PySem.W.subIn K (.ref a3) (.type "BaseException") = some true) (xd3 : PySem.W.hasDictIn K a3 = true)
    (xe3 : PySem.W.findIn K (.ref a3) "__class__" = some (some (.builtin "object.__class__"))) (xf3 : PySem.W.mroIn K a3 (.type "object") = some true) (xv3 : PySem.W.subIn K (.ref a3) (.type "ValueError") = some true)
    (xm : PySem.W.specialIn K (.builtin "object.__class__") "__get__" = some (some (.builtin "getset_descriptor.__get__"))) (xn : PySem.W.takesIn K (.builtin "object.__class__") = some true)
    (e0_0 : PySem.W.subIn K (.ref a0) (.ref a0) = some true)
    (e0_1 : PySem.W.subIn K (.ref a0) (.ref a1) = some false)
    (e0_2 : PySem.W.subIn K (.ref a0) (.ref a2) = some false)
    (e0_3 : PySem.W.subIn K (.ref a0) (.ref a3) = some false)
    (e1_0 : PySem.W.subIn K (.ref a1) (.ref a0) = some true)
    (e1_1 : PySem.W.subIn K (.ref a1) (.ref a1) = some true)
    (e1_2 : PySem.W.subIn K (.ref a1) (.ref a2) = some false)
    (e1_3 : PySem.W.subIn K (.ref a1) (.ref a3) = some false)
    (e2_0 : PySem.W.subIn K (.ref a2) (.ref a0) = some true)
    (e2_1 : PySem.W.subIn K (.ref a2) (.ref a1) = some false)
    (e2_2 : PySem.W.subIn K (.ref a2) (.ref a2) = some true)
    (e2_3 : PySem.W.subIn K (.ref a2) (.ref a3) = some false)
    (e3_0 : PySem.W.subIn K (.ref a3) (.ref a0) = some true)
    (e3_1 : PySem.W.subIn K (.ref a3) (.ref a1) = some false)
    (e3_2 : PySem.W.subIn K (.ref a3) (.ref a2) = some false)
    (e3_3 : PySem.W.subIn K (.ref a3) (.ref a3) = some true)
    (z_abs : PySem.W.nsIn K mainGlobals "abs" = some none)
    (z_int : PySem.W.nsIn K mainGlobals "int" = some none)
    (z_isinstance : PySem.W.nsIn K mainGlobals "isinstance" = some none)
    (z_len : PySem.W.nsIn K mainGlobals "len" = some none)
    (z_range : PySem.W.nsIn K mainGlobals "range" = some none)
    (z_tuple : PySem.W.nsIn K mainGlobals "tuple" = some none)
    (l_gcd : PySem.W.nsIn K mainGlobals "gcd" = some (some (.builtin "math.gcd")))
    (c_LIMIT : PySem.W.nsIn K mainGlobals "LIMIT" = some (some (.int (1000000000000000000) t_LIMIT)))
    (c_MOST_KNOTS : PySem.W.nsIn K mainGlobals "MOST_KNOTS" = some (some (.int (24) t_MOST_KNOTS)))
    (ntZERO : PySem.W.nsIn K mainGlobals "ZERO" = some (some (.ref a49)))
    (ktZERO_0 : K.lookup a49 = some ⟨.type "tuple", odZERO_0, .seq (List.toArray [.int (0) tZERO_0_0, .int (1) tZERO_0_1]) nnZERO_0, slZERO_0⟩)
    (ntONE : PySem.W.nsIn K mainGlobals "ONE" = some (some (.ref a50)))
    (ktONE_0 : K.lookup a50 = some ⟨.type "tuple", odONE_0, .seq (List.toArray [.int (1) tONE_0_0, .int (1) tONE_0_1]) nnONE_0, slONE_0⟩)
    : LamX.LawAtS l w K CX0 22 63 "script" mg fa h := by
  have e := hfa.symm.trans (PySem.W.mg_of X G n44)
  cases e
  have F4 := fun_mk (st := s_ratio) l4 c4 k4
  have b4 := F4.binds (ps := ["n", "d"]) fun _ _ _ _ _ _ us hl => match us, hl with | [_, _], _ => rfl
  have F5 := fun_mk (st := s_add) l5 c5 k5
  have b5 := F5.binds (ps := ["a", "b"]) fun _ _ _ _ _ _ us hl => match us, hl with | [_, _], _ => rfl
  have F6 := fun_mk (st := s_subtract) l6 c6 k6
  have b6 := F6.binds (ps := ["a", "b"]) fun _ _ _ _ _ _ us hl => match us, hl with | [_, _], _ => rfl
  have F7 := fun_mk (st := s_multiply) l7 c7 k7
  have b7 := F7.binds (ps := ["a", "b"]) fun _ _ _ _ _ _ us hl => match us, hl with | [_, _], _ => rfl
  have F8 := fun_mk (st := s_divide) l8 c8 k8
  have b8 := F8.binds (ps := ["a", "b"]) fun _ _ _ _ _ _ us hl => match us, hl with | [_, _], _ => rfl
  have F9 := fun_mk (st := s_compare) l9 c9 k9
  have b9 := F9.binds (ps := ["a", "b"]) fun _ _ _ _ _ _ us hl => match us, hl with | [_, _], _ => rfl
  have F10 := fun_mk (st := s_floor_of) l10 c10 k10
  have b10 := F10.binds (ps := ["a"]) fun _ _ _ _ _ _ us hl => match us, hl with | [_], _ => rfl
  have F11 := fun_mk (st := s_check_knots) l11 c11 k11
  have b11 := F11.binds (ps := ["count"]) fun _ _ _ _ _ _ us hl => match us, hl with | [_], _ => rfl
  have F12 := fun_mk (st := s_length) l12 c12 k12
  have b12 := F12.binds (ps := ["path"]) fun _ _ _ _ _ _ us hl => match us, hl with | [_], _ => rfl
  have F13 := fun_mk (st := s_reverse) l13 c13 k13
  have b13 := F13.binds (ps := ["path"]) fun _ _ _ _ _ _ us hl => match us, hl with | [_], _ => rfl
  have F14 := fun_mk (st := s_exchanged) l14 c14 k14
  have b14 := F14.binds (ps := ["segment"]) fun _ _ _ _ _ _ us hl => match us, hl with | [_], _ => rfl
  have F15 := fun_mk (st := s_between) l15 c15 k15
  have b15 := F15.binds (ps := ["p", "q", "fraction"]) fun _ _ _ _ _ _ us hl => match us, hl with | [_, _, _], _ => rfl
  have F16 := fun_mk (st := s_part_between) l16 c16 k16
  have b16 := F16.binds (ps := ["p", "q", "fraction"]) fun _ _ _ _ _ _ us hl => match us, hl with | [_, _, _], _ => rfl
  have F17 := fun_mk (st := s_cut_segment) l17 c17 k17
  have b17 := F17.binds (ps := ["a", "segment", "b", "fraction"]) fun _ _ _ _ _ _ us hl => match us, hl with | [_, _, _, _], _ => rfl
  have F18 := fun_mk (st := s_point_at) l18 c18 k18
  have b18 := F18.binds (ps := ["path", "time"]) fun _ _ _ _ _ _ us hl => match us, hl with | [_, _], _ => rfl
  have F19 := fun_mk (st := s_time_on) l19 c19 k19
  have b19 := F19.binds (ps := ["path", "time"]) fun _ _ _ _ _ _ us hl => match us, hl with | [_, _], _ => rfl
  have F20 := fun_mk (st := s_clamped) l20 c20 k20
  have b20 := F20.binds (ps := ["path", "time"]) fun _ _ _ _ _ _ us hl => match us, hl with | [_, _], _ => rfl
  have F21 := fun_mk (st := s_segment_at) l21 c21 k21
  have b21 := F21.binds (ps := ["path", "n"]) fun _ _ _ _ _ _ us hl => match us, hl with | [_, _], _ => rfl
  have F22 := fun_mk (st := s_subpath) l22 c22 k22
  have b22 := F22.binds (ps := ["path", "start", "end"]) fun _ _ _ _ _ _ us hl => match us, hl with | [_, _, _], _ => rfl
  have F23 := fun_mk (st := s_part_of) l23 c23 k23
  have b23 := F23.binds (ps := ["path", "start", "end"]) fun _ _ _ _ _ _ us hl => match us, hl with | [_, _, _], _ => rfl
  have F24 := fun_mk (st := s_ceiling_of) l24 c24 k24
  have b24 := F24.binds (ps := ["a"]) fun _ _ _ _ _ _ us hl => match us, hl with | [_], _ => rfl
  have F25 := fun_mk (st := s_piece) l25 c25 k25
  have b25 := F25.binds (ps := ["path", "n", "start", "end"]) fun _ _ _ _ _ _ us hl => match us, hl with | [_, _, _, _], _ => rfl
  have F26 := fun_mk (st := s__law_cell) l26 c26 k26
  have b26 := F26.binds (ps := ["script", "k"]) fun _ _ _ _ _ _ us hl => match us, hl with | [_, _], _ => rfl
  have F27 := fun_mk (st := s__law_stream) l27 c27 k27
  have b27 := F27.binds (ps := ["cell"]) fun _ _ _ _ _ _ us hl => match us, hl with | [_], _ => rfl
  have F28 := fun_mk (st := s__law_next) l28 c28 k28
  have b28 := F28.binds (ps := ["stream", "size"]) fun _ _ _ _ _ _ us hl => match us, hl with | [_, _], _ => rfl
  have F29 := fun_mk (st := s__law_ratio) l29 c29 k29
  have b29 := F29.binds (ps := ["n", "d"]) fun _ _ _ _ _ _ us hl => match us, hl with | [_, _], _ => rfl
  have F30 := fun_mk (st := s__law_sum) l30 c30 k30
  have b30 := F30.binds (ps := ["a", "b"]) fun _ _ _ _ _ _ us hl => match us, hl with | [_, _], _ => rfl
  have F31 := fun_mk (st := s__law_difference) l31 c31 k31
  have b31 := F31.binds (ps := ["a", "b"]) fun _ _ _ _ _ _ us hl => match us, hl with | [_, _], _ => rfl
  have F32 := fun_mk (st := s__law_product) l32 c32 k32
  have b32 := F32.binds (ps := ["a", "b"]) fun _ _ _ _ _ _ us hl => match us, hl with | [_, _], _ => rfl
  have F33 := fun_mk (st := s__law_small) l33 c33 k33
  have b33 := F33.binds (ps := ["stream"]) fun _ _ _ _ _ _ us hl => match us, hl with | [_], _ => rfl
  have F34 := fun_mk (st := s__law_point) l34 c34 k34
  have b34 := F34.binds (ps := ["stream"]) fun _ _ _ _ _ _ us hl => match us, hl with | [_], _ => rfl
  have F35 := fun_mk (st := s__law_path) l35 c35 k35
  have b35 := F35.binds (ps := ["stream", "most"]) fun _ _ _ _ _ _ us hl => match us, hl with | [_, _], _ => rfl
  have F36 := fun_mk (st := s__law_bernstein) l36 c36 k36
  have b36 := F36.binds (ps := ["numbers", "u"]) fun _ _ _ _ _ _ us hl => match us, hl with | [_, _], _ => rfl
  have F37 := fun_mk (st := s__law_on_segment) l37 c37 k37
  have b37 := F37.binds (ps := ["a", "segment", "b", "u"]) fun _ _ _ _ _ _ us hl => match us, hl with | [_, _, _, _], _ => rfl
  have F38 := fun_mk (st := s__law_time) l38 c38 k38
  have b38 := F38.binds (ps := ["stream"]) fun _ _ _ _ _ _ us hl => match us, hl with | [_], _ => rfl
  have F39 := fun_mk (st := s__law_less) l39 c39 k39
  have b39 := F39.binds (ps := ["a", "b"]) fun _ _ _ _ _ _ us hl => match us, hl with | [_, _], _ => rfl
  have F40 := fun_mk (st := s__law_on_path) l40 c40 k40
  have b40 := F40.binds (ps := ["path", "time"]) fun _ _ _ _ _ _ us hl => match us, hl with | [_, _], _ => rfl
  have F41 := fun_mk (st := s__law_times) l41 c41 k41
  have b41 := F41.binds (ps := ["start", "end"]) fun _ _ _ _ _ _ us hl => match us, hl with | [_, _], _ => rfl
  have F42 := fun_mk (st := s__law_refused) l42 c42 k42
  have b42 := F42.binds (ps := ["path", "start", "end"]) fun _ _ _ _ _ _ us hl => match us, hl with | [_, _, _], _ => rfl
  have F43 := fun_mk (st := s__law_is_part) l43 c43 k43
  have b43 := F43.binds (ps := ["actual", "path", "times"]) fun _ _ _ _ _ _ us hl => match us, hl with | [_, _, _], _ => rfl
  have F44 := fun_mk (st := s_law) l44 c44 k44
  have b44 := F44.binds (ps := ["script"]) fun _ _ _ _ _ _ us hl => match us, hl with | [_], _ => rfl
  let A : Nat → Addr := fun | 0 => a0 | 1 => a1 | 2 => a2 | 3 => a3 | 4 => a4 | 5 => a5 | 6 => a6 | 7 => a7 | 8 => a8 | 9 => a9 | 10 => a10 | 11 => a11 | 12 => a12 | 13 => a13 | 14 => a14 | 15 => a15 | 16 => a16 | 17 => a17 | 18 => a18 | 19 => a19 | 20 => a20 | 21 => a21 | 22 => a22 | 23 => a23 | 24 => a24 | 25 => a25 | 26 => a26 | 27 => a27 | 28 => a28 | 29 => a29 | 30 => a30 | 31 => a31 | 32 => a32 | 33 => a33 | 34 => a34 | 35 => a35 | 36 => a36 | 37 => a37 | 38 => a38 | 39 => a39 | 40 => a40 | 41 => a41 | 42 => a42 | 43 => a43 | 44 => fa | 45 => cc13 | 46 => pp13 | 47 => cc23 | 48 => pp23 | 49 => a49 | 50 => a50 | _ => 0
  let D : Nat → FuncData := fun | 4 => PySem.W.fnOf "ratio" "ratio" (defArgs s_ratio) (defBody s_ratio) (defScope s_ratio) .none kV4 dc4 pm4 an4 cd4 ct4 | 5 => PySem.W.fnOf "add" "add" (defArgs s_add) (defBody s_add) (defScope s_add) .none kV5 dc5 pm5 an5 cd5 ct5 | 6 => PySem.W.fnOf "subtract" "subtract" (defArgs s_subtract) (defBody s_subtract) (defScope s_subtract) .none kV6 dc6 pm6 an6 cd6 ct6 | 7 => PySem.W.fnOf "multiply" "multiply" (defArgs s_multiply) (defBody s_multiply) (defScope s_multiply) .none kV7 dc7 pm7 an7 cd7 ct7 | 8 => PySem.W.fnOf "divide" "divide" (defArgs s_divide) (defBody s_divide) (defScope s_divide) .none kV8 dc8 pm8 an8 cd8 ct8 | 9 => PySem.W.fnOf "compare" "compare" (defArgs s_compare) (defBody s_compare) (defScope s_compare) .none kV9 dc9 pm9 an9 cd9 ct9 | 10 => PySem.W.fnOf "floor_of" "floor_of" (defArgs s_floor_of) (defBody s_floor_of) (defScope s_floor_of) .none kV10 dc10 pm10 an10 cd10 ct10 | 11 => PySem.W.fnOf "check_knots" "check_knots" (defArgs s_check_knots) (defBody s_check_knots) (defScope s_check_knots) .none kV11 dc11 pm11 an11 cd11 ct11 | 12 => PySem.W.fnOf "length" "length" (defArgs s_length) (defBody s_length) (defScope s_length) .none kV12 dc12 pm12 an12 cd12 ct12 | 13 => PySem.W.fnOf "reverse" "reverse" (defArgs s_reverse) (defBody s_reverse) (defScope s_reverse) .none kV13 dc13 pm13 an13 (.ref cc13) ct13 | 14 => PySem.W.fnOf "exchanged" "exchanged" (defArgs s_exchanged) (defBody s_exchanged) (defScope s_exchanged) .none kV14 dc14 pm14 an14 cd14 ct14 | 15 => PySem.W.fnOf "between" "between" (defArgs s_between) (defBody s_between) (defScope s_between) .none kV15 dc15 pm15 an15 cd15 ct15 | 16 => PySem.W.fnOf "part_between" "part_between" (defArgs s_part_between) (defBody s_part_between) (defScope s_part_between) .none kV16 dc16 pm16 an16 cd16 ct16 | 17 => PySem.W.fnOf "cut_segment" "cut_segment" (defArgs s_cut_segment) (defBody s_cut_segment) (defScope s_cut_segment) .none kV17 dc17 pm17 an17 cd17 ct17 | 18 => PySem.W.fnOf "point_at" "point_at" (defArgs s_point_at) (defBody s_point_at) (defScope s_point_at) .none kV18 dc18 pm18 an18 cd18 ct18 | 19 => PySem.W.fnOf "time_on" "time_on" (defArgs s_time_on) (defBody s_time_on) (defScope s_time_on) .none kV19 dc19 pm19 an19 cd19 ct19 | 20 => PySem.W.fnOf "clamped" "clamped" (defArgs s_clamped) (defBody s_clamped) (defScope s_clamped) .none kV20 dc20 pm20 an20 cd20 ct20 | 21 => PySem.W.fnOf "segment_at" "segment_at" (defArgs s_segment_at) (defBody s_segment_at) (defScope s_segment_at) .none kV21 dc21 pm21 an21 cd21 ct21 | 22 => PySem.W.fnOf "subpath" "subpath" (defArgs s_subpath) (defBody s_subpath) (defScope s_subpath) .none kV22 dc22 pm22 an22 cd22 ct22 | 23 => PySem.W.fnOf "part_of" "part_of" (defArgs s_part_of) (defBody s_part_of) (defScope s_part_of) .none kV23 dc23 pm23 an23 (.ref cc23) ct23 | 24 => PySem.W.fnOf "ceiling_of" "ceiling_of" (defArgs s_ceiling_of) (defBody s_ceiling_of) (defScope s_ceiling_of) .none kV24 dc24 pm24 an24 cd24 ct24 | 25 => PySem.W.fnOf "piece" "piece" (defArgs s_piece) (defBody s_piece) (defScope s_piece) .none kV25 dc25 pm25 an25 cd25 ct25 | 26 => PySem.W.fnOf "_law_cell" "_law_cell" (defArgs s__law_cell) (defBody s__law_cell) (defScope s__law_cell) .none kV26 dc26 pm26 an26 cd26 ct26 | 27 => PySem.W.fnOf "_law_stream" "_law_stream" (defArgs s__law_stream) (defBody s__law_stream) (defScope s__law_stream) .none kV27 dc27 pm27 an27 cd27 ct27 | 28 => PySem.W.fnOf "_law_next" "_law_next" (defArgs s__law_next) (defBody s__law_next) (defScope s__law_next) .none kV28 dc28 pm28 an28 cd28 ct28 | 29 => PySem.W.fnOf "_law_ratio" "_law_ratio" (defArgs s__law_ratio) (defBody s__law_ratio) (defScope s__law_ratio) .none kV29 dc29 pm29 an29 cd29 ct29 | 30 => PySem.W.fnOf "_law_sum" "_law_sum" (defArgs s__law_sum) (defBody s__law_sum) (defScope s__law_sum) .none kV30 dc30 pm30 an30 cd30 ct30 | 31 => PySem.W.fnOf "_law_difference" "_law_difference" (defArgs s__law_difference) (defBody s__law_difference) (defScope s__law_difference) .none kV31 dc31 pm31 an31 cd31 ct31 | 32 => PySem.W.fnOf "_law_product" "_law_product" (defArgs s__law_product) (defBody s__law_product) (defScope s__law_product) .none kV32 dc32 pm32 an32 cd32 ct32 | 33 => PySem.W.fnOf "_law_small" "_law_small" (defArgs s__law_small) (defBody s__law_small) (defScope s__law_small) .none kV33 dc33 pm33 an33 cd33 ct33 | 34 => PySem.W.fnOf "_law_point" "_law_point" (defArgs s__law_point) (defBody s__law_point) (defScope s__law_point) .none kV34 dc34 pm34 an34 cd34 ct34 | 35 => PySem.W.fnOf "_law_path" "_law_path" (defArgs s__law_path) (defBody s__law_path) (defScope s__law_path) .none kV35 dc35 pm35 an35 cd35 ct35 | 36 => PySem.W.fnOf "_law_bernstein" "_law_bernstein" (defArgs s__law_bernstein) (defBody s__law_bernstein) (defScope s__law_bernstein) .none kV36 dc36 pm36 an36 cd36 ct36 | 37 => PySem.W.fnOf "_law_on_segment" "_law_on_segment" (defArgs s__law_on_segment) (defBody s__law_on_segment) (defScope s__law_on_segment) .none kV37 dc37 pm37 an37 cd37 ct37 | 38 => PySem.W.fnOf "_law_time" "_law_time" (defArgs s__law_time) (defBody s__law_time) (defScope s__law_time) .none kV38 dc38 pm38 an38 cd38 ct38 | 39 => PySem.W.fnOf "_law_less" "_law_less" (defArgs s__law_less) (defBody s__law_less) (defScope s__law_less) .none kV39 dc39 pm39 an39 cd39 ct39 | 40 => PySem.W.fnOf "_law_on_path" "_law_on_path" (defArgs s__law_on_path) (defBody s__law_on_path) (defScope s__law_on_path) .none kV40 dc40 pm40 an40 cd40 ct40 | 41 => PySem.W.fnOf "_law_times" "_law_times" (defArgs s__law_times) (defBody s__law_times) (defScope s__law_times) .none kV41 dc41 pm41 an41 cd41 ct41 | 42 => PySem.W.fnOf "_law_refused" "_law_refused" (defArgs s__law_refused) (defBody s__law_refused) (defScope s__law_refused) .none kV42 dc42 pm42 an42 cd42 ct42 | 43 => PySem.W.fnOf "_law_is_part" "_law_is_part" (defArgs s__law_is_part) (defBody s__law_is_part) (defScope s__law_is_part) .none kV43 dc43 pm43 an43 cd43 ct43 | _ => PySem.W.fnOf "law" "law" (defArgs s_law) (defBody s_law) (defScope s_law) .none kV44 dc44 pm44 an44 cd44 ct44
  have q13 := tabs "reverse" a13 cc13 pp13 _ _ _ _ _ _ tr13 (PySem.W.mg_of X G n13) l13 rfl rfl tl13 tv13
  have q23 := tabs "part_of" a23 cc23 pp23 _ _ _ _ _ _ tr23 (PySem.W.mg_of X G n23) l23 rfl rfl tl23 tv23
  have T : ∀ base : Heap, (∀ p ∈ [(cc13, pp13), (cc23, pp23)], GxR.TabB base mg p.1 p.2) → Txt K mg A D base := fun base TB =>
    {F_ratio := F4,
     m_ratio := PySem.W.mg_of X G n4,
     b_ratio := b4,
     F_add := F5,
     m_add := PySem.W.mg_of X G n5,
     b_add := b5,
     F_subtract := F6,
     m_subtract := PySem.W.mg_of X G n6,
     b_subtract := b6,
     F_multiply := F7,
     m_multiply := PySem.W.mg_of X G n7,
     b_multiply := b7,
     F_divide := F8,
     m_divide := PySem.W.mg_of X G n8,
     b_divide := b8,
     F_compare := F9,
     m_compare := PySem.W.mg_of X G n9,
     b_compare := b9,
     F_floor_of := F10,
     m_floor_of := PySem.W.mg_of X G n10,
     b_floor_of := b10,
     F_check_knots := F11,
     m_check_knots := PySem.W.mg_of X G n11,
     b_check_knots := b11,
     F_length := F12,
     m_length := PySem.W.mg_of X G n12,
     b_length := b12,
     F_reverse := F13,
     m_reverse := PySem.W.mg_of X G n13,
     b_reverse := b13,
     k_reverse := rfl,
     t_reverse := TB (cc13, pp13) (.head _),
     F_exchanged := F14,
     m_exchanged := PySem.W.mg_of X G n14,
     b_exchanged := b14,
     F_between := F15,
     m_between := PySem.W.mg_of X G n15,
     b_between := b15,
     F_part_between := F16,
     m_part_between := PySem.W.mg_of X G n16,
     b_part_between := b16,
     F_cut_segment := F17,
     m_cut_segment := PySem.W.mg_of X G n17,
     b_cut_segment := b17,
     F_point_at := F18,
     m_point_at := PySem.W.mg_of X G n18,
     b_point_at := b18,
     F_time_on := F19,
     m_time_on := PySem.W.mg_of X G n19,
     b_time_on := b19,
     F_clamped := F20,
     m_clamped := PySem.W.mg_of X G n20,
     b_clamped := b20,
     F_segment_at := F21,
     m_segment_at := PySem.W.mg_of X G n21,
     b_segment_at := b21,
     F_subpath := F22,
     m_subpath := PySem.W.mg_of X G n22,
     b_subpath := b22,
     F_part_of := F23,
     m_part_of := PySem.W.mg_of X G n23,
     b_part_of := b23,
     k_part_of := rfl,
     t_part_of := TB (cc23, pp23) (.tail _ (.head _)),
     F_ceiling_of := F24,
     m_ceiling_of := PySem.W.mg_of X G n24,
     b_ceiling_of := b24,
     F_piece := F25,
     m_piece := PySem.W.mg_of X G n25,
     b_piece := b25,
     F__law_cell := F26,
     m__law_cell := PySem.W.mg_of X G n26,
     b__law_cell := b26,
     F__law_stream := F27,
     m__law_stream := PySem.W.mg_of X G n27,
     b__law_stream := b27,
     F__law_next := F28,
     m__law_next := PySem.W.mg_of X G n28,
     b__law_next := b28,
     F__law_ratio := F29,
     m__law_ratio := PySem.W.mg_of X G n29,
     b__law_ratio := b29,
     F__law_sum := F30,
     m__law_sum := PySem.W.mg_of X G n30,
     b__law_sum := b30,
     F__law_difference := F31,
     m__law_difference := PySem.W.mg_of X G n31,
     b__law_difference := b31,
     F__law_product := F32,
     m__law_product := PySem.W.mg_of X G n32,
     b__law_product := b32,
     F__law_small := F33,
     m__law_small := PySem.W.mg_of X G n33,
     b__law_small := b33,
     F__law_point := F34,
     m__law_point := PySem.W.mg_of X G n34,
     b__law_point := b34,
     F__law_path := F35,
     m__law_path := PySem.W.mg_of X G n35,
     b__law_path := b35,
     F__law_bernstein := F36,
     m__law_bernstein := PySem.W.mg_of X G n36,
     b__law_bernstein := b36,
     F__law_on_segment := F37,
     m__law_on_segment := PySem.W.mg_of X G n37,
     b__law_on_segment := b37,
     F__law_time := F38,
     m__law_time := PySem.W.mg_of X G n38,
     b__law_time := b38,
     F__law_less := F39,
     m__law_less := PySem.W.mg_of X G n39,
     b__law_less := b39,
     F__law_on_path := F40,
     m__law_on_path := PySem.W.mg_of X G n40,
     b__law_on_path := b40,
     F__law_times := F41,
     m__law_times := PySem.W.mg_of X G n41,
     b__law_times := b41,
     F__law_refused := F42,
     m__law_refused := PySem.W.mg_of X G n42,
     b__law_refused := b42,
     F__law_is_part := F43,
     m__law_is_part := PySem.W.mg_of X G n43,
     b__law_is_part := b43,
     F_law := F44,
     m_law := PySem.W.mg_of X G n44,
     b_law := b44,
     x_FontError := ⟨PySem.W.mg_of X G xg0, xq0, xk0, xt0, ⟨xa0, xb0, xc0, xd0, xe0, xm, xn, xf0⟩, xv0⟩,
     x_TooGreat := ⟨PySem.W.mg_of X G xg1, xq1, xk1, xt1, ⟨xa1, xb1, xc1, xd1, xe1, xm, xn, xf1⟩, xv1⟩,
     x_DivisionByZero := ⟨PySem.W.mg_of X G xg2, xq2, xk2, xt2, ⟨xa2, xb2, xc2, xd2, xe2, xm, xn, xf2⟩, xv2⟩,
     x_TooMany := ⟨PySem.W.mg_of X G xg3, xq3, xk3, xt3, ⟨xa3, xb3, xc3, xd3, xe3, xm, xn, xf3⟩, xv3⟩,
     e_FontError_FontError := e0_0,
     e_FontError_TooGreat := e0_1,
     e_FontError_DivisionByZero := e0_2,
     e_FontError_TooMany := e0_3,
     e_TooGreat_FontError := e1_0,
     e_TooGreat_TooGreat := e1_1,
     e_TooGreat_DivisionByZero := e1_2,
     e_TooGreat_TooMany := e1_3,
     e_DivisionByZero_FontError := e2_0,
     e_DivisionByZero_TooGreat := e2_1,
     e_DivisionByZero_DivisionByZero := e2_2,
     e_DivisionByZero_TooMany := e2_3,
     e_TooMany_FontError := e3_0,
     e_TooMany_TooGreat := e3_1,
     e_TooMany_DivisionByZero := e3_2,
     e_TooMany_TooMany := e3_3,
     z_abs := PySem.W.mg_none_of X G z_abs,
     z_int := PySem.W.mg_none_of X G z_int,
     z_isinstance := PySem.W.mg_none_of X G z_isinstance,
     z_len := PySem.W.mg_none_of X G z_len,
     z_range := PySem.W.mg_none_of X G z_range,
     z_tuple := PySem.W.mg_none_of X G z_tuple,
     l_gcd := PySem.W.mg_of X G l_gcd,
     c_ZERO := PySem.W.mg_of X G ntZERO,
     d_ZERO := fun H => (Z.dpk (vs := [.int (0), .int (1)]) ktZERO_0 (Nat.le_of_ble_eq_true rfl) (.cons ⟨_, rfl⟩ (.cons ⟨_, rfl⟩ .nil)) (.cons (.int _) (.cons (.int _) .nil))),
     c_ONE := PySem.W.mg_of X G ntONE,
     d_ONE := fun H => (Z.dpk (vs := [.int (1), .int (1)]) ktONE_0 (Nat.le_of_ble_eq_true rfl) (.cons ⟨_, rfl⟩ (.cons ⟨_, rfl⟩ .nil)) (.cons (.int _) (.cons (.int _) .nil))),
     c_LIMIT := ⟨_, PySem.W.mg_of X G c_LIMIT, _, rfl⟩,
     c_MOST_KNOTS := ⟨_, PySem.W.mg_of X G c_MOST_KNOTS, _, rfl⟩}
  exact ⟨_, [(cc13, pp13), (cc23, pp23)], sp_law K pp13 pp23, (List.forall_mem_cons.mpr ⟨q13.1, List.forall_mem_cons.mpr ⟨q23.1, fun _ h => nomatch h⟩⟩), (List.forall_mem_cons.mpr ⟨tn13, List.forall_mem_cons.mpr ⟨tn23, fun _ h => nomatch h⟩⟩), (List.forall_mem_cons.mpr ⟨q13.2, List.forall_mem_cons.mpr ⟨q23.2, fun _ h => nomatch h⟩⟩), fun s v => .of_eq rfl, fun H a ns hl _ hH hS => ⟨a, ns, rfl, hS, hl, ⟨#[], hH (cc13, pp13) (.head _), by simp [TriplesOk]⟩, ⟨#[], hH (cc23, pp23) (.tail _ (.head _)), by simp [TriplesOk]⟩, fun _ => rfl⟩, fun base _ _ TB => ok_law (T base fun p hp => ⟨(TB p hp).1, (TB p hp).2, (TB p hp).3⟩)⟩
end G
open PySem PySem.W PyProof.Rows
set_option maxRecDepth 100000 in
set_option maxHeartbeats 0 in
theorem PySem.Challenge.cw_fontwinding_k15_subpaths_holds : PySem.Challenge.rw_fontwinding_k15_subpaths.Holds := by
  w_on; o_law; k_head; (case hw => w_witness2)
  k_fill
  refine Tg.walk_tabs (l := PySem.Challenge.rw_fontwinding_k15_subpaths) (n := 63) (k := 22) (x := "script") (CX := fun _ => L2.CX0) rfl (by decide) rfl ⟨rfl, by decide, by decide⟩ (fun w h Y => PySem.W.kIn_of Y) ?F (fun _ _ _ _ _ h => h)
  case F =>
    intro w mg fa h KX G0 hmg tabs
    refine' G.all_mk KX G0 hmg tabs ?n4 ?l4 ?c4 ?k4 ?n5 ?l5 ?c5 ?k5 ?n6 ?l6 ?c6 ?k6 ?n7 ?l7 ?c7 ?k7 ?n8 ?l8 ?c8 ?k8 ?n9 ?l9 ?c9 ?k9 ?n10 ?l10 ?c10 ?k10 ?n11 ?l11 ?c11 ?k11 ?n12 ?l12 ?c12 ?k12 ?n13 ?l13 ?c13 ?k13 ?tl13 ?tv13 ?tn13 ?tr13 ?n14 ?l14 ?c14 ?k14 ?n15 ?l15 ?c15 ?k15 ?n16 ?l16 ?c16 ?k16 ?n17 ?l17 ?c17 ?k17 ?n18 ?l18 ?c18 ?k18 ?n19 ?l19 ?c19 ?k19 ?n20 ?l20 ?c20 ?k20 ?n21 ?l21 ?c21 ?k21 ?n22 ?l22 ?c22 ?k22 ?n23 ?l23 ?c23 ?k23 ?tl23 ?tv23 ?tn23 ?tr23 ?n24 ?l24 ?c24 ?k24 ?n25 ?l25 ?c25 ?k25 ?n26 ?l26 ?c26 ?k26 ?n27 ?l27 ?c27 ?k27 ?n28 ?l28 ?c28 ?k28 ?n29 ?l29 ?c29 ?k29 ?n30 ?l30 ?c30 ?k30 ?n31 ?l31 ?c31 ?k31 ?n32 ?l32 ?c32 ?k32 ?n33 ?l33 ?c33 ?k33 ?n34 ?l34 ?c34 ?k34 ?n35 ?l35 ?c35 ?k35 ?n36 ?l36 ?c36 ?k36 ?n37 ?l37 ?c37 ?k37 ?n38 ?l38 ?c38 ?k38 ?n39 ?l39 ?c39 ?k39 ?n40 ?l40 ?c40 ?k40 ?n41 ?l41 ?c41 ?k41 ?n42 ?l42 ?c42 ?k42 ?n43 ?l43 ?c43 ?k43 ?n44 ?l44 ?c44 ?k44 ?xg0 ?xq0 ?xk0 ?xt0 ?xa0 ?xb0 ?xc0 ?xd0 ?xe0 ?xf0 ?xv0 ?xg1 ?xq1 ?xk1 ?xt1 ?xa1 ?xb1 ?xc1 ?xd1 ?xe1 ?xf1 ?xv1 ?xg2 ?xq2 ?xk2 ?xt2 ?xa2 ?xb2 ?xc2 ?xd2 ?xe2 ?xf2 ?xv2 ?xg3 ?xq3 ?xk3 ?xt3 ?xa3 ?xb3 ?xc3 ?xd3 ?xe3 ?xf3 ?xv3 ?xm ?xn ?e0_0 ?e0_1 ?e0_2 ?e0_3 ?e1_0 ?e1_1 ?e1_2 ?e1_3 ?e2_0 ?e2_1 ?e2_2 ?e2_3 ?e3_0 ?e3_1 ?e3_2 ?e3_3 ?z_abs ?z_int ?z_isinstance ?z_len ?z_range ?z_tuple ?l_gcd ?c_LIMIT ?c_MOST_KNOTS ?ntZERO ?ktZERO_0 ?ntONE ?ktONE_0
    (case n4 => k_is)
    (case l4 => k_is)
    (case c4 => k_is)
    (case k4 => k_is)
    (case n5 => k_is)
    (case l5 => k_is)
    (case c5 => k_is)
    (case k5 => k_is)
    (case n6 => k_is)
    (case l6 => k_is)
    (case c6 => k_is)
    (case k6 => k_is)
    (case n7 => k_is)
    (case l7 => k_is)
    (case c7 => k_is)
    (case k7 => k_is)
    (case n8 => k_is)
    (case l8 => k_is)
    (case c8 => k_is)
    (case k8 => k_is)
    (case n9 => k_is)
    (case l9 => k_is)
    (case c9 => k_is)
    (case k9 => k_is)
    (case n10 => k_is)
    (case l10 => k_is)
    (case c10 => k_is)
    (case k10 => k_is)
    (case n11 => k_is)
    (case l11 => k_is)
    (case c11 => k_is)
    (case k11 => k_is)
    (case n12 => k_is)
    (case l12 => k_is)
    (case c12 => k_is)
    (case k12 => k_is)
    (case n13 => k_is)
    (case l13 => k_is)
    (case c13 => k_is)
    (case k13 => k_is)
    (case tl13 => k_is)
    (case tv13 => exact rfl)
    (case tn13 => kernel_rfl)
    (case tr13 => kernel_rfl)
    (case n14 => k_is)
    (case l14 => k_is)
    (case c14 => k_is)
    (case k14 => k_is)
    (case n15 => k_is)
    (case l15 => k_is)
    (case c15 => k_is)
    (case k15 => k_is)
    (case n16 => k_is)
    (case l16 => k_is)
    (case c16 => k_is)
    (case k16 => k_is)
    (case n17 => k_is)
    (case l17 => k_is)
    (case c17 => k_is)
    (case k17 => k_is)
    (case n18 => k_is)
    (case l18 => k_is)
    (case c18 => k_is)
    (case k18 => k_is)
    (case n19 => k_is)
    (case l19 => k_is)
    (case c19 => k_is)
    (case k19 => k_is)
    (case n20 => k_is)
    (case l20 => k_is)
    (case c20 => k_is)
    (case k20 => k_is)
    (case n21 => k_is)
    (case l21 => k_is)
    (case c21 => k_is)
    (case k21 => k_is)
    (case n22 => k_is)
    (case l22 => k_is)
    (case c22 => k_is)
    (case k22 => k_is)
    (case n23 => k_is)
    (case l23 => k_is)
    (case c23 => k_is)
    (case k23 => k_is)
    (case tl23 => k_is)
    (case tv23 => exact rfl)
    (case tn23 => kernel_rfl)
    (case tr23 => kernel_rfl)
    (case n24 => k_is)
    (case l24 => k_is)
    (case c24 => k_is)
    (case k24 => k_is)
    (case n25 => k_is)
    (case l25 => k_is)
    (case c25 => k_is)
    (case k25 => k_is)
    (case n26 => k_is)
    (case l26 => k_is)
    (case c26 => k_is)
    (case k26 => k_is)
    (case n27 => k_is)
    (case l27 => k_is)
    (case c27 => k_is)
    (case k27 => k_is)
    (case n28 => k_is)
    (case l28 => k_is)
    (case c28 => k_is)
    (case k28 => k_is)
    (case n29 => k_is)
    (case l29 => k_is)
    (case c29 => k_is)
    (case k29 => k_is)
    (case n30 => k_is)
    (case l30 => k_is)
    (case c30 => k_is)
    (case k30 => k_is)
    (case n31 => k_is)
    (case l31 => k_is)
    (case c31 => k_is)
    (case k31 => k_is)
    (case n32 => k_is)
    (case l32 => k_is)
    (case c32 => k_is)
    (case k32 => k_is)
    (case n33 => k_is)
    (case l33 => k_is)
    (case c33 => k_is)
    (case k33 => k_is)
    (case n34 => k_is)
    (case l34 => k_is)
    (case c34 => k_is)
    (case k34 => k_is)
    (case n35 => k_is)
    (case l35 => k_is)
    (case c35 => k_is)
    (case k35 => k_is)
    (case n36 => k_is)
    (case l36 => k_is)
    (case c36 => k_is)
    (case k36 => k_is)
    (case n37 => k_is)
    (case l37 => k_is)
    (case c37 => k_is)
    (case k37 => k_is)
    (case n38 => k_is)
    (case l38 => k_is)
    (case c38 => k_is)
    (case k38 => k_is)
    (case n39 => k_is)
    (case l39 => k_is)
    (case c39 => k_is)
    (case k39 => k_is)
    (case n40 => k_is)
    (case l40 => k_is)
    (case c40 => k_is)
    (case k40 => k_is)
    (case n41 => k_is)
    (case l41 => k_is)
    (case c41 => k_is)
    (case k41 => k_is)
    (case n42 => k_is)
    (case l42 => k_is)
    (case c42 => k_is)
    (case k42 => k_is)
    (case n43 => k_is)
    (case l43 => k_is)
    (case c43 => k_is)
    (case k43 => k_is)
    (case n44 => k_is)
    (case l44 => k_is)
    (case c44 => k_is)
    (case k44 => k_is)
    (case xg0 => k_is)
    (case xq0 => k_exc)
    (case xk0 => k_is)
    (case xt0 => k_is)
    (case xa0 => k_is)
    (case xb0 => k_is)
    (case xc0 => k_is)
    (case xd0 => k_is)
    (case xe0 => k_is)
    (case xf0 => k_is)
    (case xv0 => k_is)
    (case xg1 => k_is)
    (case xq1 => k_exc)
    (case xk1 => k_is)
    (case xt1 => k_is)
    (case xa1 => k_is)
    (case xb1 => k_is)
    (case xc1 => k_is)
    (case xd1 => k_is)
    (case xe1 => k_is)
    (case xf1 => k_is)
    (case xv1 => k_is)
    (case xg2 => k_is)
    (case xq2 => k_exc)
    (case xk2 => k_is)
    (case xt2 => k_is)
    (case xa2 => k_is)
    (case xb2 => k_is)
    (case xc2 => k_is)
    (case xd2 => k_is)
    (case xe2 => k_is)
    (case xf2 => k_is)
    (case xv2 => k_is)
    (case xg3 => k_is)
    (case xq3 => k_exc)
    (case xk3 => k_is)
    (case xt3 => k_is)
    (case xa3 => k_is)
    (case xb3 => k_is)
    (case xc3 => k_is)
    (case xd3 => k_is)
    (case xe3 => k_is)
    (case xf3 => k_is)
    (case xv3 => k_is)
    (case xm => k_is)
    (case xn => k_is)
    (case e0_0 => k_is)
    (case e0_1 => k_is)
    (case e0_2 => k_is)
    (case e0_3 => k_is)
    (case e1_0 => k_is)
    (case e1_1 => k_is)
    (case e1_2 => k_is)
    (case e1_3 => k_is)
    (case e2_0 => k_is)
    (case e2_1 => k_is)
    (case e2_2 => k_is)
    (case e2_3 => k_is)
    (case e3_0 => k_is)
    (case e3_1 => k_is)
    (case e3_2 => k_is)
    (case e3_3 => k_is)
    (case z_abs => k_is)
    (case z_int => k_is)
    (case z_isinstance => k_is)
    (case z_len => k_is)
    (case z_range => k_is)
    (case z_tuple => k_is)
    (case l_gcd => k_is)
    (case c_LIMIT => k_is)
    (case c_MOST_KNOTS => k_is)
    (case ntZERO => k_is)
    (case ktZERO_0 => k_is)
    (case ntONE => k_is)
    (case ktONE_0 => k_is)
