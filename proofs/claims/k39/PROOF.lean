import PyProof.Rows.All
import Wide.All
import OpenK.AllK
import Wide.FinOn
import HandS.GenOver
import HandS.GenList
import HandS.Zip
import HandS.ForMost
import HandS.ForExc
import HandS.Wide
import HandS.Gcd
import HandS.IsInst
import HandS.ExcIs
import HandS.TryMany
import HandS.Evl
import HandS.Style
import HandS.SetBool
import HandS.Strs
import HandS.SortInts
import PyProof.ListIndex
import PyProof.ListIndexNeg
import HandS.TupSets
import HandS.SortRule
import HandS.TupLe
import HandS.Deep
import HandS.More
import HandS.Defaults
import HandS.MakeKwOnly
import HandS.Property
import HandS.Walk
import HandS.CallSlots
import HandS.Comp
import PySem.Challenge.RW_fontwinding_k39_whole_pictures_by_deeds
set_option Elab.async false
set_option linter.all false
set_option maxRecDepth 100000
set_option maxHeartbeats 4000000
/-! Sw: what runs while generators sleep leaves them as they are. Each sleeper is put in the place of one that cannot be woken; a run that ends there has woken none, so it ends alike with the sleepers themselves. -/
namespace Sw
open PySem
open Sem (wp)
/-- asleep, and without a way on -/
def St (x : GenState) : Prop := ∃ (w : String) (l : List Value) (c : Code) (p : Pos) (fs : List Frame) (cl : Bool), x = .suspended (fun _ => .unsupported w) l c p fs cl
def NG (x : GenState) : Prop := ∀ k l c p fs cl, x = .suspended k l c p fs cl → splitAtGen fs = none
def Rl (x y : GenState) : Prop := (x = y ∧ NG x) ∨ (St x ∧ x.seen = y.seen ∧ x.bare = y.bare)
structure GR (a b : Array GenState) : Prop where
  sz : b.size = a.size
  rl : ∀ (i : Nat) x y, a[i]? = some x → b[i]? = some y → Rl x y
structure Kp (a b c d : Array GenState) : Prop where
  kp : ∀ (i : Nat) x, a[i]? = some x → St x → c[i]? = some x ∧ d[i]? = b[i]?
theorem st_fresh {c : Code} : ¬ St (.fresh c) := by rintro ⟨_, _, _, _, _, _, e⟩; cases e
theorem st_run : ¬ St .running := by rintro ⟨_, _, _, _, _, _, e⟩; cases e
theorem st_fin : ¬ St .finished := by rintro ⟨_, _, _, _, _, _, e⟩; cases e
theorem rl_self {x : GenState} (h : NG x) : Rl x x := .inl ⟨rfl, h⟩
theorem ng_run : NG .running := by intro _ _ _ _ _ _ e; cases e
theorem ng_fin : NG .finished := by intro _ _ _ _ _ _ e; cases e
theorem ng_fresh {c : Code} : NG (.fresh c) := by intro _ _ _ _ _ _ e; cases e
variable {a b c d e f : Array GenState} {g : Nat} {x y : GenState}
theorem GR.get (h : GR a b) (e : a[g]? = some x) : ∃ y, b[g]? = some y ∧ Rl x y := by
  have hg : g < a.size := (Array.getElem?_eq_some_iff.mp e).1
  have hb : g < b.size := by rw [h.sz]; exact hg
  exact ⟨b[g], Array.getElem?_eq_getElem hb, h.rl g x _ e (Array.getElem?_eq_getElem hb)⟩
theorem GR.awake (h : GR a b) (e : a[g]? = some x) (n : ¬ St x) : b[g]? = some x ∧ NG x := by
  obtain ⟨y, hy, r⟩ := h.get e
  rcases r with ⟨rfl, ng⟩ | ⟨s, _⟩
  · exact ⟨hy, ng⟩
  · exact absurd s n
theorem get_set {i : Nat} : (a.setIfInBounds g x)[i]? = if i = g then (if g < a.size then some x else none) else a[i]? := by
  by_cases h : i = g
  · subst h
    rw [if_pos rfl]
    by_cases h2 : i < a.size
    · rw [if_pos h2]; simp [h2]
    · rw [if_neg h2]; simp [h2]
  · rw [if_neg h, Array.getElem?_setIfInBounds_ne (Ne.symm h)]
theorem GR.set (h : GR a b) (r : Rl x y) : GR (a.setIfInBounds g x) (b.setIfInBounds g y) := by
  refine ⟨by rw [Array.size_setIfInBounds, Array.size_setIfInBounds, h.sz], fun i u v e1 e2 => ?_⟩
  rw [get_set] at e1 e2
  by_cases z : i = g
  · rw [if_pos z] at e1 e2
    rw [h.sz] at e2
    by_cases z2 : g < a.size
    · rw [if_pos z2] at e1 e2
      cases e1; cases e2; exact r
    · rw [if_neg z2] at e1
      cases e1
  · rw [if_neg z] at e1 e2
    exact h.rl i u v e1 e2
theorem GR.push (h : GR a b) (r : Rl x y) : GR (a.push x) (b.push y) := by
  refine ⟨by rw [Array.size_push, Array.size_push, h.sz], fun i u v e1 e2 => ?_⟩
  rw [Array.getElem?_push] at e1 e2
  rw [h.sz] at e2
  split at e1
  · rename_i z
    rw [if_pos z] at e2
    cases e1; cases e2; exact r
  · rename_i z
    rw [if_neg z] at e2
    exact h.rl i u v e1 e2
theorem Kp.refl : Kp a b a b := ⟨fun _ _ e _ => ⟨e, rfl⟩⟩
theorem Kp.trans (h : Kp a b c d) (k : Kp c d e f) : Kp a b e f := ⟨fun i x ex sx => by
  obtain ⟨h1, h2⟩ := h.kp i x ex sx
  obtain ⟨k1, k2⟩ := k.kp i x h1 sx
  exact ⟨k1, k2.trans h2⟩⟩
theorem Kp.pushed (h : GR a b) : Kp a b (a.push x) (b.push y) := ⟨fun i u e _ => by
  have hi : i < a.size := (Array.getElem?_eq_some_iff.mp e).1
  rw [Array.getElem?_push, Array.getElem?_push, if_neg (by omega), if_neg (by rw [h.sz]; omega)]
  exact ⟨e, rfl⟩⟩
/-- one that is awake is set -/
theorem Kp.setr (k : Kp a b c d) (n : ∀ z, a[g]? = some z → ¬ St z) : Kp a b (c.setIfInBounds g x) (d.setIfInBounds g y) := ⟨fun i u e su => by
  have hne : i ≠ g := fun z => n u (by rw [← z]; exact e) su
  obtain ⟨h1, h2⟩ := k.kp i u e su
  rw [get_set, get_set, if_neg hne, if_neg hne]
  exact ⟨h1, h2⟩⟩
theorem Kp.setl (k : Kp (a.setIfInBounds g x) (b.setIfInBounds g y) c d) (n : ∀ z, a[g]? = some z → ¬ St z) : Kp a b c d := ⟨fun i u e su => by
  have hne : i ≠ g := fun z => n u (by rw [← z]; exact e) su
  obtain ⟨h1, h2⟩ := k.kp i u (by rw [get_set, if_neg hne]; exact e) su
  rw [get_set, if_neg hne] at h2
  exact ⟨h1, h2⟩⟩
theorem split_ret {k : Result → Sem Fin} {h : Option Value} {g : Bool} {l : List Value} {c : Code} {p : Pos} {kp : List Value} {fs : List Frame} (e : splitAtGen (.ret k h g l c p kp :: fs) = none) : splitAtGen fs = none := by
  have e : (splitAtGen fs).map _ = none := e
  cases q : splitAtGen fs with
  | none => rfl
  | some z => rw [q] at e; cases e
theorem split_gen {n : Nat} {k : GenResult → Sem Fin} {l : List Value} {c : Code} {p : Pos} {fs : List Frame} (e : splitAtGen (.gen n k l c p :: fs) = none) : False := by
  cases (show some _ = none from e)
theorem split_app : ∀ {fs gs : List Frame}, splitAtGen fs = none → splitAtGen gs = none → splitAtGen (fs ++ gs) = none
  | [], _, _, h => h
  | .gen .. :: _, _, h, _ => (split_gen h).elim
  | .ret k h g l c p kp :: fs, gs, h1, h2 => by
    show (splitAtGen (fs ++ gs)).map _ = none
    rw [split_app (split_ret h1) h2]
    rfl
def NGE : End → Prop
  | .ret _ => True
  | .susp _ _ _ _ _ _ fs => splitAtGen fs = none
theorem nge_gen {e : End} (h : NGE e) : NG e.genState := by
  cases e with
  | ret r => exact ng_fin
  | susp v g l k c p fs =>
    intro k' l' c' p' fs' cl' q
    cases q
    exact h
/-- nothing that cannot go on ends -/
theorem no_run {M : Model} {Γ : Ctx} {p : Pos} {t : Sem Fin} {fs : List Frame} {s s' : Shared} {e : End} (h : Runs M Γ p t fs s e s') : ∀ w, t ≠ .unsupported w := by
  induction h with
  | segRet _ _ ih _ => exact ih
  | segGen _ _ ih _ => exact ih
  | segSuspOut _ _ ih => exact ih
  | segSuspGen _ _ _ _ ih _ => exact ih
  | _ => intro w z; cases z
theorem not_st {M : Model} {Γ : Ctx} {p : Pos} {r : Resume} {k : Resume → Sem Fin} {l : List Value} {c : Code} {p0 : Pos} {fs : List Frame} {cl : Bool} {s s' : Shared} {e : End} (h : Runs M Γ p (k r) fs s e s') : ¬ St (.suspended k l c p0 fs cl) := by
  rintro ⟨w, _, _, _, _, _, z⟩
  cases z
  exact no_run h w rfl
theorem runs_sw {M : Model} {Γ : Ctx} {p : Pos} {t : Sem Fin} {fs : List Frame} {s s' : Shared} {e : End} (h : Runs M Γ p t fs s e s') : splitAtGen fs = none → ∀ G, GR s.gens G →
    ∃ G', Runs M Γ p t fs { s with gens := G } e { s' with gens := G' } ∧ GR s'.gens G' ∧ NGE e ∧ Kp s.gens G s'.gens G' := by
  induction h with
  | done => intro _ G hG; exact ⟨G, .done, hG, trivial, .refl⟩
  | raise => intro _ G hG; exact ⟨G, .raise, hG, trivial, .refl⟩
  | again q _ ih => intro hf G hG; obtain ⟨G', r, a1, a2, a3⟩ := ih hf G hG; exact ⟨G', .again q r, a1, a2, a3⟩
  | rule _ ih => intro hf G hG; obtain ⟨G', r, a1, a2, a3⟩ := ih hf G hG; exact ⟨G', .rule r, a1, a2, a3⟩
  | «at» _ ih => intro hf G hG; obtain ⟨G', r, a1, a2, a3⟩ := ih hf G hG; exact ⟨G', .at r, a1, a2, a3⟩
  | load q _ ih => intro hf G hG; obtain ⟨G', r, a1, a2, a3⟩ := ih hf G hG; exact ⟨G', .load q r, a1, a2, a3⟩
  | update q _ ih => intro hf G hG; obtain ⟨G', r, a1, a2, a3⟩ := ih hf G hG; exact ⟨G', .update q r, a1, a2, a3⟩
  | loadIfAlive _ ih => intro hf G hG; obtain ⟨G', r, a1, a2, a3⟩ := ih hf G hG; exact ⟨G', .loadIfAlive r, a1, a2, a3⟩
  | point _ ih => intro hf G hG; obtain ⟨G', r, a1, a2, a3⟩ := ih hf G hG; exact ⟨G', .point r, a1, a2, a3⟩
  | alloc _ ih => intro hf G hG; obtain ⟨G', r, a1, a2, a3⟩ := ih hf G hG; exact ⟨G', .alloc r, a1, a2, a3⟩
  | fresh _ ih => intro hf G hG; obtain ⟨G', r, a1, a2, a3⟩ := ih hf G hG; exact ⟨G', .fresh r, a1, a2, a3⟩
  | ask _ ih => intro hf G hG; obtain ⟨G', r, a1, a2, a3⟩ := ih hf G hG; exact ⟨G', .ask r, a1, a2, a3⟩
  | choose q _ ih => intro hf G hG; obtain ⟨G', r, a1, a2, a3⟩ := ih hf G hG; exact ⟨G', .choose q r, a1, a2, a3⟩
  | os _ ih => intro hf G hG; obtain ⟨G', r, a1, a2, a3⟩ := ih hf G hG; exact ⟨G', .os r, a1, a2, a3⟩
  | handled _ ih => intro hf G hG; obtain ⟨G', r, a1, a2, a3⟩ := ih hf G hG; exact ⟨G', .handled r, a1, a2, a3⟩
  | genState q _ ih =>
    intro hf G hG
    obtain ⟨G', r, a1, a2, a3⟩ := ih hf G hG
    obtain ⟨y, hy, rl⟩ := hG.get q
    rcases rl with ⟨rfl, _⟩ | ⟨_, z, _⟩
    · exact ⟨G', .genState hy r, a1, a2, a3⟩
    · rw [z] at r
      exact ⟨G', .genState hy r, a1, a2, a3⟩
  | stack _ ih => intro hf G hG; obtain ⟨G', r, a1, a2, a3⟩ := ih hf G hG; exact ⟨G', .stack r, a1, a2, a3⟩
  | thread _ ih => intro hf G hG; obtain ⟨G', r, a1, a2, a3⟩ := ih hf G hG; exact ⟨G', .thread r, a1, a2, a3⟩
  | newGen _ ih =>
    intro hf G hG
    obtain ⟨G', r, a1, a2, a3⟩ := ih hf _ (hG.push (rl_self ng_fresh))
    rw [← hG.sz] at r
    exact ⟨G', .newGen r, a1, a2, (Kp.pushed hG).trans a3⟩
  | call _ _ ih1 ih2 =>
    intro hf G hG
    obtain ⟨G1, r1, a1, a2, a3⟩ := ih1 rfl G hG
    obtain ⟨G2, r2, b1, b2, b3⟩ := ih2 rfl G1 a1
    exact ⟨G2, .call r1 r2, b1, b2, a3.trans b3⟩
  | callSusp _ ih =>
    intro hf G hG
    obtain ⟨G1, r1, a1, a2, a3⟩ := ih rfl G hG
    exact ⟨G1, .callSusp r1, a1, split_app a2 rfl, a3⟩
  | yield => intro hf G hG; exact ⟨G, .yield, hG, rfl, .refl⟩
  | @resumeFresh Γ p g l k s c e1 s1 e s' q _ hq _ ih1 ih2 =>
    intro hf G hG
    obtain ⟨hy, _⟩ := hG.awake q st_fresh
    have na : ∀ z, s.gens[g]? = some z → ¬ St z := fun z hz => by rw [q] at hz; cases hz; exact st_fresh
    obtain ⟨G1, r1, a1, a2, a3⟩ := ih1 rfl _ (hG.set (g := g) (rl_self ng_run))
    obtain ⟨G2, r2, b1, b2, b3⟩ := ih2 hf _ (a1.set (g := g) (rl_self (nge_gen a2)))
    exact ⟨G2, .resumeFresh hy r1 hq r2, b1, b2, ((Kp.setl a3 na).setr na).trans b3⟩
  | @resumeSuspended Γ p g r l k s k0 l0 c0 p0 fs cl e1 s1 e s' q h1 hq _ ih1 ih2 =>
    intro hf G hG
    obtain ⟨hy, ng⟩ := hG.awake q (not_st h1)
    have na : ∀ z, s.gens[g]? = some z → ¬ St z := fun z hz => by rw [q] at hz; cases hz; exact not_st h1
    obtain ⟨G1, r1, a1, a2, a3⟩ := ih1 (ng _ _ _ _ _ _ rfl) _ (hG.set (g := g) (rl_self ng_run))
    obtain ⟨G2, r2, b1, b2, b3⟩ := ih2 hf _ (a1.set (g := g) (rl_self (nge_gen a2)))
    exact ⟨G2, .resumeSuspended hy r1 hq r2, b1, b2, ((Kp.setl a3 na).setr na).trans b3⟩
  | resumeJustStarted q n _ ih =>
    intro hf G hG
    obtain ⟨hy, _⟩ := hG.awake q st_fresh
    obtain ⟨G', r, a1, a2, a3⟩ := ih hf G hG
    exact ⟨G', .resumeJustStarted hy n r, a1, a2, a3⟩
  | resumeThrowFresh q _ ih =>
    intro hf G hG
    obtain ⟨hy, _⟩ := hG.awake q st_fresh
    obtain ⟨G', r, a1, a2, a3⟩ := ih hf _ (hG.set (rl_self ng_fin))
    exact ⟨G', .resumeThrowFresh hy r, a1, a2, Kp.setl a3 (fun z hz => by rw [q] at hz; cases hz; exact st_fresh)⟩
  | resumeRunning q _ ih =>
    intro hf G hG
    obtain ⟨hy, _⟩ := hG.awake q st_run
    obtain ⟨G', r, a1, a2, a3⟩ := ih hf G hG
    exact ⟨G', .resumeRunning hy r, a1, a2, a3⟩
  | resumeFinished q _ ih =>
    intro hf G hG
    obtain ⟨hy, _⟩ := hG.awake q st_fin
    obtain ⟨G', r, a1, a2, a3⟩ := ih hf G hG
    exact ⟨G', .resumeFinished hy r, a1, a2, a3⟩
  | segRet _ _ ih1 ih2 =>
    intro hf G hG
    obtain ⟨G1, r1, a1, a2, a3⟩ := ih1 rfl G hG
    obtain ⟨G2, r2, b1, b2, b3⟩ := ih2 (split_ret hf) G1 a1
    exact ⟨G2, .segRet r1 r2, b1, b2, a3.trans b3⟩
  | segGen _ _ _ _ => intro hf; exact (split_gen hf).elim
  | segSuspOut q _ ih =>
    intro hf G hG
    obtain ⟨G1, r1, a1, a2, a3⟩ := ih rfl G hG
    exact ⟨G1, .segSuspOut q r1, a1, split_app a2 q, a3⟩
  | segSuspGen q _ _ _ _ _ => intro hf; rw [hf] at q; cases q
theorem returns_sw {M : Model} {Γ : Ctx} {p : Pos} {s s' : Shared} {r : Result} (h : Returns M Γ p s r s') {G : Array GenState} (hG : GR s.gens G) :
    ∃ G', Returns M Γ p { s with gens := G } r { s' with gens := G' } ∧ GR s'.gens G' ∧ Kp s.gens G s'.gens G' := by
  obtain ⟨G', a, b, _, d⟩ := runs_sw h rfl G hG
  exact ⟨G', a, b, d⟩
theorem wakes_sw {M : Model} {Γ : Ctx} {p : Pos} {g : Nat} {r : Resume} {s s' : Shared} {res : GenResult} (h : Wakes M Γ p g r s res s') {G : Array GenState} (hG : GR s.gens G) :
    ∃ G', Wakes M Γ p g r { s with gens := G } res { s' with gens := G' } ∧ GR s'.gens G' ∧ Kp s.gens G s'.gens G' := by
  unfold Wakes at h
  split at h
  · exact h.elim
  · rename_i c q
    obtain ⟨hy, _⟩ := hG.awake q st_fresh
    have na : ∀ z, s.gens[g]? = some z → ¬ St z := fun z hz => by rw [q] at hz; cases hz; exact st_fresh
    split at h
    · obtain ⟨e1, s1, hr, hq, rfl, rfl⟩ := h
      obtain ⟨G1, r1, a1, a2, a3⟩ := runs_sw hr rfl _ (hG.set (g := g) (rl_self ng_run))
      refine ⟨G1.setIfInBounds g e1.genState, ?_, a1.set (rl_self (nge_gen a2)), (Kp.setl a3 na).setr na⟩
      unfold Wakes
      rw [show ({ s with gens := G } : Shared).gens[g]? = some (.fresh c) from hy]
      exact ⟨e1, _, r1, hq, rfl, rfl⟩
    · obtain ⟨rfl, rfl⟩ := h
      refine ⟨G, ?_, hG, .refl⟩
      unfold Wakes
      rw [show ({ s' with gens := G } : Shared).gens[g]? = some (.fresh c) from hy]
      rename_i v hv
      cases v <;> first | exact ⟨rfl, rfl⟩ | exact absurd rfl hv
    · obtain ⟨rfl, rfl⟩ := h
      refine ⟨G.setIfInBounds g .finished, ?_, hG.set (rl_self ng_fin), (Kp.refl).setr na⟩
      unfold Wakes
      rw [show ({ s with gens := G } : Shared).gens[g]? = some (.fresh c) from hy]
      exact ⟨rfl, rfl⟩
  · rename_i k0 l0 c0 p0 fs cl q
    obtain ⟨e1, s1, hr, hq, rfl, rfl⟩ := h
    obtain ⟨hy, ng⟩ := hG.awake q (not_st hr)
    have na : ∀ z, s.gens[g]? = some z → ¬ St z := fun z hz => by rw [q] at hz; cases hz; exact not_st hr
    obtain ⟨G1, r1, a1, a2, a3⟩ := runs_sw hr (ng _ _ _ _ _ _ rfl) _ (hG.set (g := g) (rl_self ng_run))
    refine ⟨G1.setIfInBounds g e1.genState, ?_, a1.set (rl_self (nge_gen a2)), (Kp.setl a3 na).setr na⟩
    unfold Wakes
    rw [show ({ s with gens := G } : Shared).gens[g]? = _ from hy]
    exact ⟨e1, _, r1, hq, rfl, rfl⟩
  · rename_i q
    obtain ⟨rfl, rfl⟩ := h
    obtain ⟨hy, _⟩ := hG.awake q st_run
    refine ⟨G, ?_, hG, .refl⟩
    unfold Wakes
    rw [show ({ s' with gens := G } : Shared).gens[g]? = _ from hy]
    exact ⟨rfl, rfl⟩
  · rename_i q
    obtain ⟨rfl, rfl⟩ := h
    obtain ⟨hy, _⟩ := hG.awake q st_fin
    refine ⟨G, ?_, hG, .refl⟩
    unfold Wakes
    rw [show ({ s' with gens := G } : Shared).gens[g]? = _ from hy]
    exact ⟨rfl, rfl⟩
/-- how the run with the sleepers stands to the run without them -/
def SW (a b : Array GenState) (s0 s' : Shared) : Prop := ∃ G', s' = { s0 with gens := G' } ∧ GR s0.gens G' ∧ Kp a b s0.gens G'
theorem SW.pre {a b c d : Array GenState} {s0 s' : Shared} (k : Kp a b c d) (h : SW c d s0 s') : SW a b s0 s' := by
  obtain ⟨G', e, r, k'⟩ := h
  exact ⟨G', e, r, k.trans k'⟩
theorem wp_sw {α : Type} (M : Model) (Γ : Ctx) (t : Sem α) : ∀ (Q : α → Pos → Shared → Prop) (E : Value → Pos → Shared → Prop) (p : Pos) (s : Shared) (G : Array GenState), GR s.gens G → wp M Γ t Q E p s →
    wp M Γ t (fun a p' s' => ∃ s0, SW s.gens G s0 s' ∧ Q a p' s0) (fun e p' s' => ∃ s0, SW s.gens G s0 s' ∧ E e p' s0) p { s with gens := G } := by
  have fin : ∀ {s : Shared} {G : Array GenState}, GR s.gens G → SW s.gens G s { s with gens := G } := fun h => ⟨_, rfl, h, .refl⟩
  induction t with
  | pure a => intro Q E p s G hG h; exact ⟨s, fin hG, h⟩
  | raise e => intro Q E p s G hG h; exact ⟨s, fin hG, h⟩
  | unsupported _ => intro Q E p s G _ h; exact h
  | finish _ => intro Q E p s G _ h; exact h
  | rule _ k ih => intro Q E p s G hG h; exact ih () Q E p s G hG h
  | «at» p' k ih => intro Q E p s G hG h; exact ih () Q E p' s G hG h
  | load a _ k ih => intro Q E p s G hG h; obtain ⟨o, ho, h⟩ := h; exact ⟨o, ho, ih o Q E p s G hG h⟩
  | update a _ f k ih => intro Q E p s G hG h; exact ⟨h.1, ih () Q E p { s with heap := s.heap.update a f } G hG h.2⟩
  | loadIfAlive a k ih => intro Q E p s G hG h; exact ih _ Q E p s G hG h
  | point _ k ih => intro Q E p s G hG h; exact ih () Q E p s G hG h
  | register _ _ => intro Q E p s G _ h; exact h
  | alloc o k ih => intro Q E p s G hG h; exact ih _ Q E p { s with heap := s.heap.push o } G hG h
  | fresh k ih => intro Q E p s G hG h; exact ih _ Q E p { s with toks := s.toks + 1 } G hG h
  | ask k ih => intro Q E p s G hG h; exact ih _ Q E p s G hG h
  | choose src m k ih => intro Q E p s G hG h; exact ⟨h.1, ih _ Q E p { s with drawn := s.drawn.bump src } G hG h.2⟩
  | os q _ k ih => intro Q E p s G hG h; exact ih _ Q E p { s with os := (Os.step s.os q).1 } G hG h
  | call c hd _ _ k ih =>
    intro Q E p s G hG h
    obtain ⟨r, s', hr, h⟩ := h
    obtain ⟨G1, r1, a1, a2⟩ := returns_sw hr hG
    exact ⟨r, _, r1, Sem.wp_mono M Γ _ (fun _ _ _ ⟨s0, w, q⟩ => ⟨s0, w.pre a2, q⟩) (fun _ _ _ ⟨s0, w, q⟩ => ⟨s0, w.pre a2, q⟩) p _ (ih r Q E p s' G1 a1 h)⟩
  | handled own k ih => intro Q E p s G hG h; exact ih _ Q E p s G hG h
  | genState g k ih =>
    intro Q E p s G hG h
    obtain ⟨st, hs, h⟩ := h
    obtain ⟨y, hy, rl⟩ := hG.get hs
    have es : st.seen = y.seen := by
      rcases rl with ⟨rfl, _⟩ | ⟨_, z, _⟩
      · rfl
      · exact z
    refine ⟨y, hy, ?_⟩
    rw [← es]
    exact ih _ Q E p s G hG h
  | newGen c k ih =>
    intro Q E p s G hG h
    have k1 : Kp s.gens G (s.gens.push (.fresh c)) (G.push (.fresh c)) := .pushed hG
    have e := ih _ Q E p { s with gens := s.gens.push (.fresh c) } (G.push (.fresh c)) (hG.push (rl_self ng_fresh)) h
    have e2 : wp M Γ (k s.gens.size) (fun a p' s' => ∃ s0, SW s.gens G s0 s' ∧ Q a p' s0) (fun x p' s' => ∃ s0, SW s.gens G s0 s' ∧ E x p' s0) p { s with gens := G.push (.fresh c) } :=
      Sem.wp_mono M Γ _ (fun _ _ _ ⟨s0, w, q⟩ => ⟨s0, w.pre k1, q⟩) (fun _ _ _ ⟨s0, w, q⟩ => ⟨s0, w.pre k1, q⟩) p _ e
    show wp M Γ (k ({ s with gens := G } : Shared).gens.size) _ _ p _
    rw [show ({ s with gens := G } : Shared).gens.size = s.gens.size from hG.sz]
    exact e2
  | resume g r _ k ih =>
    intro Q E p s G hG h
    obtain ⟨res, s', hw, h⟩ := h
    obtain ⟨G1, r1, a1, a2⟩ := wakes_sw hw hG
    exact ⟨res, _, r1, Sem.wp_mono M Γ _ (fun _ _ _ ⟨s0, w, q⟩ => ⟨s0, w.pre a2, q⟩) (fun _ _ _ ⟨s0, w, q⟩ => ⟨s0, w.pre a2, q⟩) p _ (ih res Q E p s' G1 a1 h)⟩
  | yield _ _ _ _ => intro Q E p s G _ h; exact h
  | stack k ih => intro Q E p s G hG h; exact ih _ Q E p s G hG h
  | fork _ _ => intro Q E p s G _ h; exact h
  | thread k ih => intro Q E p s G hG h; exact ih _ Q E p s G hG h
  | await _ _ _ _ _ => intro Q E p s G _ h; exact h
/-- the sleepers cannot be woken -/
def lull : GenState → GenState
  | .suspended _ l c p fs cl => .suspended (fun _ => .unsupported "") l c p fs cl
  | x => x
theorem rl_lull (x : GenState) : Rl (lull x) x := by
  cases x with
  | suspended k l c p fs cl => exact .inr ⟨⟨_, _, _, _, _, _, rfl⟩, rfl, rfl⟩
  | fresh c => exact rl_self ng_fresh
  | running => exact rl_self ng_run
  | finished => exact rl_self ng_fin
def lulled (s : Shared) : Shared := { s with gens := s.gens.map lull }
theorem gr_lull (s : Shared) : GR (lulled s).gens s.gens := by
  refine ⟨by show s.gens.size = (s.gens.map lull).size; rw [Array.size_map], fun i x y e1 e2 => ?_⟩
  have e1 : (s.gens.map lull)[i]? = some x := e1
  rw [Array.getElem?_map, e2] at e1
  cases e1
  exact rl_lull y
theorem bare_lull (x : GenState) : (lull x).bare = x.bare := by cases x <;> rfl
theorem allBare_lull {s : Shared} (h : PyProof.Rows.AllBare s.gens) : PyProof.Rows.AllBare (lulled s).gens := fun y hy => by
  obtain ⟨x, hx, rfl⟩ := Array.mem_map.mp (show y ∈ s.gens.map lull from hy)
  rw [bare_lull]
  exact h x hx
/-- behind the run: the sleepers of before sleep on -/
structure Back (s s0 s' : Shared) : Prop where
  eq : ∃ G, s0 = { s' with gens := G }
  bare : PyProof.Rows.AllBare s0.gens → PyProof.Rows.AllBare s'.gens
  sleep : ∀ (i : Nat) k l c p fs cl, s.gens[i]? = some (.suspended k l c p fs cl) → s'.gens[i]? = s.gens[i]?
theorem Back.of {s s0 s' : Shared} (h : SW (lulled s).gens s.gens s0 s') : Back s s0 s' := by
  obtain ⟨G', rfl, r, k⟩ := h
  refine ⟨⟨s0.gens, rfl⟩, fun hb y hy => ?_, fun i kk l c p fs cl e => ?_⟩
  · obtain ⟨i, hi, rfl⟩ := Array.mem_iff_getElem.mp (show y ∈ G' from hy)
    have hi2 : i < s0.gens.size := by rw [← r.sz]; exact hi
    have rl := r.rl i s0.gens[i] G'[i] (Array.getElem?_eq_getElem hi2) (Array.getElem?_eq_getElem hi)
    have hb2 := hb _ (Array.getElem_mem hi2)
    rcases rl with ⟨z, _⟩ | ⟨_, _, z⟩
    · show (G'[i]).bare = true
      rw [← z]; exact hb2
    · show (G'[i]).bare = true
      rw [← z]; exact hb2
  · have e1 : (lulled s).gens[i]? = some (lull (.suspended kk l c p fs cl)) := by
      show (s.gens.map lull)[i]? = _
      rw [Array.getElem?_map, e]
      rfl
    exact (k.kp i _ e1 ⟨_, _, _, _, _, _, rfl⟩).2
/-- THE RULE -/
theorem wpAny_sw {α : Type} {M : Model} {A : Around} {t : Sem α} {Q : α → Shared → Prop} {E : Value → Shared → Prop} {s : Shared} (h : wpAny M A t Q E (lulled s)) :
    wpAny M A t (fun a s' => ∃ s0, Back s s0 s' ∧ Q a s0) (fun e s' => ∃ s0, Back s s0 s' ∧ E e s0) s := fun Γ p hΓ =>
  Sem.wp_mono M Γ t (fun _ _ _ ⟨s0, w, q⟩ => ⟨s0, .of w, q⟩) (fun _ _ _ ⟨s0, w, q⟩ => ⟨s0, .of w, q⟩) p s (wp_sw M Γ t _ _ p (lulled s) s.gens (gr_lull s) (h Γ p hΓ))
end Sw

/-! Gl: loops over a generator of the program's own that hands out what a zip gives. -/
namespace Gl
open PySem PySem.Spec PyProof.Rows L2 GenW
/-! ### a run up to its next stop, whatever is wanted there -/
def Sg (M : Model) (A : Around) (Φ : End → Shared → Prop) (c : Code) (t : Sem PySem.Fin) (fs : List Frame) (s : Shared) : Prop :=
  ∀ Γ p, Γ.code = c → Γ.Woken A → ∃ e s', Runs M Γ p t fs s e s' ∧ Φ e s'
section
variable {M : Model} {A : Around} {Φ : End → Shared → Prop} {c : Code} {fs : List Frame} {s : Shared}
theorem sg_wrap {α : Type} {m : Sem α} {K : α → Sem PySem.Fin} {J : Value → Sem PySem.Fin} {gd lv} (h : wpAny M (A.over c fs) m (fun a s' => Sg M A Φ c (K a) fs s') (fun x s' => Sg M A Φ c (J x) fs s') s) : Sg M A Φ c (m.wrap K J gd lv) fs s := by
  rintro Γ p rfl hΓ
  refine runs_wrap_of_wp K J gd lv m (h (Γ.over fs) p (hΓ.over fs)) ?_ ?_
  · intro a p' s' h'
    exact h' Γ p' rfl hΓ
  · intro x p' s' h'
    exact h' Γ p' rfl hΓ
theorem sg_bind {α : Type} {m : Sem α} {K : α → Sem PySem.Fin} (h : wpAny M (A.over c fs) m (fun a s' => Sg M A Φ c (K a) fs s') (fun x s' => Sg M A Φ c (.raise x) fs s') s) : Sg M A Φ c (m >>= K) fs s := by
  rw [Sem.bind_eq_wrap']
  exact sg_wrap h
theorem sg_at {p' : Pos} {k : Unit → Sem PySem.Fin} (h : Sg M A Φ c (k ()) fs s) : Sg M A Φ c (.at p' k) fs s :=
  sg_wrap (m := standAt p') (K := k) (J := .raise) (gd := id) (lv := id) (wpAny_standAt h)
theorem sg_point {l : List Value} {k : Unit → Sem PySem.Fin} (h : Sg M A Φ c (k ()) fs s) : Sg M A Φ c (.point l k) fs s :=
  sg_wrap (m := point) (K := k) (J := .raise) (gd := id) (lv := fun _ => l) (wpAny_point h)
theorem sg_call {c' : Code} {h g l} {k : Result → Sem PySem.Fin} (hc : ∀ p, Sg M A Φ c' (M.den c') (.ret k h g l c p [] :: fs) s) : Sg M A Φ c (.call c' h g l k) fs s := by
  rintro Γ p rfl hΓ
  obtain ⟨e, s', hr, he⟩ := hc p (Γ.goto c') p rfl (hΓ.goto c')
  exact ⟨e, s', runs_call_seg hr, he⟩
theorem sg_leaf {k h g l c₁ p₁ kp} (r : Result) (hk : Sg M A Φ c₁ (k r) fs s) : Sg M A Φ c (leafOf r) (.ret k h g l c₁ p₁ kp :: fs) s := by
  rintro Γ p rfl hΓ
  obtain ⟨e, s', hr, he⟩ := hk (Γ.goto c₁) p₁ rfl (hΓ.goto c₁)
  exact ⟨e, s', Runs.pop r hr, he⟩
theorem sg_again {c' : Code} (hq : c'.quiet = true) (hc : Sg M A Φ c' (M.den c') fs s) : Sg M A Φ c (.pure (.again c')) fs s := by
  rintro Γ p rfl hΓ
  obtain ⟨e, s', hr, he⟩ := hc (Γ.goto c') p rfl (hΓ.goto c')
  exact ⟨e, s', Runs.head (c₁ := c') (fun _ _ x => .again hq x) hr, he⟩
theorem sg_end (r : Result) (h : Φ (.ret r) s) : Sg M A Φ c (leafOf r) [] s := by
  rintro Γ p rfl _
  exact ⟨.ret r, s, Runs.leaf r, h⟩
theorem sg_yield {v g l} {k : Resume → Sem PySem.Fin} (hfs : splitAtGen fs = none) (h : ∀ p, Φ (.susp v g l k c p fs) s) : Sg M A Φ c (.yield v g l k) fs s := by
  rintro Γ p rfl _
  exact ⟨_, s, Runs.yield' fs hfs, h p⟩
end
/-! ### a heap up to L -/
def cut (h : Heap) (L : Nat) : Heap := ⟨h.objs.extract 0 L, h.life⟩
theorem cut_size {h : Heap} {L : Nat} (hl : L ≤ h.objs.size) : (cut h L).objs.size = L := by
  show (h.objs.extract 0 L).size = L
  rw [Array.size_extract]
  omega
theorem cut_lt {h : Heap} {L b : Nat} (hb : b < L) : (cut h L).get? b = h.get? b := by
  have e : (h.objs.extract 0 L)[b]? = h.objs[b]? := by
    rw [Array.getElem?_extract]
    by_cases hs : b < h.objs.size
    · rw [if_pos (by omega)]
      simp
    · rw [if_neg (by omega)]
      simp [hs]
  show (match (h.objs.extract 0 L)[b]? with | some ⟨_, _, .freed, _⟩ => none | o => o) = _
  rw [e]
  rfl
theorem cut_some {h : Heap} {L b : Nat} {o : Obj} (hl : L ≤ h.objs.size) (e : (cut h L).get? b = some o) : b < L ∧ h.get? b = some o := by
  have hb : b < L := by
    have := Heap.lt_size e
    rwa [cut_size hl] at this
  rw [cut_lt hb] at e
  exact ⟨hb, e⟩
theorem cut_funs {h base : Heap} {L : Nat} : ∀ {l : List Env}, h.FunFrames base l → (∀ b ∈ frs l, b < L) → (cut h L).FunFrames base l
  | [], _, _ => trivial
  | env :: l, ⟨hk, ⟨a, o, hf, hn, ho, hd⟩, hr⟩, hb => by
    have e : frs (env :: l) = a :: frs l := by
      show List.filterMap _ _ = _
      rw [List.filterMap_cons, hf]
      rfl
    rw [e] at hb
    exact ⟨hk, ⟨a, o, hf, hn, by rw [cut_lt (hb a List.mem_cons_self)]; exact ho, hd⟩, cut_funs hr fun b hm => hb b (List.mem_cons_of_mem _ hm)⟩
/-! ### all that stands, as it stands -/
/-- an object that is a list of these -/
def IsL (o : Obj) (xs : List V) : Prop := xs.length ≤ sizeLine ∧ ∃ (its : List Value) (n : Nat), Vals xs its ∧ o = { cls := .type "list", data := .seq its.toArray n }
def Fz (h base : Heap) (fs pr : List Addr) (ls : Addr → Option (List V)) : Hp := fun b =>
  if b ∈ pr then none else if b ∈ fs then none else if (base.get? b).isSome then none else
    match h.get? b with
    | none => none
    | some o => match ls b with
      | some xs => some (.frz o (.lst xs))
      | none => some (.frz o (.own 0))
section
variable {h base : Heap} {fs pr : List Addr} {ls : Addr → Option (List V)} {P : Program} {w : World}
theorem fz_pr {b : Addr} (hb : b ∈ pr) : Fz h base fs pr ls b = none := if_pos hb
theorem fz_fs {b : Addr} (hb : b ∈ fs) : Fz h base fs pr ls b = none := by
  unfold Fz
  by_cases hp : b ∈ pr
  · rw [if_pos hp]
  · rw [if_neg hp, if_pos hb]
theorem fz_base {b : Addr} {o : Obj} (hb : base.get? b = some o) : Fz h base fs pr ls b = none := by
  unfold Fz
  by_cases hp : b ∈ pr
  · rw [if_pos hp]
  by_cases hf : b ∈ fs
  · rw [if_neg hp, if_pos hf]
  · rw [if_neg hp, if_neg hf, if_pos (by rw [hb]; rfl)]
theorem fz_new {b : Addr} (hb : h.get? b = none) : Fz h base fs pr ls b = none := by
  unfold Fz
  by_cases hp : b ∈ pr
  · rw [if_pos hp]
  by_cases hf : b ∈ fs
  · rw [if_neg hp, if_pos hf]
  by_cases hz : (base.get? b).isSome = true
  · rw [if_neg hp, if_neg hf, if_pos hz]
  · rw [if_neg hp, if_neg hf, if_neg hz, hb]
/-- whatever else stands is locked -/
theorem fz_get {b : Addr} {o : Obj} (hb : h.get? b = some o) (h1 : b ∉ pr) (h2 : b ∉ fs) (h3 : base.get? b = none) : ∃ u, Fz h base fs pr ls b = some (.frz o u) := by
  unfold Fz
  rw [if_neg h1, if_neg h2, if_neg (by rw [h3]; exact Bool.false_ne_true), hb]
  cases ls b with
  | none => exact ⟨_, rfl⟩
  | some xs => exact ⟨_, rfl⟩
theorem fz_lst {b : Addr} {o : Obj} {xs : List V} (hb : h.get? b = some o) (h1 : b ∉ pr) (h2 : b ∉ fs) (h3 : base.get? b = none) (hl : ls b = some xs) : Fz h base fs pr ls b = some (.frz o (.lst xs)) := by
  unfold Fz
  rw [if_neg h1, if_neg h2, if_neg (by rw [h3]; exact Bool.false_ne_true), hb]
  simp only [hl]
theorem fz_inv {b : Addr} {u : HO} (e : Fz h base fs pr ls b = some u) : ∃ o, h.get? b = some o ∧ b ∉ pr ∧ b ∉ fs ∧ base.get? b = none ∧ ((∃ xs, ls b = some xs ∧ u = .frz o (.lst xs)) ∨ u = .frz o (.own 0)) := by
  unfold Fz at e
  by_cases hp : b ∈ pr
  · rw [if_pos hp] at e; cases e
  by_cases hf : b ∈ fs
  · rw [if_neg hp, if_pos hf] at e; cases e
  by_cases hz : (base.get? b).isSome = true
  · rw [if_neg hp, if_neg hf, if_pos hz] at e; cases e
  rw [if_neg hp, if_neg hf, if_neg hz] at e
  have hb : base.get? b = none := by
    cases q : base.get? b with
    | none => rfl
    | some o => rw [q] at hz; exact absurd rfl hz
  cases q : h.get? b with
  | none => rw [q] at e; cases e
  | some o =>
    rw [q] at e
    cases q2 : ls b with
    | none =>
      simp only [q2] at e
      cases e
      exact ⟨o, rfl, hp, hf, hb, .inr rfl⟩
    | some xs =>
      simp only [q2] at e
      cases e
      exact ⟨o, rfl, hp, hf, hb, .inl ⟨xs, rfl, rfl⟩⟩
theorem fz_hok (hl : ∀ b xs, ls b = some xs → ∃ o, h.get? b = some o ∧ IsL o xs) : HOk P w (Fz h base fs pr ls) h := fun b u e => by
  obtain ⟨o, ho, _, _, _, hu⟩ := fz_inv e
  rcases hu with ⟨xs, hx, rfl⟩ | rfl
  · obtain ⟨o', ho', z, its, n, r, eo⟩ := hl b xs hx
    rw [ho] at ho'
    cases ho'
    exact ⟨ho, z, its, n, r, by rw [ho, eo]⟩
  · exact ⟨ho, o, ho⟩
end
/-! ### the generator's own context -/
def gX (P : Program) (w : World) (K : PySem.W.Frag) (mg : Str → Option Value) (base : Heap) (N : List Str) (A : Around) (env : Env) (outer : List Env) (s0 : Shared) (H0 : Hp) : Cx where
  prog := P
  w := w
  K := K
  mg := mg
  base := base
  A := A
  N := N
  s_0 := s0
  H_0 := H0
  env := env
  outer := outer
  stack := env :: outer
  ex := []
  calm := true
  fn := fun _ => true
  pn := []
  xe := fun _ _ => False
/-- a generator def's frame, without cells -/
structure GEnv (env : Env) : Prop where
  kind : env.scope.kind = .function
  glob : env.globals = mainGlobals
  blt : env.builtins = builtinsNs
  fr : env.frame = some env.locals
  cells : env.cells = []
  nc : ∀ x, env.kindOf x ≠ some .cell ∧ env.kindOf x ≠ some .free
  co : env.scope.isCoroutine = false
section
variable {P : Program} {w : World} {K : PySem.W.Frag} {mg : Str → Option Value} {base : Heap} {N : List Str} {A : Around} {env : Env} {outer : List Env} {s : Shared} {H : Hp} {pr : List Addr} {ls : Addr → Option (List V)} {σ : L2.St}
/-- where a turn of the generator begins: all else is locked -/
abbrev Hz (env : Env) (base : Heap) (outer : List Env) (s : Shared) (pr : List Addr) (ls : Addr → Option (List V)) : Hp := Fz s.heap base (frs outer) (env.locals :: pr) ls
abbrev Xz (P : Program) (w : World) (K : PySem.W.Frag) (mg : Str → Option Value) (base : Heap) (N : List Str) (A : Around) (env : Env) (outer : List Env) (s : Shared) (pr : List Addr) (ls : Addr → Option (List V)) : Cx :=
  gX P w K mg base N A env outer { s with heap := cut s.heap env.locals } (Hz env base outer s pr ls)
theorem inv_fz (G : GEnv env) (e0 : Env0 P w K mg base A outer s H) (hfr : ∀ b ∈ frs outer, b < env.locals) (hbl : base.objs.size ≤ env.locals) (hd : A.handled = none) {A' : Around} (hA : A'.frames = some (env :: outer)) (hd' : A'.handled = none)
    (hls : ∀ b xs, ls b = some xs → ∃ o, s.heap.get? b = some o ∧ IsL o xs) (hlen : σ.length = N.length)
    (hns : ∃ m, s.heap.Ns env.locals m ∧ ∀ (i : Nat) (x : Str) (v : V), N[i]? = some x → σ[i]? = some (some v) → Vis env.scope x → ∃ u, RelV v u ∧ env.kindOf x = some .local ∧ m x = some u) :
    Inv (Xz P w K mg base N A' env outer s pr ls) [] σ (Hz env base outer s pr ls) s := by
  obtain ⟨m, hm, hv⟩ := hns
  have hL : env.locals < s.heap.objs.size := hm.lt
  have hL' : env.locals ≤ s.heap.objs.size := Nat.le_of_lt hL
  have ncl : ∀ y c, env.cells.lookup y ≠ some c := fun y c z => by rw [G.cells] at z; cases z
  refine ⟨⟨e0.mod, G.kind, G.glob, G.blt, ?_, fun x y c z => (ncl x c z).elim, fun x z => ?_, fun y c _ z => (ncl y c z).elim, fun _ => hd', hA, .inr ⟨rfl, G.fr⟩, fun b z => ?_, fun b o e => ?_, ?_, fun b _ _ z => ?_, fun b z => ?_, cut_funs e0.funs hfr, fun b hb => fz_fs hb⟩,
    rfl, e0.bare, ⟨fun b o e n _ _ => (cut_some hL' e).2, fun b o e _ _ _ => ⟨o.slots, (cut_some hL' e).2⟩, fun b o _ n _ => n, fun b o e _ => ⟨o, (cut_some hL' e).2⟩, fun b xs e => e, fun b o u e => e, fun b ps e => ⟨#[], by rw [Array.append_empty]; exact e⟩⟩,
    ⟨m, hm, fun i x v h1 h2 h3 => ?_⟩, fun y c z => (ncl y c z).elim, fz_pr List.mem_cons_self, fun y c z => (ncl y c z).elim, fun p hp => ?_, fz_hok hls, hlen⟩
  · show (cut s.heap env.locals).objs.size ≤ env.locals
    rw [cut_size hL']
    exact Nat.le_refl _
  · rcases z with z | z
    · exact absurd z (G.nc x).1
    · exact absurd z (G.nc x).2
  · exact absurd (show b ∈ ([] : List Addr) from z) (by simp)
  · obtain ⟨q1, _⟩ := e0.bs b o e
    exact ⟨by show (cut s.heap env.locals).get? b = _; rw [cut_lt (Nat.lt_of_lt_of_le (Heap.lt_size e) hbl)]; exact q1, fz_base e⟩
  · show base.objs.size ≤ (cut s.heap env.locals).objs.size
    rw [cut_size hL']
    exact hbl
  · exact absurd (show b ∈ ([] : List Addr) from z) (by simp)
  · exact absurd (show b ∈ ([] : List Addr) from z) (by simp)
  · obtain ⟨u, q1, q2, q3⟩ := hv i x v h1 h2 h3
    exact ⟨u, q1, .inl ⟨q2, q3⟩⟩
  · exact absurd (show p ∈ ([] : List (Addr × Obj)) from hp) (by simp)
/-- what a stretch of the generator's run leaves of the heap of before -/
structure Eff (base : Heap) (outer : List Env) (pr : List Addr) (s s' : Shared) : Prop where
  os : s'.os = s.os
  bare : AllBare s'.gens
  keep : ∀ b o, s.heap.get? b = some o → b ∉ pr → b ∉ frs outer → s'.heap.get? b = some o
  slot : ∀ b o, s.heap.get? b = some o → b ∈ frs outer → ∃ sl, s'.heap.get? b = some { o with slots := sl }
theorem eff_of {A' : Around} {pins : List (Addr × Obj)} {H1 : Hp} {s1 : Shared} (e0 : Env0 P w K mg base A outer s H) (hfr : ∀ b ∈ frs outer, b < env.locals) (hbl : base.objs.size ≤ env.locals)
    (I : Inv (Xz P w K mg base N A' env outer s pr ls) pins σ H1 s1) : Eff base outer (env.locals :: pr) s s1 := by
  refine ⟨I.os, I.bare, fun b o e n nf => ?_, fun b o e hb => ?_⟩
  · cases q : base.get? b with
    | some o' =>
      have hb : b < env.locals := Nat.lt_of_lt_of_le (Heap.lt_size q) hbl
      exact I.base.keep b o (by show (cut s.heap env.locals).get? b = _; rw [cut_lt hb]; exact e) (fz_base q) nf (fun z => by cases z)
    | none =>
      obtain ⟨u, hu⟩ := fz_get (base := base) (fs := frs outer) (pr := env.locals :: pr) (ls := ls) e n nf q
      exact (I.hok b _ (I.base.frzs b o u hu)).1
  · have hl := hfr b hb
    exact I.base.slot b o (by show (cut s.heap env.locals).get? b = _; rw [cut_lt hl]; exact e) (fz_fs hb) hb (fun z => by cases z)
end
end Gl
namespace Gl
open PySem PySem.Spec PyProof.Rows L2 GenW
section
variable {M : Model} {A : Around} {Φ : End → Shared → Prop} {c : Code} {fs : List Frame} {s : Shared}
theorem sg_bindw {α β : Type} {m : Sem α} {f : α → Sem β} {K : β → Sem PySem.Fin} {J : Value → Sem PySem.Fin} {gd : Bool → Bool} {lv : List Value → List Value}
    (h : wpAny M (A.over c fs) m (fun a s' => Sg M A Φ c ((f a).wrap K J gd lv) fs s') (fun x s' => Sg M A Φ c (J x) fs s') s) : Sg M A Φ c ((m >>= f).wrap K J gd lv) fs s := by
  rw [Sem.bind_eq_wrap' m f, Sem.wrap_wrap]
  exact sg_wrap h
/-- what a generator does when it is woken -/
def Wk (M : Model) (A : Around) (Φ : End → Shared → Prop) (gs : GenState) (s : Shared) : Prop :=
  match gs with
  | .fresh c => Sg M A Φ c (M.den c) [] s
  | .suspended k _ c _ fs _ => Sg M A Φ c (k (.send .none)) fs s
  | _ => False
theorem wpAny_wake {α : Type} {g : Nat} {gs : GenState} {E : Value → Shared → Prop} {l : List Value} {k : GenResult → Sem α} {Q : α → Shared → Prop} (hg : s.gens[g]? = some gs) (hgo : Wk M A Φ gs (s.setGen g .running))
    (hΦ : ∀ e s1, Φ e s1 → e.quiet = true ∧ wpAny M A (k e.result) Q E (s1.setGen g e.genState)) : wpAny M A (.resume g (.send .none) l k) Q E s := by
  intro Γ p hΓ
  rw [Sem.wp_resume]
  cases gs with
  | fresh c =>
    obtain ⟨e, s1, hr, he⟩ := hgo (Γ.wake c p) p rfl (hΓ.wake c p)
    obtain ⟨q1, q2⟩ := hΦ e s1 he
    refine ⟨_, _, ?_, q2 Γ p hΓ⟩
    unfold Wakes
    rw [hg]
    exact ⟨e, s1, hr, q1, rfl, rfl⟩
  | suspended k0 l0 c0 p0 fs0 cl =>
    obtain ⟨e, s1, hr, he⟩ := hgo (Γ.wake c0 p) p0 rfl (hΓ.wake c0 p)
    obtain ⟨q1, q2⟩ := hΦ e s1 he
    refine ⟨_, _, ?_, q2 Γ p hΓ⟩
    unfold Wakes
    rw [hg]
    exact ⟨e, s1, hr, q1, rfl, rfl⟩
  | running => exact hgo.elim
  | finished => exact hgo.elim
end
section
variable {P : Program} {w : World} {A : Around} {E : Value → Shared → Prop} {s : Shared}
/-- the next item of a generator: what it hands out, or its end without a value -/
theorem next_gl {a : Addr} {g : Nat} {gs : GenState} {Φ : End → Shared → Prop} {Q : Option Value → Shared → Prop} (hh : A.handled = none) (hl : s.heap.NoLimit) (hroom : A.depth < recursionLimit) (hg : s.heap.IsGen a g) (hgs : s.gens[g]? = some gs)
    (hgo : Wk (model P w) A.in1 Φ gs (s.setGen g .running))
    (hΦ : ∀ e s1, Φ e s1 → (∃ v l k c p fs, e = .susp v false l k c p fs ∧ fs.any Frame.guarded = false ∧ Q (some v) (s1.setGen g e.genState)) ∨
      (e = .ret (.ok (.ret .none)) ∧ ∀ h', (∀ b o, s1.heap.get? b = some o → h'.get? b = some o) → Q none { s1.setGen g .finished with heap := h' })) : wpAny (model P w) A (pyNext (.ref a)) Q E s := by
  unfold pyNext
  apply wpAny_bind
  apply wpAny_attempt
  refine wpAny_callSpecial?_slot (name := Str.ofString "__next__") hg.typeIs slot_gen_next ?_
  refine wpAny_call_entry slot_gen_next hg.typeIs entry_gen_next ?_ (args_gen_next _)
  show wpAny _ A.in1 (Builtin.Generator.genWake (.ref a) (.send .none)) _ _ s
  unfold Builtin.Generator.genWake
  refine wpAny_bind (wpAny_holding (wpAny_genNumber hg ?_))
  refine wpAny_bind (wpAny_genState hgs ?_)
  have fin : ∀ e s1, Φ e s1 → e.quiet = true := fun e s1 h => by
    rcases hΦ e s1 h with ⟨v, l, k, c, p, fs, rfl, hfs, _⟩ | ⟨rfl, _⟩
    · show (!(false || fs.any Frame.guarded)) = true
      rw [hfs]
      rfl
    · rfl
  cases gs with
  | running => exact hgo.elim
  | finished => exact hgo.elim
  | fresh c0 =>
    apply wpAny_bind
    refine wpAny_roomToWake hl hroom ?_
    show wpAny (model P w) A.in1 (.resume g (.send .none) [] _) _ _ s
    refine wpAny_wake hgs hgo fun e s1 he => ⟨fin e s1 he, ?_⟩
    rcases hΦ e s1 he with ⟨v, l, k, c, p, fs, rfl, _, q⟩ | ⟨rfl, q⟩
    · exact wpAny_pure ⟨v, rfl, wpAny_pure q⟩
    · show wpAny (model P w) A.in1 (newExc (.type "StopIteration") [] >>= _) _ _ _
      apply wpAny_bind
      simp only [newExc, newTuple]
      apply wpAny_bind
      refine wpAny_newObj_type ?_ (by size_fits)
      refine wpAny_bind (m := firstArgMember _ _) (wpAny_of_eq (a := Value.none) ?_ ?_)
      · first
          | rfl
          | (simp only [firstArgMember]; rfl)
      refine wpAny_newObj_type ?_ (by size_fits)
      simp only [raiseNew]
      refine wpAny_bind (wpAny_bind (wpAny_handled ?_))
      rw [show A.in1.handled = none from hh]
      refine wpAny_throw (wpAny_bind ?_)
      refine wpAny_isInstance (T := "StopIteration") (b := true) ⟨_, Heap.get?_push_size _ rfl, rfl⟩ isSubtype_stop ?_
      exact wpAny_pure (q _ fun b o hb => Heap.get?_push_of_some _ (Heap.get?_push_of_some _ hb))
  | suspended k0 l0 c0 p0 fs0 cl =>
    apply wpAny_bind
    refine wpAny_roomToWake hl hroom ?_
    show wpAny (model P w) A.in1 (.resume g (.send .none) [] _) _ _ s
    refine wpAny_wake hgs hgo fun e s1 he => ⟨fin e s1 he, ?_⟩
    rcases hΦ e s1 he with ⟨v, l, k, c, p, fs, rfl, _, q⟩ | ⟨rfl, q⟩
    · exact wpAny_pure ⟨v, rfl, wpAny_pure q⟩
    · show wpAny (model P w) A.in1 (newExc (.type "StopIteration") [] >>= _) _ _ _
      apply wpAny_bind
      simp only [newExc, newTuple]
      apply wpAny_bind
      refine wpAny_newObj_type ?_ (by size_fits)
      refine wpAny_bind (m := firstArgMember _ _) (wpAny_of_eq (a := Value.none) ?_ ?_)
      · first
          | rfl
          | (simp only [firstArgMember]; rfl)
      refine wpAny_newObj_type ?_ (by size_fits)
      simp only [raiseNew]
      refine wpAny_bind (wpAny_bind (wpAny_handled ?_))
      rw [show A.in1.handled = none from hh]
      refine wpAny_throw (wpAny_bind ?_)
      refine wpAny_isInstance (T := "StopIteration") (b := true) ⟨_, Heap.get?_push_size _ rfl, rfl⟩ isSubtype_stop ?_
      exact wpAny_pure (q _ fun b o hb => Heap.get?_push_of_some _ (Heap.get?_push_of_some _ hb))
end
end Gl

namespace Gl
open PySem PySem.Spec PyProof.Rows L2 GenW
section
variable {P : Program} {w : World} {K : PySem.W.Frag} {mg : Str → Option Value} {base : Heap} {N : List Str} {A A' : Around} {env : Env} {outer : List Env} {s : Shared} {pr : List Addr} {ls : Addr → Option (List V)} {σ : L2.St}
variable {tg e : Expr} {yp ypos : Pos} {it : Addr} {fp : List Addr} {tn : Nat → Heap → Prop} {J : It} {g : TG} {te : TE} {i : Nat} {Φ : End → Shared → Prop} {fs : List Frame}
abbrev gBody (e : Expr) (yp ypos : Pos) : List Stmt := [.Expr (.Yield (some e) yp) ypos]
abbrev gLoop (tg e : Expr) (yp ypos : Pos) (it : Addr) (env : Env) : Code := .forLoop tg (.ref it) (gBody e yp ypos) [] env
/-- woken, the loop goes on -/
def Again (P : Program) (w : World) (A : Around) (c : Code) (fs : List Frame) (k : Resume → Sem PySem.Fin) : Prop :=
  ∀ Φ s, Sg (model P w) A Φ c ((model P w).den c) fs s → Sg (model P w) A Φ c (k (.send .none)) fs s
/-- the loop's end is the generator's end -/
def Ends (P : Program) (w : World) (A : Around) (fs : List Frame) : Prop :=
  ∀ Φ c s, Φ (.ret (.ok (.ret .none))) s → Sg (model P w) A Φ c (.pure (.done .next)) fs s
theorem sg_item (hA : A.over (gLoop tg e yp ypos it env) fs = A') (hsp : splitAtGen fs = none) (hgu : fs.any Frame.guarded = false) (hco : env.scope.isCoroutine = false) (hi : interactive env = false)
    (hg : ∀ s0 H0, PG (gX P w K mg base N A' env outer s0 H0) tg g) (he : ∀ s0 H0, PE (gX P w K mg base N A' env outer s0 H0) e te) (T : Turn P w K tg J fp it tn)
    {s0 : Shared} {H0 H : Hp} (I : Inv (gX P w K mg base N A' env outer s0 H0) [] σ H s) (hf : ∀ b ∈ fp, FpOk (gX P w K mg base N A' env outer s0 H0) [] H b) (st : tn i s.heap) (go : J.go i H) {Post : V → Hp → Prop}
    (step : ∀ x H', J.yld i H x H' → g x σ H' fun σ2 H2 => te σ2 H2 fun y H3 => Post y H3)
    (hΦ : ∀ v y σ1 pins H3 s1, Inv (gX P w K mg base N A' env outer s0 H0) pins σ1 H3 s1 → tn (i + 1) s1.heap → (∀ b ∈ fp, H3 b = none) → RelV y v → Post y H3 → ∀ k l p, Again P w A (gLoop tg e yp ypos it env) fs k → Φ (.susp v false l k (gLoop tg e yp ypos it env) p fs) s1) :
    Sg (model P w) A Φ (gLoop tg e yp ypos it env) ((model P w).den (gLoop tg e yp ypos it env)) fs s := by
  show Sg _ A Φ _ ((forTurn tg (.ref it) (gBody e yp ypos) [] env).onRaise _) fs s
  rw [Sem.onRaise_eq_wrap]
  unfold forTurn
  refine sg_bindw (wpAny_standAt ?_)
  refine sg_bindw (wpAny_onRaise ?_)
  rw [hA]
  refine wpAny_mono (T.item _ rfl rfl rfl rfl i [] s σ H (fun _ _ => False) I hf st go) (fun r s1 hr => ?_) fun _ _ z => z.elim
  obtain ⟨u, rfl, hu⟩ := hr
  refine sg_bindw ?_
  rw [hA]
  refine wpAny_mono hu (fun _ s2 h2 => ?_) fun _ _ z => z.elim
  obtain ⟨x, H2, I2, rx, yx, st2, fr2⟩ := h2
  have I2' := I2.pinned (fun b hb => ⟨fr2 b hb, (hf b hb).2⟩) (T.obj _ _ st2)
  refine sg_bindw ?_
  rw [hA]
  refine wpAny_mono ((hg s0 H0).run _ s2 σ H2 x u _ I2' rx (step x H2 yx)) (fun _ s3 h3 => ?_) fun _ _ z => z.elim
  obtain ⟨σ3, H3, I3, q3⟩ := h3
  rw [Sem.bind_eq_wrap' (execs _ _) _, Sem.wrap_wrap]
  rw [execs_cons_wrap]
  rw [exec_Expr env _ ypos hi rfl]
  show Sg _ A Φ _ (.at ypos fun _ => Sem.wrap _ _ _ _ ((eval e env >>= fun v => standAt yp >>= fun _ => yieldOut env v) >>= fun x => dropValue (.Yield (some e) yp) ypos x)) fs s3
  refine sg_at ?_
  rw [Sem.bind_eq_wrap' (eval e env >>= _) _]
  rw [Sem.wrap_wrap]
  refine sg_bindw ?_
  rw [hA]
  refine wpAny_mono ((he s0 H0).run _ s3 σ3 H3 _ I3 q3) (fun v s4 h4 => ?_) fun _ _ z => z.elim
  obtain ⟨y, H4, I4, ry, q4⟩ := h4
  refine sg_bindw (wpAny_standAt ?_)
  have hy : yieldOut env v = yieldValue v := by
    simp only [yieldOut, hco]
    exact if_neg Bool.false_ne_true
  rw [hy]
  have keepT : tn (i + 1) s4.heap := T.keep _ _ _ st2 fun b hb o q => (I4.pin (b, o) (List.mem_append_right _ (List.mem_append_right _ (mem_pinsAt hb q)))).1
  have frT : ∀ b ∈ fp, H4 b = none := fun b hb => by
    obtain ⟨o, q, _⟩ := T.obj _ _ st2 b hb
    exact (I4.pin (b, o) (List.mem_append_right _ (List.mem_append_right _ (mem_pinsAt hb q)))).2.1
  refine sg_yield hsp fun p => ?_
  exact hΦ v y σ3 _ H4 s4 I4 keepT frT ry q4 _ _ p fun Φ' s' h' => sg_again rfl h'
/-- nothing is left -/
theorem sg_stop (hA : A.over (gLoop tg e yp ypos it env) fs = A') (T : Turn P w K tg J fp it tn)
    {s0 : Shared} {H0 H : Hp} (I : Inv (gX P w K mg base N A' env outer s0 H0) [] σ H s) (hf : ∀ b ∈ fp, FpOk (gX P w K mg base N A' env outer s0 H0) [] H b) (st : tn i s.heap) (stop : J.stop i H) (hE : Ends P w A fs)
    (hΦ : ∀ s1, Inv (gX P w K mg base N A' env outer s0 H0) [] σ H s1 → Φ (.ret (.ok (.ret .none))) s1) :
    Sg (model P w) A Φ (gLoop tg e yp ypos it env) ((model P w).den (gLoop tg e yp ypos it env)) fs s := by
  show Sg _ A Φ _ ((forTurn tg (.ref it) (gBody e yp ypos) [] env).onRaise _) fs s
  rw [Sem.onRaise_eq_wrap]
  unfold forTurn
  refine sg_bindw (wpAny_standAt ?_)
  refine sg_bindw (wpAny_onRaise ?_)
  rw [hA]
  refine wpAny_mono (T.done _ rfl rfl rfl rfl i [] s σ H (fun _ _ => False) I hf st stop) (fun r s1 hr => ?_) fun _ _ z => z.elim
  obtain ⟨rfl, I1⟩ := hr
  refine sg_again (c' := .block [] env) rfl ?_
  show Sg _ A Φ _ (.pure (.done .next)) fs s1
  exact hE Φ _ s1 (hΦ s1 I1)
theorem sg_first {iter : Expr} {fpos : Pos} {wi : TI} {s0 : Shared} {H0 H : Hp} {R : It → Hp → Prop} (hs : ∀ x, foldedSetIterable iter env x = pure x)
    (I : Inv (gX P w K mg base N (A.deeper env) env outer s0 H0) [] σ H s) (hi : PI (gX P w K mg base N (A.deeper env) env outer s0 H0) tg iter wi) (hw : wi σ H R)
    (hl : ∀ it fp tn J H1 s1, Inv (gX P w K mg base N (A.deeper env) env outer s0 H0) [] σ H1 s1 → Turn P w K tg J fp it tn → tn 0 s1.heap → (∀ b ∈ fp, FpOk (gX P w K mg base N (A.deeper env) env outer s0 H0) [] H1 b) → R J H1 →
      ∀ fs, splitAtGen fs = none → fs.any Frame.guarded = false → Ends P w A fs → A.over (gLoop tg e yp ypos it env) fs = A.deeper env → Sg (model P w) A Φ (gLoop tg e yp ypos it env) ((model P w).den (gLoop tg e yp ypos it env)) fs s1) :
    Sg (model P w) A Φ (.func [.For tg iter (gBody e yp ypos) [] fpos] env) ((model P w).den (.func [.For tg iter (gBody e yp ypos) [] fpos] env)) [] s := by
  have ov : A.over (.func [.For tg iter (gBody e yp ypos) [] fpos] env) [] = A.deeper env := over_func
  show Sg _ A Φ _ (.point [] fun _ => ((execs [.For tg iter (gBody e yp ypos) [] fpos] env).onRaise (leaving env)) >>= _) [] s
  refine sg_point ?_
  rw [Sem.onRaise_eq_wrap]
  rw [Sem.bind_eq_wrap' (Sem.wrap _ _ _ _ _) _]
  rw [Sem.wrap_wrap]
  rw [execs_cons_wrap]
  rw [arm_exec_For]
  refine sg_bindw (wpAny_standAt ?_)
  refine sg_bindw ?_
  rw [ov]
  refine wpAny_mono (hi.run [] s σ H R I hw) (fun v s1 h1 => ?_) fun _ _ z => z.elim
  refine sg_bindw ?_
  refine wpAny_of_eq (hs v) ?_
  refine sg_bindw (wpAny_standAt ?_)
  refine sg_bindw ?_
  refine wpAny_holding ?_
  rw [ov]
  refine wpAny_mono h1 (fun itv s2 h2 => ?_) fun _ _ z => z.elim
  obtain ⟨it, fp, tn, J, H2, rfl, I2, T, st, hf, q⟩ := h2
  refine sg_call fun p => ?_
  refine hl it fp tn J H2 s2 I2 T st hf q _ rfl rfl ?_ ?_
  · intro Φ' c s' h'
    refine sg_leaf (.ok .next) ?_
    exact sg_end (.ok (.ret .none)) h'
  · rw [← ov]
    exact over_loop rfl rfl
end
end Gl

namespace Gl
open PySem PySem.Spec PyProof.Rows L2 GenW
theorem cells_nil : ∀ {ns : List (Str × NameKind)} {n : Nat}, (∀ y ∈ ns, y.2 ≠ .cell ∧ y.2 ≠ .free) → cellsFrom n ns [] = []
  | [], _, _ => rfl
  | (x, k) :: ns, n, h => by
    have hk : k ≠ .cell ∧ k ≠ .free := h (x, k) List.mem_cons_self
    have ih : cellsFrom n ns [] = [] := cells_nil fun y hy => h y (List.mem_cons_of_mem _ hy)
    cases k with
    | cell => exact absurd rfl hk.1
    | free => exact absurd rfl hk.2
    | _ => exact ih
/-- a generator def of one parameter, its names all local -/
structure GDef (K : PySem.W.Frag) (x qual : Str) (st : Stmt) (f : Addr) (fd : FuncData) (N : List Str) (p0 : Str) : Prop where
  F : Fun K x qual st f fd
  kind : (defScope st).kind = .function
  co : (defScope st).isCoroutine = false
  gen : (defScope st).isGenerator = true
  nd : N.Nodup
  pre : N.take 1 = [p0]
  par : (defScope st).names.lookup p0 = some .local
  loc : ∀ y ∈ (defScope st).names, y.2 ≠ .cell ∧ y.2 ≠ .free
section
variable {x qual : Str} {st : Stmt} {f : Addr} {fd : FuncData} {N : List Str} {p0 : Str} {K : PySem.W.Frag}
theorem lookup_loc {ns : List (Str × NameKind)} (h : ∀ y ∈ ns, y.2 ≠ .cell ∧ y.2 ≠ .free) {y : Str} {k : NameKind} (e : ns.lookup y = some k) : k ≠ .cell ∧ k ≠ .free := h (y, k) (PySem.mem_of_lookup e)
theorem genv (D : GDef K x qual st f fd N p0) (L : Addr) (cd : Value) : GEnv (envOfC qual (defScope st) L f cd) where
  kind := D.kind
  glob := rfl
  blt := rfl
  fr := rfl
  cells := cells_nil D.loc
  nc := fun y => by
    refine ⟨fun z => ?_, fun z => ?_⟩
    · exact (lookup_loc D.loc (show (defScope st).names.lookup y = some .cell from z)).1 rfl
    · exact (lookup_loc D.loc (show (defScope st).names.lookup y = some .free from z)).2 rfl
  co := D.co
/-- what a call of the generator def leaves -/
structure New (qual : Str) (st : Stmt) (f : Addr) (cd : Value) (p0 : Str) (u : Value) (s : Shared) (a : Addr) (g : Nat) (s' : Shared) : Prop where
  gen : s'.heap.IsGen a g
  at_ : s'.gens[g]? = some (.fresh (.func (defBody st) (envOfC qual (defScope st) s.heap.objs.size f cd)))
  le : s.heap.objs.size < a
  os : s'.os = s.os
  bare : AllBare s'.gens
  keep : ∀ b o, s.heap.get? b = some o → s'.heap.get? b = some o
  ns : ∃ m, s'.heap.Ns s.heap.objs.size m ∧ m p0 = some u
theorem made {X : Cx} {k : Nat} {pins : List (Addr × Obj)} {σ : L2.St} {H : Hp} {s : Shared} {u : Value} {E : Value → Shared → Prop} (D : GDef X.K x qual st f fd N p0) (hr : Room k X.A) (I : Inv X pins σ H s) (hb : Binds X.K fd [p0] []) :
    wpAny (model X.prog X.w) X.A (call (.ref f) [u]) (fun r s' => ∃ a g cd, r = .ref a ∧ New qual st f cd p0 u s a g s') E s := by
  obtain ⟨oc, od, kV, doc, pm, an, cdv, ct, osl, rfl, lk, hcd⟩ := D.F.ex
  have KX := I.kIn
  have lim := I.nolimit
  have hkind : ∀ y ∈ [p0].zip [u], (defScope st).names.lookup y.1 = some .local ∨ ((defScope st).names.lookup y.1 = some .cell ∧ ((cellsFrom (s.heap.objs.size + 1) (defScope st).names []).lookup y.1).isSome = true) := fun y hy => by
    rw [List.mem_singleton.mp (show y ∈ [(p0, u)] from hy)]
    exact .inl D.par
  refine wpAny_call ?_
  refine codeAny_call_generator (by have := hr.dp; omega) (KX _ _ lk) rfl D.co D.gen rfl (PySem.W.codeRec_of KX hcd) (hb s [u] KX rfl _ _ _ _ ?_)
  refine wpAny_newFunctionEnv_cells D.kind hkind fun env he s1 q => ?_
  subst he
  refine ⟨lim.keeps q.toInCall.keep, ?_⟩
  obtain ⟨h1, tk, es1, hk1⟩ := q.done
  have gen1 : s1.gens = s.gens := by rw [es1]
  have lt1 : s.heap.objs.size < s1.heap.objs.size := q.toInCall.ns.lt
  refine ⟨s1.heap.objs.size, s1.gens.size, cdv, rfl, ⟨_, _, _, Heap.get?_push_size _ rfl, rfl, rfl, rfl⟩, Array.getElem?_push_size .., lt1, by rw [es1], ?_, fun b o e => Heap.get?_push_of_some _ (q.toInCall.keep b o e), ?_⟩
  · exact AllBare.push (by rw [gen1]; exact I.bare) rfl
  · obtain ⟨o, es, ep, ho, r⟩ := q.toInCall.ns
    refine ⟨_, ⟨o, es, ep, Heap.get?_push_of_some _ ho, r⟩, ?_⟩
    exact bindL_get (List.nodup_cons.mpr ⟨by simp, List.nodup_nil⟩) (show ([p0] : List Str)[0]? = some p0 from rfl) (show ([u] : List Value)[0]? = some u from rfl) D.par
end
end Gl

namespace Gl
open PySem PySem.Spec PyProof.Rows L2 GenW
section
variable {X : Cx} {pins : List (Addr × Obj)} {σ : L2.St} {H : Hp} {s : Shared}
theorem inv_gens {s0 s' : Shared} (I : Inv X pins σ H s0) (e : ∃ G, s0 = { s' with gens := G }) (hb : AllBare s'.gens) : Inv X pins σ H s' := by
  obtain ⟨G, rfl⟩ := e
  exact ⟨I.ok, I.os, hb, I.base, I.loc, I.cell, I.free, I.freeC, I.pin, I.hok, I.len⟩
/-- an address of the generator's own -/
structure Own (X : Cx) (pins : List (Addr × Obj)) (H : Hp) (b : Addr) : Prop where
  un : H b = none
  loc : b ≠ X.env.locals
  fs : b ∉ X.fs
  cell : ∀ x c, X.env.cells.lookup x = some c → c ≠ b
  pin : ∀ p ∈ X.pn ++ pins, p.1 ≠ b
theorem back_any {ch : List Addr} {s4 s5 : Shared} {H' : Hp} (I : Inv X pins σ H s) (Ef : Eff X.base X.stack ch s s4) (k5 : ∀ b o, s4.heap.get? b = some o → s5.heap.get? b = some o) (os5 : s5.os = s4.os) (b5 : AllBare s5.gens)
    (hch : ∀ b ∈ ch, Own X pins H b ∧ X.s_0.heap.objs.size ≤ b) (hH : ∀ b o, s.heap.get? b = some o → H' b = H b) (hsub : ∀ b u, H b = some u → H' b = some u)
    (new : ∀ b u, H' b = some u → H b = none → ObjOk X.prog X.w H' s5.heap b u) : Inv X pins σ H' s5 := by
  have nfr : ∀ b u, H b = some u → b ∉ frs X.stack := fun b u e hm => by
    have := I.stkFree b hm
    rw [e] at this; cases this
  have nch : ∀ b u, H b = some u → b ∉ ch := fun b u e hm => by
    have := (hch b hm).1.un
    rw [e] at this; cases this
  refine I.call' (ch := ch) (os5.trans Ef.os) ⟨fun b o e n nf nx => k5 b o (Ef.keep b o e nx nf), fun b o e n hb _ => ?_, fun b o e n _ => ?_, fun b o e nx => ?_, fun b ys e => hsub b _ e, fun b o u e => hsub b _ e, fun b ps e => ⟨#[], by rw [Array.append_empty]; exact hsub b _ e⟩⟩ (fun b u e => ?_) b5 fun b hb => ?_
  · obtain ⟨sl, q⟩ := Ef.slot b o e hb
    exact ⟨sl, k5 b _ q⟩
  · rw [hH b o e]; exact n
  · by_cases hf : b ∈ frs X.stack
    · obtain ⟨sl, q⟩ := Ef.slot b o e hf
      exact ⟨_, k5 b _ q⟩
    · exact ⟨o, k5 b o (Ef.keep b o e nx hf)⟩
  · cases q : H b with
    | none => exact new b u e q
    | some u' =>
      have e2 := hsub b u' q
      rw [e] at e2
      cases e2
      refine (I.hok b u q).stay (fun c v hc hv => ?_) (fun c hc => hsub c _ hc) fun c ys hc => hsub c _ hc
      have hu : ∃ u2, H c = some u2 := by
        rcases hc with rfl | hc
        · exact ⟨u, q⟩
        · exact ⟨_, hc⟩
      obtain ⟨u2, hu⟩ := hu
      exact k5 c v (Ef.keep c v hv (nch c u2 hu) (nfr c u2 hu))
  · obtain ⟨o1, o2⟩ := hch b hb
    exact ⟨.inr o2, o1.loc, o1.cell, o1.pin⟩
end
/-- the text of a generator def whose loop goes over zip(x, x[1:]) and hands out the pairs -/
structure GT (P : Program) (w : World) (K : PySem.W.Frag) (mg : Str → Option Value) (base : Heap) (x qual : Str) (st : Stmt) (f : Addr) (fd : FuncData) (N : List Str) (p0 : Str) (tg iter e : Expr) (yp ypos fpos : Pos) (g : TG) (te : TE) (wi : TI) : Prop where
  D : GDef K x qual st f fd N p0
  body : defBody st = [.For tg iter (gBody e yp ypos) [] fpos]
  hs : ∀ env v, foldedSetIterable iter env v = pure v
  int : ∀ L cd, interactive (envOfC qual (defScope st) L f cd) = false
  hg : ∀ A' L cd outer s0 H0, PG (gX P w K mg base N A' (envOfC qual (defScope st) L f cd) outer s0 H0) tg g
  he : ∀ A' L cd outer s0 H0, PE (gX P w K mg base N A' (envOfC qual (defScope st) L f cd) outer s0 H0) e te
  hi : ∀ A' L cd outer s0 H0, PI (gX P w K mg base N A' (envOfC qual (defScope st) L f cd) outer s0 H0) tg iter wi
  r1 : ∀ (H : Hp) (lo : Addr) (xs : List V) (R : It → Hp → Prop), SqL K H lo xs → (∀ sl, H sl = none → R (Itz K lo sl) (upd H sl (.lst (xs.drop 1)))) → wi (some (.ref lo) :: List.replicate (N.length - 1) none) H R
  r2 : ∀ (σ : L2.St) (H : Hp) (T : Addr) (a b : V) (R : VK), σ.length = N.length → H T = none → (∀ p, upd H T (.tup [a, b]) p = none → R (.ref p) (upd (upd H T (.tup [a, b])) p (.tup [a, b]))) → g (.ref T) σ (upd H T (.tup [a, b])) fun σ2 H2 => te σ2 H2 R
section
variable {P : Program} {w : World} {K : PySem.W.Frag} {mg : Str → Option Value} {base : Heap} {x qual : Str} {st : Stmt} {f : Addr} {fd : FuncData} {N : List Str} {p0 : Str} {tg iter e : Expr} {yp ypos fpos : Pos} {g : TG} {te : TE} {wi : TI}
/-- the generator asleep, i items handed out -/
structure Slp (P : Program) (w : World) (K : PySem.W.Frag) (base : Heap) (tg e : Expr) (yp ypos : Pos) (A : Around) (env : Env) (outer : List Env) (lo : Addr) (ys : List V) (i : Nat) (gs : GenState) (h : Heap) (fp : List Addr) (sl : Addr) : Prop where
  ex : ∃ (it : Addr) (tn : Nat → Heap → Prop) (fs : List Frame) (k : Resume → Sem PySem.Fin) (l : List Value) (p : Pos), gs = .suspended k l (gLoop tg e yp ypos it env) p fs false ∧ splitAtGen fs = none ∧ fs.any Frame.guarded = false ∧ Ends P w A fs ∧
    A.over (gLoop tg e yp ypos it env) fs = A.deeper env ∧ Again P w A (gLoop tg e yp ypos it env) fs k ∧ Turn P w K tg (Itz K lo sl) fp it tn ∧ tn i h
  fpo : ∀ b ∈ fp, b ≠ env.locals ∧ b ∉ frs outer ∧ env.locals ≤ b
  lst : ∃ o, h.get? sl = some o ∧ IsL o ys
  slfp : sl ∉ fp
  slL : sl ≠ env.locals
  slb : base.get? sl = none
  slfs : sl ∉ frs outer
  ns : ∃ m, h.Ns env.locals m
theorem Slp.keep {A : Around} {env : Env} {outer : List Env} {lo : Addr} {ys : List V} {i : Nat} {gs : GenState} {h h' : Heap} {fp : List Addr} {sl : Addr} (S : Slp P w K base tg e yp ypos A env outer lo ys i gs h fp sl)
    (k : ∀ b ∈ env.locals :: sl :: fp, ∀ o, h.get? b = some o → h'.get? b = some o) : Slp P w K base tg e yp ypos A env outer lo ys i gs h' fp sl := by
  obtain ⟨it, tn, fs, kk, l, p, e1, e2, e3, e4, e5, e6, T, st⟩ := S.ex
  obtain ⟨o, ho, q⟩ := S.lst
  obtain ⟨m, o2, es, ep, ho2, r⟩ := S.ns
  exact ⟨⟨it, tn, fs, kk, l, p, e1, e2, e3, e4, e5, e6, T, T.keep i h h' st fun b hb o q => k b (List.mem_cons_of_mem _ (List.mem_cons_of_mem _ hb)) o q⟩, S.fpo, ⟨o, k sl (by simp) o ho, q⟩, S.slfp, S.slL, S.slb, S.slfs, m, o2, es, ep, k _ (by simp) o2 ho2, r⟩
theorem Slp.obj {A : Around} {env : Env} {outer : List Env} {lo : Addr} {ys : List V} {i : Nat} {gs : GenState} {h : Heap} {fp : List Addr} {sl : Addr} (S : Slp P w K base tg e yp ypos A env outer lo ys i gs h fp sl) :
    ∀ b ∈ env.locals :: sl :: fp, ∃ o, h.get? b = some o ∧ ∀ v, o.data ≠ .cell v := by
  intro b hb
  obtain ⟨it, tn, fs, kk, l, p, e1, e2, e3, e4, e5, e6, T, st⟩ := S.ex
  rcases List.mem_cons.mp hb with rfl | hb
  · obtain ⟨m, o, es, ep, ho, hd, _⟩ := S.ns
    exact ⟨o, ho, fun v z => by rw [hd] at z; cases z⟩
  rcases List.mem_cons.mp hb with rfl | hb
  · obtain ⟨o, ho, _, its, n, _, rfl⟩ := S.lst
    exact ⟨_, ho, fun v z => by cases z⟩
  · exact T.obj i h st b hb
/-- what stands of the lists -/
def lsOf (lo : Addr) (xs : List V) (sl : Addr) (ys : List V) : Addr → Option (List V) := fun b => if b = lo then some xs else if b = sl then some ys else none
/-- a new tuple of two in the generator's context stands nowhere of before -/
theorem not_there {A' : Around} {env : Env} {outer : List Env} {s s1 : Shared} {pr : List Addr} {ls : Addr → Option (List V)} {pins : List (Addr × Obj)} {σ : L2.St} {H1 : Hp} {p : Addr} {u : HO}
    (I : Inv (Xz P w K mg base N A' env outer s pr ls) pins σ H1 s1) (hfr : ∀ b ∈ frs outer, b < env.locals) (hpr : ∀ b ∈ pr, H1 b = none) (e1 : H1 p = some u) (hu : ∀ o v, u ≠ .frz o v) : s.heap.get? p = none := by
  cases q : s.heap.get? p with
  | none => rfl
  | some o =>
    have h1 : p ∉ env.locals :: pr := fun hm => by
      rcases List.mem_cons.mp hm with rfl | hm
      · rw [show H1 env.locals = none from I.free] at e1; cases e1
      · rw [hpr p hm] at e1; cases e1
    have h2 : p ∉ frs outer := fun hm => by
      have := I.base.free p o (by show (cut s.heap env.locals).get? p = _; rw [cut_lt (hfr p hm)]; exact q) (fz_fs hm) (fun z => by cases z)
      rw [e1] at this; cases this
    have h3 : base.get? p = none := by
      cases qb : base.get? p with
      | none => rfl
      | some ob =>
        have := (I.bs p ob qb).2
        rw [e1] at this; cases this
    obtain ⟨v, hv⟩ := fz_get (ls := ls) q h1 h2 h3
    have := I.base.frzs p o v hv
    rw [e1] at this
    exact absurd (Option.some.inj this) (hu o v)
end
section
theorem ok_some {P : Program} {w : World} {H : Hp} {h : Heap} {a : Addr} {o : HO} (x : ObjOk P w H h a o) : ∃ ob, h.get? a = some ob := by
  cases o with
  | lst xs => obtain ⟨_, _, _, _, e⟩ := x; exact ⟨_, e⟩
  | tup xs => obtain ⟨_, _, _, ob, e, _⟩ := x; exact ⟨ob, e⟩
  | dK kvs => obtain ⟨_, _, _, _, ob, _, _, e, _⟩ := x; exact ⟨ob, e⟩
  | dT kvs => obtain ⟨_, _, _, _, ob, _, _, e, _⟩ := x; exact ⟨ob, e⟩
  | set S n => obtain ⟨ob, _, _, _, e, _⟩ := x; exact ⟨ob, e⟩
  | ins C dx fs => obtain ⟨_, _, _, e, _⟩ := x; exact ⟨_, e⟩
  | own y => obtain ⟨ob, e⟩ := x; exact ⟨ob, e⟩
  | xd fs => obtain ⟨_, ⟨ob, _, _, e, _⟩, _⟩ := x; exact ⟨ob, e⟩
  | rng lo hi => obtain ⟨_, _, _, e⟩ := x; exact ⟨_, e⟩
  | frz ob u => exact ⟨ob, x.1⟩
  | tbl ps => exact ⟨_, (show h.get? a = some _ from x)⟩
  | met f y => exact ⟨_, (show h.get? a = some _ from x)⟩
  | ext φ => exact x.2.1
variable {X : Cx} {pins : List (Addr × Obj)} {σ : L2.St} {H : Hp} {s : Shared}
theorem new_none {b : Addr} (I : Inv X pins σ H s) (h : s.heap.get? b = none) : H b = none := by
  cases q : H b with
  | none => rfl
  | some u =>
    obtain ⟨ob, e⟩ := ok_some (I.hok b u q)
    rw [h] at e; cases e
theorem own_new {b : Addr} (I : Inv X pins σ H s) (h : s.heap.get? b = none) : Own X pins H b where
  un := new_none I h
  loc := fun z => by
    obtain ⟨m, ⟨o, _, _, ho, _⟩, _⟩ := I.loc
    rw [← z, h] at ho; cases ho
  fs := fun z => by
    obtain ⟨_, o, ho, _⟩ := I.funs.mem z
    rw [h] at ho; cases ho
  cell := fun y c e z => by
    obtain ⟨v, o, ho, _⟩ := I.cell y c e
    rw [z, h] at ho; cases ho
  pin := fun p hp z => by
    have := (I.pin p hp).1
    rw [z, h] at this; cases this
theorem Own.up {b p : Addr} {o : HO} (h : Own X pins H b) (hb : b ≠ p) : Own X pins (upd H p o) b := ⟨by rw [upd_ne hb]; exact h.un, h.loc, h.fs, h.cell, h.pin⟩
end
section
variable {X : Cx} {pins : List (Addr × Obj)} {σ : L2.St} {H : Hp} {s : Shared} {k : Nat} {x qual : Str} {st : Stmt} {f : Addr} {fd : FuncData} {N : List Str} {p0 : Str} {tg iter e : Expr} {yp ypos fpos : Pos} {g : TG} {te : TE} {wi : TI}
/-- a turn's end: the next pair, or nothing -/
def Turned (X : Cx) (pins : List (Addr × Obj)) (σ : L2.St) (H : Hp) (tg e : Expr) (yp ypos : Pos) (env : Env) (a : Addr) (gn : Nat) (lo : Addr) (xs : List V) (i : Nat) (r : Option Value) (s1 : Shared) : Prop :=
  (∃ (u v : V) (p : Addr) (gs : GenState) (fp : List Addr) (sl : Addr), r = some (.ref p) ∧ xs[i]? = some u ∧ xs[i + 1]? = some v ∧ H p = none ∧ Inv X pins σ (upd H p (.tup [u, v])) s1 ∧ s1.heap.IsGen a gn ∧ s1.gens[gn]? = some gs ∧
    Slp X.prog X.w X.K X.base tg e yp ypos X.A.in1 env X.stack lo (xs.drop 1) (i + 1) gs s1.heap fp sl ∧ (∀ b ∈ a :: env.locals :: sl :: fp, Own X pins (upd H p (.tup [u, v])) b) ∧ a ∉ env.locals :: fp) ∨
  (r = none ∧ xs.length ≤ i + 1 ∧ Inv X pins σ H s1)
theorem drop1 {xs : List V} {i : Nat} : (xs.drop 1)[i]? = xs[i + 1]? := by
  rw [List.getElem?_drop, Nat.add_comm]
theorem itz_go {K : PySem.W.Frag} {H : Hp} {lo sl : Addr} {xs : List V} {i : Nat} (h1 : SqL K H lo xs) (h2 : SqL K H sl (xs.drop 1)) (h : i + 1 < xs.length) : (Itz K lo sl).go i H :=
  ⟨xs, xs.drop 1, xs[i], xs[i + 1], h1, h2, List.getElem?_eq_getElem _, by rw [drop1]; exact List.getElem?_eq_getElem h⟩
theorem itz_stop {K : PySem.W.Frag} {H : Hp} {lo sl : Addr} {xs : List V} {i : Nat} (h1 : SqL K H lo xs) (h2 : SqL K H sl (xs.drop 1)) (h : xs.length ≤ i + 1) : (Itz K lo sl).stop i H :=
  ⟨xs, xs.drop 1, h1, h2, .inr (by rw [List.length_drop]; omega)⟩
theorem same_of_new {H : Hp} {p : Addr} {o : HO} (h : H p = none) : Same H (upd H p o) := fun b u q => by
  rw [upd_ne (fun z => by rw [z, h] at q; cases q)]
  exact q
theorem env0_run {gn : Nat} (I : Inv X pins σ H s) : Env0 X.prog X.w X.K X.mg X.base X.A.in1 X.stack (s.setGen gn .running) H :=
  ⟨I.env0.frames, I.env0.mod, I.env0.bs, I.env0.bsz, I.env0.funs, I.env0.frf, I.env0.hok, allBare_setGen I.bare rfl⟩
theorem isl_of {lo : Addr} {xs : List V} (I : Inv X pins σ H s) (h : H lo = some (.lst xs)) : ∃ o, s.heap.get? lo = some o ∧ IsL o xs := by
  obtain ⟨z, its, n, r, e⟩ := I.hok lo _ h
  exact ⟨_, e, z, its, n, r, rfl⟩
theorem turned_back {L : Addr} {cd : Value} {a : Addr} {gn lo i : Nat} {xs : List V} {u v : V} {p : Addr} {fp : List Addr} {sl : Addr} {gs : GenState} {s1 : Shared} (I : Inv X pins σ H s) (Ef : Eff X.base X.stack (L :: fp) s s1) (hp : s.heap.get? p = none)
    (ht : ∃ its, Vals [u, v] its ∧ IsTup s1.heap p its.toArray) (hu : xs[i]? = some u) (hv : xs[i + 1]? = some v) (hch : ∀ b ∈ L :: fp, Own X pins H b ∧ X.s_0.heap.objs.size ≤ b) (hgen : s.heap.IsGen a gn) (hag : a ∉ L :: fp) (hafs : a ∉ frs X.stack)
    (hbare : gs.bare = true) (hsz : gn < s1.gens.size) (S : Slp X.prog X.w X.K X.base tg e yp ypos X.A.in1 (envOfC qual (defScope st) L f cd) X.stack lo (xs.drop 1) (i + 1) gs s1.heap fp sl) (hown : ∀ b ∈ a :: L :: sl :: fp, Own X pins H b ∧ b ≠ p) :
    Turned X pins σ H tg e yp ypos (envOfC qual (defScope st) L f cd) a gn lo xs i (some (.ref p)) (s1.setGen gn gs) := by
  have hpn := new_none I hp
  refine .inl ⟨u, v, p, gs, fp, sl, rfl, hu, hv, hpn, ?_, ?_, setGen_at hsz, S, fun b hb => (hown b hb).1.up (hown b hb).2, hag⟩
  · refine back_any (s4 := s1) I Ef (fun b o q => q) rfl (allBare_setGen Ef.bare hbare) hch (fun b o q => ?_) (fun b u q => ?_) fun b u' q n => ?_
    · rw [upd_ne (fun z => by rw [z, hp] at q; cases q)]
    · rw [upd_ne (fun z => by rw [z, hpn] at q; cases q)]
      exact q
    · by_cases hb : b = p
      · subst hb
        rw [upd_same] at q
        cases q
        obtain ⟨its, r, tt⟩ := ht
        exact ⟨by show 2 ≤ sizeLine; decide, its, r, tt⟩
      · rw [upd_ne hb, n] at q
        cases q
  · obtain ⟨o, nm, qn, ho, r⟩ := hgen
    exact ⟨o, nm, qn, Ef.keep a o ho hag hafs, r⟩
theorem next_slp {L : Addr} {cd : Value} {a : Addr} {gn lo i : Nat} {xs : List V} {fp : List Addr} {sl : Addr} {gs : GenState} {E : Value → Shared → Prop} (Tx : GT X.prog X.w X.K X.mg X.base x qual st f fd N p0 tg iter e yp ypos fpos g te wi) (hr : Room k X.A) (I : Inv X pins σ H s)
    (hlo : H lo = some (.lst xs)) (hL1 : ∀ b ∈ frs X.stack, b < L) (hL2 : X.base.objs.size ≤ L) (hL3 : X.s_0.heap.objs.size ≤ L) (hgen : s.heap.IsGen a gn) (hgs : s.gens[gn]? = some gs)
    (S : Slp X.prog X.w X.K X.base tg e yp ypos X.A.in1 (envOfC qual (defScope st) L f cd) X.stack lo (xs.drop 1) i gs s.heap fp sl) (hown : ∀ b ∈ a :: L :: sl :: fp, Own X pins H b) (hag : a ∉ L :: fp) (hafs : a ∉ frs X.stack) :
    wpAny (model X.prog X.w) X.A (pyNext (.ref a)) (Turned X pins σ H tg e yp ypos (envOfC qual (defScope st) L f cd) a gn lo xs i) E s := by
  obtain ⟨it, tn, fs, kk, l, pp, rfl, e2, e3, e4, e5, e6, T, stn⟩ := S.ex
  obtain ⟨m, hm⟩ := S.ns
  have e0 := env0_run (gn := gn) I
  have hgl : gn < s.gens.size := (Array.getElem?_eq_some_iff.mp hgs).1
  have hls : ∀ b ys, lsOf lo xs sl (xs.drop 1) b = some ys → ∃ o, (s.setGen gn .running).heap.get? b = some o ∧ IsL o ys := fun b ys q => by
    unfold lsOf at q
    by_cases h1 : b = lo
    · rw [if_pos h1] at q
      cases q
      rw [h1]
      have := isl_of I hlo
      exact this
    · rw [if_neg h1] at q
      by_cases h2 : b = sl
      · rw [if_pos h2] at q
        cases q
        rw [h2]
        exact S.lst
      · rw [if_neg h2] at q
        cases q
  have Ig := inv_fz (N := N) (σ := List.replicate N.length none) (pr := fp) (genv Tx.D L cd) e0 hL1 hL2 hr.hd (Around.frames_deeper (env := envOfC qual (defScope st) L f cd) e0.frames) hr.hd hls (by simp) ⟨m, hm, fun j y z h1 h2 _ => by
    rw [List.getElem?_replicate] at h2
    split at h2 <;> cases h2⟩
  have hlo0 : ∀ b ∈ L :: fp, b ≠ lo := fun b hb z => by
    have := (hown b (by rcases List.mem_cons.mp hb with q | q <;> simp [q])).un
    rw [z, hlo] at this; cases this
  obtain ⟨olo, hol, _⟩ := isl_of I hlo
  have hlob : X.base.get? lo = none := by
    cases q : X.base.get? lo with
    | none => rfl
    | some o =>
      have := (I.bs lo o q).2
      rw [hlo] at this; cases this
  have hlof : lo ∉ frs X.stack := fun z => by
    have := I.stkFree lo z
    rw [hlo] at this; cases this
  have slo : sl ≠ lo := fun z => by
    have := (hown sl (by simp)).un
    rw [z, hlo] at this; cases this
  obtain ⟨osl, hosl, _⟩ := S.lst
  have q1 : SqL X.K (Hz (envOfC qual (defScope st) L f cd) X.base X.stack (s.setGen gn .running) fp (lsOf lo xs sl (xs.drop 1))) lo xs :=
    .inl (.inr ⟨olo, fz_lst hol (fun z => hlo0 lo z rfl) hlof hlob (if_pos rfl)⟩)
  have q2 : SqL X.K (Hz (envOfC qual (defScope st) L f cd) X.base X.stack (s.setGen gn .running) fp (lsOf lo xs sl (xs.drop 1))) sl (xs.drop 1) := by
    refine .inl (.inr ⟨osl, fz_lst hosl (fun z => ?_) S.slfs S.slb ?_⟩)
    · rcases List.mem_cons.mp z with q | q
      · exact S.slL q
      · exact S.slfp q
    · unfold lsOf
      rw [if_neg slo, if_pos rfl]
  have hf : ∀ b ∈ fp, FpOk (Xz X.prog X.w X.K X.mg X.base N (X.A.in1.deeper (envOfC qual (defScope st) L f cd)) (envOfC qual (defScope st) L f cd) X.stack (s.setGen gn .running) fp (lsOf lo xs sl (xs.drop 1))) [] (Hz (envOfC qual (defScope st) L f cd) X.base X.stack (s.setGen gn .running) fp (lsOf lo xs sl (xs.drop 1))) b := fun b hb => by
    obtain ⟨z1, z2, z3⟩ := S.fpo b hb
    refine ⟨fz_pr (List.mem_cons_of_mem _ hb), z1, z2, .inr ?_, fun y c z => ?_, fun p hp => ?_⟩
    · show (cut s.heap L).objs.size ≤ b
      have ec : (cut s.heap L).objs.size = L := cut_size (Nat.le_of_lt hm.lt)
      rw [ec]
      exact z3
    · have z : (cellsFrom (L + 1) (defScope st).names []).lookup y = some c := z
      rw [cells_nil Tx.D.loc] at z
      cases z
    · exact absurd (show p ∈ ([] : List (Addr × Obj)) from hp) (by simp)
  have hch : ∀ b ∈ L :: fp, Own X pins H b ∧ X.s_0.heap.objs.size ≤ b := fun b hb => by
    refine ⟨hown b (by rcases List.mem_cons.mp hb with q | q <;> simp [q]), ?_⟩
    rcases List.mem_cons.mp hb with q | q
    · rw [q]; exact hL3
    · exact Nat.le_trans hL3 (S.fpo b q).2.2
  have efs : ∀ {s1 : Shared}, Eff X.base X.stack (L :: fp) (s.setGen gn .running) s1 → Eff X.base X.stack (L :: fp) s s1 := fun z => ⟨z.os, z.bare, z.keep, z.slot⟩
  refine wpAny_gsz (n := gn + 1) hgl ?_
  refine next_gl (Φ := fun ee s1 => (∃ ps k' l' pos u v, ee = .susp (.ref ps) false l' k' (gLoop tg e yp ypos it (envOfC qual (defScope st) L f cd)) pos fs ∧ xs[i]? = some u ∧ xs[i + 1]? = some v ∧ s.heap.get? ps = none ∧ Eff X.base X.stack (L :: fp) s s1 ∧
      (∃ its, Vals [u, v] its ∧ IsTup s1.heap ps its.toArray) ∧ tn (i + 1) s1.heap ∧ Again X.prog X.w X.A.in1 (gLoop tg e yp ypos it (envOfC qual (defScope st) L f cd)) fs k' ∧ ∃ m, s1.heap.Ns L m) ∨
    (ee = .ret (.ok (.ret .none)) ∧ xs.length ≤ i + 1 ∧ Eff X.base X.stack (L :: fp) s s1)) hr.hd I.nolimit (by have := hr.dp; omega) hgen hgs ?_ ?_
  · refine e6 _ _ ?_
    by_cases hlen : i + 1 < xs.length
    · refine sg_item (A' := X.A.in1.deeper (envOfC qual (defScope st) L f cd)) e5 e2 e3 Tx.D.co (Tx.int L cd) (fun s0 H0 => Tx.hg _ L cd _ s0 H0) (fun s0 H0 => Tx.he _ L cd _ s0 H0) T Ig hf stn (itz_go q1 q2 hlen)
        (Post := fun y H3 => ∃ TT a b p, y = .ref p ∧ H3 p = some (.tup [a, b]) ∧ xs[i]? = some a ∧ xs[i + 1]? = some b ∧ H3 = upd (upd (Hz (envOfC qual (defScope st) L f cd) X.base X.stack (s.setGen gn .running) fp (lsOf lo xs sl (xs.drop 1))) TT (.tup [a, b])) p (.tup [a, b])) ?_ ?_
      · rintro y H2 ⟨TT, a', b', rfl, ht, rfl, g1, g2⟩
        exact Tx.r2 _ _ TT a' b' _ (by simp) ht fun p hp => ⟨TT, a', b', p, rfl, upd_same, g1 xs q1, by rw [← drop1]; exact g2 _ q2, rfl⟩
      · rintro v y σ1 pins1 H3 s1 I1 st1 fr1 rv ⟨TT, a', b', p, rfl, hp3, g1, g2, rfl⟩ k' l' pos ag
        obtain rfl : v = Value.ref p := rv
        obtain ⟨_, its, r, tt⟩ := I1.hok p _ hp3
        obtain ⟨m1, hm1, _⟩ := I1.loc
        exact .inl ⟨p, k', l', pos, a', b', rfl, g1, g2, not_there (s := s.setGen gn .running) I1 hL1 fr1 hp3 (fun o v z => by cases z), efs (eff_of e0 hL1 hL2 I1), ⟨its, r, tt⟩, st1, ag, m1, hm1⟩
    · exact sg_stop e5 T Ig hf stn (itz_stop q1 q2 (by omega)) e4 fun s1 I1 => .inr ⟨rfl, by omega, efs (eff_of e0 hL1 hL2 I1)⟩
  · rintro ee s1 (⟨ps, k', l', pos, u, v, rfl, g1, g2, hps, Ef, ht, st1, ag, hns1⟩ | ⟨rfl, hlen, Ef⟩)
    · refine .inl ⟨.ref ps, l', k', _, pos, fs, rfl, e3, fun hsz => ?_⟩
      have egs : (End.susp (.ref ps) false l' k' (gLoop tg e yp ypos it (envOfC qual (defScope st) L f cd)) pos fs).genState = .suspended k' l' (gLoop tg e yp ypos it (envOfC qual (defScope st) L f cd)) pos fs false := by
        show GenState.suspended _ _ _ _ _ (false || fs.any Frame.guarded) = _
        rw [e3]
        rfl
      rw [egs] at hsz ⊢
      rw [setGen_size] at hsz
      have ksl : s1.heap.get? sl = some osl := Ef.keep sl osl hosl (fun z => by
        rcases List.mem_cons.mp z with q | q
        · exact S.slL q
        · exact S.slfp q) S.slfs
      obtain ⟨osl', hosl', isl'⟩ := S.lst
      rw [hosl] at hosl'
      cases hosl'
      refine turned_back I Ef hps ht g1 g2 hch hgen hag hafs rfl hsz ⟨⟨it, tn, fs, k', l', pos, rfl, e2, e3, e4, e5, ag, T, st1⟩, S.fpo, ⟨osl, ksl, isl'⟩, S.slfp, S.slL, S.slb, S.slfs, hns1⟩ fun b hb => ⟨hown b hb, fun z => ?_⟩
      rw [z] at hb
      rcases List.mem_cons.mp hb with q | hb
      · obtain ⟨o, _, _, ho, _⟩ := hgen
        rw [← q, hps] at ho; cases ho
      rcases List.mem_cons.mp hb with q | hb
      · obtain ⟨o, _, _, ho, _⟩ := hm
        have ho : s.heap.get? L = some o := ho
        rw [← q, hps] at ho; cases ho
      rcases List.mem_cons.mp hb with q | hb
      · rw [← q, hps] at hosl; cases hosl
      · obtain ⟨o, ho, _⟩ := T.obj i _ stn ps hb
        rw [hps] at ho; cases ho
    · refine .inr ⟨rfl, fun h' hk _ => .inr ⟨rfl, hlen, ?_⟩⟩
      exact back_any (s4 := s1) I Ef hk rfl (allBare_setGen Ef.bare rfl) hch (fun b o q => rfl) (fun b u q => q) fun b u q n => by rw [n] at q; cases q
theorem next_new {L : Addr} {cd : Value} {a : Addr} {gn lo : Nat} {xs : List V} {E : Value → Shared → Prop} (Tx : GT X.prog X.w X.K X.mg X.base x qual st f fd N p0 tg iter e yp ypos fpos g te wi) (hr : Room k X.A) (I : Inv X pins σ H s)
    (hlo : H lo = some (.lst xs)) (hL1 : ∀ b ∈ frs X.stack, b < L) (hL2 : X.base.objs.size ≤ L) (hL3 : X.s_0.heap.objs.size ≤ L) (hgen : s.heap.IsGen a gn)
    (hgs : s.gens[gn]? = some (.fresh (.func (defBody st) (envOfC qual (defScope st) L f cd)))) (hns : ∃ m, s.heap.Ns L m ∧ m p0 = some (.ref lo)) (hown : ∀ b ∈ [a, L], Own X pins H b) (haL : a ≠ L) (hafs : a ∉ frs X.stack) (hab : X.base.get? a = none) :
    wpAny (model X.prog X.w) X.A (pyNext (.ref a)) (Turned X pins σ H tg e yp ypos (envOfC qual (defScope st) L f cd) a gn lo xs 0) E s := by
  obtain ⟨m, hm, hmp⟩ := hns
  have e0 := env0_run (gn := gn) I
  have hgl : gn < s.gens.size := (Array.getElem?_eq_some_iff.mp hgs).1
  have hls : ∀ b ys, lsOf lo xs lo xs b = some ys → ∃ o, (s.setGen gn .running).heap.get? b = some o ∧ IsL o ys := fun b ys q => by
    unfold lsOf at q
    by_cases h1 : b = lo
    · rw [if_pos h1] at q
      cases q
      rw [h1]
      have := isl_of I hlo
      exact this
    · rw [if_neg h1, if_neg h1] at q
      cases q
  have hN : N = p0 :: N.drop 1 := by
    have := List.take_append_drop 1 N
    rw [Tx.D.pre] at this
    exact this.symm
  have Ig := inv_fz (N := N) (σ := some (.ref lo) :: List.replicate (N.length - 1) none) (pr := []) (genv Tx.D L cd) e0 hL1 hL2 hr.hd (Around.frames_deeper (env := envOfC qual (defScope st) L f cd) e0.frames) hr.hd hls (by
    rw [hN]
    simp) ⟨m, hm, fun j y z h1 h2 _ => by
    cases j with
    | zero =>
      rw [hN] at h1
      cases h1
      cases h2
      exact ⟨_, rfl, Tx.D.par, hmp⟩
    | succ j =>
      rw [List.getElem?_cons_succ, List.getElem?_replicate] at h2
      split at h2 <;> cases h2⟩
  obtain ⟨olo, hol, _⟩ := isl_of I hlo
  have hlob : X.base.get? lo = none := by
    cases q : X.base.get? lo with
    | none => rfl
    | some o =>
      have := (I.bs lo o q).2
      rw [hlo] at this; cases this
  have hlof : lo ∉ frs X.stack := fun z => by
    have := I.stkFree lo z
    rw [hlo] at this; cases this
  have hloL : lo ≠ L := fun z => by
    have := (hown L (by simp)).un
    rw [← z, hlo] at this; cases this
  have q1 : SqL X.K (Hz (envOfC qual (defScope st) L f cd) X.base X.stack (s.setGen gn .running) [] (lsOf lo xs lo xs)) lo xs :=
    .inl (.inr ⟨olo, fz_lst hol (fun z => hloL (List.mem_singleton.mp z)) hlof hlob (if_pos rfl)⟩)
  have efs : ∀ {s1 : Shared}, Eff X.base X.stack [L] (s.setGen gn .running) s1 → Eff X.base X.stack [L] s s1 := fun z => ⟨z.os, z.bare, z.keep, z.slot⟩
  have hch : ∀ b ∈ [L], Own X pins H b ∧ X.s_0.heap.objs.size ≤ b := fun b hb => by
    obtain rfl := List.mem_singleton.mp hb
    exact ⟨hown b (by simp), hL3⟩
  refine wpAny_gsz (n := gn + 1) hgl ?_
  refine next_gl (Φ := fun ee s1 => (∃ ps k' l' pos u v it fp tn sl fs, ee = .susp (.ref ps) false l' k' (gLoop tg e yp ypos it (envOfC qual (defScope st) L f cd)) pos fs ∧ splitAtGen fs = none ∧ fs.any Frame.guarded = false ∧ Ends X.prog X.w X.A.in1 fs ∧
      X.A.in1.over (gLoop tg e yp ypos it (envOfC qual (defScope st) L f cd)) fs = X.A.in1.deeper (envOfC qual (defScope st) L f cd) ∧ xs[0]? = some u ∧ xs[0 + 1]? = some v ∧ s.heap.get? ps = none ∧ Eff X.base X.stack [L] s s1 ∧
      (∃ its, Vals [u, v] its ∧ IsTup s1.heap ps its.toArray) ∧ Turn X.prog X.w X.K tg (Itz X.K lo sl) fp it tn ∧ tn (0 + 1) s1.heap ∧ Again X.prog X.w X.A.in1 (gLoop tg e yp ypos it (envOfC qual (defScope st) L f cd)) fs k' ∧ (∃ m, s1.heap.Ns L m) ∧
      (∀ b ∈ fp, b ≠ L ∧ L ≤ b ∧ s.heap.get? b = none ∧ b ∉ frs X.stack ∧ b ≠ ps) ∧ s.heap.get? sl = none ∧ sl ∉ fp ∧ sl ≠ ps ∧ ∃ o, s1.heap.get? sl = some o ∧ IsL o (xs.drop 1)) ∨
    (ee = .ret (.ok (.ret .none)) ∧ xs.length ≤ 0 + 1 ∧ Eff X.base X.stack [L] s s1)) hr.hd I.nolimit (by have := hr.dp; omega) hgen hgs ?_ ?_
  · show Sg _ X.A.in1 _ (.func (defBody st) _) _ [] _
    rw [Tx.body]
    refine sg_first (tg := tg) (e := e) (yp := yp) (ypos := ypos) (N := N) (R := fun J H1 => ∃ sl, J = Itz X.K lo sl ∧ (Hz (envOfC qual (defScope st) L f cd) X.base X.stack (s.setGen gn .running) [] (lsOf lo xs lo xs)) sl = none ∧
      H1 = upd (Hz (envOfC qual (defScope st) L f cd) X.base X.stack (s.setGen gn .running) [] (lsOf lo xs lo xs)) sl (.lst (xs.drop 1))) (Tx.hs _) Ig (Tx.hi _ L cd _ _ _) (Tx.r1 _ lo xs _ q1 fun sl hsl => ⟨sl, rfl, hsl, rfl⟩) ?_
    rintro it fp tn J H1 s1 I1 T stn hf ⟨sl, rfl, hsl, rfl⟩ fs e2 e3 e4 e5
    have q1' : SqL X.K (upd (Hz (envOfC qual (defScope st) L f cd) X.base X.stack (s.setGen gn .running) [] (lsOf lo xs lo xs)) sl (.lst (xs.drop 1))) lo xs := (same_of_new hsl).seq q1
    have q2' : SqL X.K (upd (Hz (envOfC qual (defScope st) L f cd) X.base X.stack (s.setGen gn .running) [] (lsOf lo xs lo xs)) sl (.lst (xs.drop 1))) sl (xs.drop 1) := .inl (.inl upd_same)
    have nth : ∀ {p u}, (upd (Hz (envOfC qual (defScope st) L f cd) X.base X.stack (s.setGen gn .running) [] (lsOf lo xs lo xs)) sl (.lst (xs.drop 1))) p = some u → (∀ o v, u ≠ .frz o v) → s.heap.get? p = none := fun {p u} z1 z2 =>
      not_there (s := s.setGen gn .running) I1 hL1 (fun b z => by cases z) z1 z2
    have hsln := nth upd_same (fun o v z => by cases z)
    by_cases hlen : 0 + 1 < xs.length
    · refine sg_item (A' := X.A.in1.deeper (envOfC qual (defScope st) L f cd)) e5 e2 e3 Tx.D.co (Tx.int L cd) (fun s0 H0 => Tx.hg _ L cd _ s0 H0) (fun s0 H0 => Tx.he _ L cd _ s0 H0) T I1 hf stn (itz_go q1' q2' hlen)
        (Post := fun y H3 => ∃ TT a b p, y = .ref p ∧ H3 p = some (.tup [a, b]) ∧ xs[0]? = some a ∧ xs[0 + 1]? = some b ∧ sl ≠ p ∧ H3 sl = some (.lst (xs.drop 1)) ∧
          H3 = upd (upd (upd (Hz (envOfC qual (defScope st) L f cd) X.base X.stack (s.setGen gn .running) [] (lsOf lo xs lo xs)) sl (.lst (xs.drop 1))) TT (.tup [a, b])) p (.tup [a, b])) ?_ ?_
      · rintro y H2 ⟨TT, a', b', rfl, ht, rfl, g1, g2⟩
        have nT : sl ≠ TT := fun z => by rw [← z, upd_same] at ht; cases ht
        refine Tx.r2 _ _ TT a' b' _ (by rw [hN]; simp) ht fun p hp => ?_
        have np : sl ≠ p := fun z => by
          rw [← z, upd_ne nT, upd_same] at hp
          cases hp
        exact ⟨TT, a', b', p, rfl, upd_same, g1 xs q1', by rw [← drop1]; exact g2 _ q2', np, by rw [upd_ne np, upd_ne nT, upd_same], rfl⟩
      · rintro v y σ1 pins1 H3 s2 I2 st2 fr2 rv ⟨TT, a', b', p, rfl, hp3, g1, g2, np, hs3, rfl⟩ k' l' pos ag
        obtain rfl : v = Value.ref p := rv
        obtain ⟨_, its, r, tt⟩ := I2.hok p _ hp3
        obtain ⟨z9, itl, nl, rl, el⟩ := I2.hok sl _ hs3
        obtain ⟨m1, hm1, _⟩ := I2.loc
        have nsl : sl ∉ fp := fun z => by
          have := (hf sl z).1
          rw [upd_same] at this; cases this
        refine .inl ⟨p, k', l', pos, a', b', it, fp, tn, sl, fs, rfl, e2, e3, e4, e5, g1, g2, not_there (s := s.setGen gn .running) I2 hL1 (fun b z => by cases z) hp3 (fun o v z => by cases z), efs (eff_of e0 hL1 hL2 I2), ⟨its, r, tt⟩, T, st2, ag, ⟨m1, hm1⟩, fun b hb => ?_, hsln, nsl, np, _, el, z9, itl, nl, rl, rfl⟩
        obtain ⟨z1, z2, z3, z4, _⟩ := hf b hb
        have hLb : L ≤ b := by
          rcases z4 with z | z
          · exact absurd (show b ∈ ([] : List Addr) from z) (by simp)
          · have ec : (cut s.heap L).objs.size = L := cut_size (Nat.le_of_lt hm.lt)
            have z : (cut s.heap L).objs.size ≤ b := z
            rwa [ec] at z
        refine ⟨z2, hLb, ?_, z3, fun z => ?_⟩
        · cases q : s.heap.get? b with
          | none => rfl
          | some o =>
            have hbb : X.base.get? b = none := by
              cases qb : X.base.get? b with
              | none => rfl
              | some ob =>
                have := Heap.lt_size qb
                exact absurd (Nat.lt_of_lt_of_le this (Nat.le_trans hL2 hLb)) (Nat.lt_irrefl _)
            obtain ⟨u', hu'⟩ := fz_get (h := s.heap) (base := X.base) (fs := frs X.stack) (pr := [L]) (ls := lsOf lo xs lo xs) q (fun z => z2 (List.mem_singleton.mp z)) z3 hbb
            have hu' : (Hz (envOfC qual (defScope st) L f cd) X.base X.stack (s.setGen gn .running) [] (lsOf lo xs lo xs)) b = some (.frz o u') := hu'
            have nb : b ≠ sl := fun z => nsl (by rw [← z]; exact hb)
            rw [upd_ne nb, hu'] at z1
            cases z1
        · have := fr2 b hb
          rw [z, upd_same] at this
          cases this
    · exact sg_stop e5 T I1 hf stn (itz_stop q1' q2' (by omega)) e4 fun s2 I2 => .inr ⟨rfl, by omega, efs (eff_of e0 hL1 hL2 I2)⟩
  · rintro ee s1 (⟨ps, k', l', pos, u, v, it, fp, tn, sl, fs, rfl, e2, e3, e4, e5, g1, g2, hps, Ef, ht, T, st1, ag, hns1, hfp, hsln, nsl, np, isl⟩ | ⟨rfl, hlen, Ef⟩)
    · refine .inl ⟨.ref ps, l', k', _, pos, fs, rfl, e3, fun hsz => ?_⟩
      have egs : (End.susp (.ref ps) false l' k' (gLoop tg e yp ypos it (envOfC qual (defScope st) L f cd)) pos fs).genState = .suspended k' l' (gLoop tg e yp ypos it (envOfC qual (defScope st) L f cd)) pos fs false := by
        show GenState.suspended _ _ _ _ _ (false || fs.any Frame.guarded) = _
        rw [e3]
        rfl
      rw [egs] at hsz ⊢
      rw [setGen_size] at hsz
      obtain ⟨oa, _, _, hoa, _⟩ := hgen
      obtain ⟨oL, _, _, hoL, _⟩ := hm
      have hoL : s.heap.get? L = some oL := hoL
      have Ef2 : Eff X.base X.stack (L :: fp) s s1 := ⟨Ef.os, Ef.bare, fun b o q n nf => Ef.keep b o q (fun z => n (by rw [List.mem_singleton.mp z]; exact List.mem_cons_self)) nf, Ef.slot⟩
      have hslb : X.base.get? sl = none := by
        cases qb : X.base.get? sl with
        | none => rfl
        | some ob =>
          have := (I.bs sl ob qb).1
          rw [hsln] at this; cases this
      have hslf : sl ∉ frs X.stack := fun z => by
        obtain ⟨_, o, ho, _⟩ := I.stack.mem z
        rw [hsln] at ho; cases ho
      have hslL : sl ≠ L := fun z => by rw [z, hoL] at hsln; cases hsln
      have hch2 : ∀ b ∈ L :: fp, Own X pins H b ∧ X.s_0.heap.objs.size ≤ b := fun b hb => by
        rcases List.mem_cons.mp hb with rfl | hb
        · exact ⟨hown b (by simp), hL3⟩
        · obtain ⟨_, z2, z3, _, _⟩ := hfp b hb
          exact ⟨own_new I z3, Nat.le_trans hL3 z2⟩
      refine turned_back I Ef2 hps ht g1 g2 hch2 ⟨oa, _, _, hoa, by assumption⟩ (fun z => ?_) hafs rfl hsz ⟨⟨it, tn, fs, k', l', pos, rfl, e2, e3, e4, e5, ag, T, st1⟩, fun b hb => ⟨(hfp b hb).1, (hfp b hb).2.2.2.1, (hfp b hb).2.1⟩, isl, nsl, hslL, hslb, hslf, hns1⟩ fun b hb => ?_
      · rcases List.mem_cons.mp z with z | z
        · exact haL z
        · rw [(hfp a z).2.2.1] at hoa; cases hoa
      · rcases List.mem_cons.mp hb with rfl | hb
        · exact ⟨hown b (by simp), fun z => by rw [z, hps] at hoa; cases hoa⟩
        rcases List.mem_cons.mp hb with rfl | hb
        · exact ⟨hown b (by simp), fun z => by rw [z, hps] at hoL; cases hoL⟩
        rcases List.mem_cons.mp hb with rfl | hb
        · exact ⟨own_new I hsln, np⟩
        · exact ⟨own_new I (hfp b hb).2.2.1, (hfp b hb).2.2.2.2⟩
    · refine .inr ⟨rfl, fun h' hk _ => .inr ⟨rfl, hlen, ?_⟩⟩
      exact back_any (s4 := s1) I Ef hk rfl (allBare_setGen Ef.bare rfl) hch (fun b o q => rfl) (fun b u q => q) fun b u q n => by rw [n] at q; cases q
end
end Gl

namespace Gl
open PySem PySem.Spec PyProof.Rows L2 GenW
/-- for x in f(l): the pairs of neighbours of the list l, new tuples, one after another -/
def tForG (t : TA) (g1 : TG) (tb : TS) : TS := fun D σ H => t σ H fun vs H1 => ∃ (lo : Addr) (xs : List V), vs = [.ref lo] ∧ H1 lo = some (.lst xs) ∧ ∃ Pv : Nat → L2.St → Hp → Prop, Pv 0 σ H1 ∧ (∀ i σ' H', Pv i σ' H' → H' lo = some (.lst xs)) ∧
  (∀ i u v σ' H' p, xs[i]? = some u → xs[i + 1]? = some v → Pv i σ' H' → H' p = none → g1 (.ref p) σ' (upd H' p (.tup [u, v])) fun σ2 H2 => tb { D with nx := Pv (i + 1), ct := Pv (i + 1), bk := D.nx } σ2 H2) ∧
  ∀ σ' H', Pv (xs.length - 1) σ' H' → D.nx σ' H'
section
variable {X : Cx} {k : Nat} {x qual nm : Str} {st : Stmt} {f : Addr} {fd : FuncData} {N : List Str} {p0 : Str} {tg iter e : Expr} {yp ypos fpos : Pos} {g : TG} {te : TE} {wi : TI} {tg1 e1 : Expr} {body : List Stmt} {g1 : TG} {tb : TS} {t : TA} {np cp pos : Pos}
/-- pinned, as they stand -/
theorem own_pinned {pins : List (Addr × Obj)} {σ : L2.St} {H : Hp} {s : Shared} {pv : List Addr} (I : Inv X pins σ H s) (ho : ∀ b ∈ pv, Own X pins H b) (he : ∀ b ∈ pv, ∃ o, s.heap.get? b = some o ∧ ∀ v, o.data ≠ .cell v) : Inv X (pins ++ pinsAt pv s.heap) σ H s := by
  refine I.pins_of fun p hp => ?_
  rcases List.mem_append.mp hp with z | z
  · exact I.pin p (List.mem_append_right _ z)
  · obtain ⟨hb, q⟩ := of_pinsAt z
    obtain ⟨o, q2, d⟩ := he p.1 hb
    rw [q] at q2
    cases q2
    exact ⟨q, (ho p.1 hb).un, (ho p.1 hb).loc, (ho p.1 hb).fs, d⟩
theorem inv_lull {pins : List (Addr × Obj)} {σ : L2.St} {H : Hp} {s : Shared} (I : Inv X pins σ H s) : Inv X pins σ H (Sw.lulled s) :=
  inv_gens I ⟨s.gens, rfl⟩ (Sw.allBare_lull I.bare)
theorem ps_forG (Tx : GT X.prog X.w X.K X.mg X.base x qual st f fd N p0 tg iter e yp ypos fpos g te wi) (hr : Room k X.A) (hc : X.calm = true) (hg : Gl X nm) (hm : X.mg nm = some (.ref f)) (hk : PySem.W.keepIn X.K (.ref f) = true) (hb : Binds X.K fd [p0] [])
    (ha : PA X [e1] t) (hg1 : PG X.nox tg1 g1) (hbd : PSs X.nox body tb) (hdb : (nm == ("__debug__" : Str)) = false := by decide) (hs : ∀ v, foldedSetIterable (.Call (.Name nm np) [e1] [] cp) X.env v = pure v := by intro _; rfl)
    (he : starEach [e1] X.env = (false, eval e1 X.env) :: starEach [] X.env := by rfl) : PS X (.For tg1 (.Call (.Name nm np) [e1] [] cp) body [] pos) (tForG t g1 tb) := by
  refine ⟨fun pins s σ H D I h => ?_⟩
  refine wpAny_For ?_ hs
  refine wpAny_Call_Name_kw (ld_glob I hg hm ?_ hdb)
  refine PySem.W.callWith_K (h₀ := X.base) I.ok.mod.kin hk (thn (ha.run cp pins s σ H _ I h) fun us s1 h1 => ?_) he rfl
  obtain ⟨vs, H1, I1, r, lo, xs, rfl, hlo, Pv, p1, pl, pt, pd⟩ := h1
  refine ⟨I1.kIn, ?_⟩
  obtain ⟨ulo, rfl, rlo⟩ : ∃ ulo, us = [ulo] ∧ ulo = .ref lo := by
    cases r with
    | cons r1 r2 => cases r2; exact ⟨_, rfl, r1⟩
  subst rlo
  refine wpAny_mono (made (E := fun _ _ => False) Tx.D hr I1 hb) (fun r2 s2 h2 => ?_) fun _ _ z => z.elim
  obtain ⟨a, gn, cd, rfl, W⟩ := h2
  obtain ⟨L, hL⟩ : ∃ L, L = s1.heap.objs.size := ⟨_, rfl⟩
  have I2 : Inv X pins σ H1 s2 := I1.call' (ch := []) W.os (Un.kept W.keep) (I1.hok.kept W.keep) W.bare fun b z => by simp at z
  have lt1 : ∀ {b o}, s1.heap.get? b = some o → b < L := fun q => by rw [hL]; exact Heap.lt_size q
  have hL1 : ∀ b ∈ frs X.stack, b < L := fun b hb => by
    obtain ⟨_, o, ho, _⟩ := I1.stack.mem hb
    exact lt1 ho
  have hL2 : X.base.objs.size ≤ L := by rw [hL]; exact Nat.le_trans I1.ok.bsz I1.sz
  have hL3 : X.s_0.heap.objs.size ≤ L := by rw [hL]; exact I1.sz
  have haL : a ≠ L := by rw [hL]; exact Nat.ne_of_gt W.le
  have hafs : a ∉ frs X.stack := fun z => by
    have h1 := hL1 a z
    have h2 := W.le
    rw [← hL] at h2
    exact Nat.lt_irrefl _ (Nat.lt_trans h1 h2)
  have nold : ∀ {b}, L ≤ b → s1.heap.get? b = none := fun {b} hb => by
    cases q : s1.heap.get? b with
    | none => rfl
    | some o => exact absurd (Nat.lt_of_lt_of_le (lt1 q) hb) (Nat.lt_irrefl _)
  have own2 : ∀ b ∈ [a, L], Own X pins H1 b := fun b hb => by
    refine own_new I1 (nold ?_)
    have h2 := W.le
    rw [← hL] at h2
    rcases List.mem_cons.mp hb with z | z
    · rw [z]
      exact Nat.le_of_lt h2
    · rw [List.mem_singleton.mp z]
      exact Nat.le_refl _
  have hab : X.base.get? a = none := by
    cases q : X.base.get? a with
    | none => rfl
    | some o =>
      have h1 := Heap.lt_size q
      have h2 := W.le
      rw [← hL] at h2
      exact absurd (Nat.lt_trans (Nat.lt_of_lt_of_le h1 hL2) h2) (Nat.lt_irrefl _)
  refine wpAny_pyIter_gen W.gen ?_
  have W1 := W.at_
  have W2 := W.ns
  rw [← hL] at W1 W2
  refine codeAny_forLoop_any (fun n s' => ∃ i σ' H', Inv X pins σ' H' s' ∧ Pv i σ' H' ∧ i ≤ xs.length - 1 ∧ n = xs.length - i ∧ s'.heap.IsGen a gn ∧
    ((i = 0 ∧ s'.gens[gn]? = some (.fresh (.func (defBody st) (envOfC qual (defScope st) L f cd))) ∧ (∃ m, s'.heap.Ns L m ∧ m p0 = some (.ref lo)) ∧ ∀ b ∈ [a, L], Own X pins H' b) ∨
      ∃ gs fp sl, s'.gens[gn]? = some gs ∧ Slp X.prog X.w X.K X.base tg e yp ypos X.A.in1 (envOfC qual (defScope st) L f cd) X.stack lo (xs.drop 1) i gs s'.heap fp sl ∧ (∀ b ∈ a :: L :: sl :: fp, Own X pins H' b) ∧ a ∉ L :: fp)) ?_ xs.length
    ⟨0, σ, H1, I2, p1, Nat.zero_le _, rfl, W.gen, .inl ⟨rfl, W1, W2, own2⟩⟩
  rintro n s3 ⟨i, σ3, H3, I3, p3, hi, rfl, hg3, hst⟩
  have key : wpAny (model X.prog X.w) X.A (pyNext (.ref a)) (Turned X pins σ3 H3 tg e yp ypos (envOfC qual (defScope st) L f cd) a gn lo xs i) (fun _ _ => False) s3 := by
    rcases hst with ⟨rfl, q1, q2, q3⟩ | ⟨gs, fp, sl, q1, q2, q3, q4⟩
    · exact next_new Tx hr I3 (pl _ _ _ p3) hL1 hL2 hL3 hg3 q1 q2 q3 haL hafs hab
    · exact next_slp Tx hr I3 (pl _ _ _ p3) hL1 hL2 hL3 hg3 q1 q2 q3 q4 hafs
  refine wpAny_mono key (fun r s4 h4 => ?_) fun _ _ z => z.elim
  rcases h4 with ⟨u, v, p, gs, fp, sl, rfl, hu, hv, hpn, I4, hg4, hgs4, S4, own4, hag4⟩ | ⟨rfl, hlen, I4⟩
  · obtain ⟨og, gnm, gqn, hog, hogc, hogd, _⟩ := id hg4
    refine go_of (n := "generator") hog hogc hogd (by decide) ?_
    have hobj : ∀ b ∈ a :: L :: sl :: fp, ∃ o, s4.heap.get? b = some o ∧ ∀ v, o.data ≠ .cell v := fun b hb => by
      rcases List.mem_cons.mp hb with rfl | hb
      · exact ⟨og, hog, fun v z => by rw [hogd] at z; cases z⟩
      · exact S4.obj b hb
    have I5 := (inv_lull (own_pinned I4 own4 hobj)).wish fun _ _ => False
    obtain ⟨kg, lg, cg, pg, fg, clg, egs⟩ : ∃ kg lg cg pg fg clg, gs = .suspended kg lg cg pg fg clg := by
      obtain ⟨_, _, _, _, _, _, q, _⟩ := S4.ex
      exact ⟨_, _, _, _, _, _, q⟩
    refine wpAny_mono (Sw.wpAny_sw (hg1.run _ (Sw.lulled s4) σ3 _ (.ref p) (.ref p) _ I5 rfl (pt i u v σ3 H3 p hu hv p3 hpn))) (fun _ s5 h5 => ?_) fun _ _ ⟨_, _, z⟩ => z.elim
    obtain ⟨s0, B5, σ5, H5, I5', q5⟩ := h5
    have hgs5 : s5.gens[gn]? = some gs := (B5.sleep gn _ _ _ _ _ _ (by rw [hgs4, egs])).trans hgs4
    have I6 := inv_gens I5' B5.eq (B5.bare I5'.bare)
    refine wpAny_mono (Sw.wpAny_sw (hbd.run _ (Sw.lulled s5) σ5 H5 _ (inv_lull I6) q5)) (fun fl s6 h6 => ?_) fun _ _ ⟨_, _, z⟩ => z.elim
    obtain ⟨s00, B6, q6⟩ := h6
    have hgs6 : s6.gens[gn]? = some gs := (B6.sleep gn _ _ _ _ _ _ (by rw [hgs5, egs])).trans hgs5
    have again : ∀ {σ7 : L2.St} {H7 : Hp}, Inv X.nox (pins ++ pinsAt (a :: L :: sl :: fp) s4.heap) σ7 H7 s00 → Pv (i + 1) σ7 H7 → ∃ m, m < xs.length - i ∧ ∃ i' σ' H', Inv X pins σ' H' s6 ∧ Pv i' σ' H' ∧ i' ≤ xs.length - 1 ∧ m = xs.length - i' ∧ s6.heap.IsGen a gn ∧
        ((i' = 0 ∧ s6.gens[gn]? = some (.fresh (.func (defBody st) (envOfC qual (defScope st) L f cd))) ∧ (∃ m, s6.heap.Ns L m ∧ m p0 = some (.ref lo)) ∧ ∀ b ∈ [a, L], Own X pins H' b) ∨
          ∃ gs fp sl, s6.gens[gn]? = some gs ∧ Slp X.prog X.w X.K X.base tg e yp ypos X.A.in1 (envOfC qual (defScope st) L f cd) X.stack lo (xs.drop 1) i' gs s6.heap fp sl ∧ (∀ b ∈ a :: L :: sl :: fp, Own X pins H' b) ∧ a ∉ L :: fp) := fun {σ7 H7} I7 p7 => by
      have I8 := (inv_gens I7 B6.eq (B6.bare I7.bare)).unwish
      have kept : ∀ b ∈ a :: L :: sl :: fp, ∀ o, s4.heap.get? b = some o → s6.heap.get? b = some o ∧ H7 b = none := fun b hb o q => by
        obtain ⟨z1, z2, _⟩ := I8.pin (b, o) (List.mem_append_right _ (List.mem_append_right _ (mem_pinsAt hb q)))
        exact ⟨z1, z2⟩
      have hil : i + 1 < xs.length := (List.getElem?_eq_some_iff.mp hv).1
      refine ⟨xs.length - (i + 1), by omega, i + 1, σ7, H7, I8.unpinned, p7, by omega, rfl, ⟨og, gnm, gqn, (kept a (by simp) og hog).1, hogc, hogd, by assumption⟩, .inr ⟨gs, fp, sl, hgs6, S4.keep fun b hb o q => (kept b (List.mem_cons_of_mem _ hb) o q).1, fun b hb => ?_, hag4⟩⟩
      obtain ⟨o, q, _⟩ := hobj b hb
      have o4 := own4 b hb
      exact ⟨(kept b hb o q).2, o4.loc, o4.fs, o4.cell, o4.pin⟩
    have bk : ∀ {σ7 : L2.St} {H7 : Hp}, Inv X.nox (pins ++ pinsAt (a :: L :: sl :: fp) s4.heap) σ7 H7 s00 → Inv X pins σ7 H7 s6 := fun I7 => (inv_gens I7 B6.eq (B6.bare I7.bare)).unwish.unpinned
    cases fl with
    | next => obtain ⟨σ7, H7, I7, n7⟩ := q6; exact again I7 n7
    | cont => obtain ⟨σ7, H7, I7, n7⟩ := q6; exact again I7 n7
    | brk => obtain ⟨σ7, H7, I7, q7⟩ := q6; exact ⟨σ7, H7, bk I7, q7⟩
    | ret v => obtain ⟨x7, σ7, H7, I7, r7, q7⟩ := q6; exact ⟨x7, σ7, H7, bk I7, r7, q7⟩
  · refine wpAny_execs_nil ⟨σ3, H3, I4, pd σ3 H3 ?_⟩
    have : i = xs.length - 1 := by omega
    rw [← this]
    exact p3
end
end Gl

namespace Gl
open PySem PySem.Spec PyProof.Rows L2 GenW
section
variable {X : Cx} {k : Nat} {x qual nm : Str} {st : Stmt} {f : Addr} {fd : FuncData} {N : List Str} {p0 : Str} {tg iter e : Expr} {yp ypos fpos : Pos} {g : TG} {te : TE} {wi : TI}
/-- the pairs of neighbours, as far as they stand -/
def Prs (xs : List V) (H : Hp) (ys : List V) : Prop := ∀ j v, ys[j]? = some v → ∃ p u w, v = .ref p ∧ xs[j]? = some u ∧ xs[j + 1]? = some w ∧ H p = some (.tup [u, w])
/-- the loop of list(g) over a generator of pairs -/
theorem drain_g {A0 : Around} (hA : X.A = A0.in1) (Tx : GT X.prog X.w X.K X.mg X.base x qual st f fd N p0 tg iter e yp ypos fpos g te wi) (hr : Room k X.A) {pins : List (Addr × Obj)} {σ : L2.St} {L a lo S : Addr} {cd res : Value} {gn : Nat} {xs : List V} {R : Result → Shared → Prop}
    (hL1 : ∀ b ∈ frs X.stack, b < L) (hL2 : X.base.objs.size ≤ L) (hL3 : X.s_0.heap.objs.size ≤ L) (haL : a ≠ L) (hafs : a ∉ frs X.stack) (hab : X.base.get? a = none) (hx : xs.length ≤ 1000) (hSlo : lo ≠ S) :
    ∀ (n i : Nat) (s : Shared) (H : Hp) (ys : List V), xs.length - 1 - i = n → i ≤ xs.length - 1 → Inv X pins σ H s → H lo = some (.lst xs) → H S = some (.lst ys) → ys.length = i → Prs xs H ys → s.heap.IsGen a gn →
      ((i = 0 ∧ s.gens[gn]? = some (.fresh (.func (defBody st) (envOfC qual (defScope st) L f cd))) ∧ (∃ m, s.heap.Ns L m ∧ m p0 = some (.ref lo)) ∧ ∀ b ∈ [a, L], Own X pins H b) ∨
        ∃ gs fp sl, s.gens[gn]? = some gs ∧ Slp X.prog X.w X.K X.base tg e yp ypos X.A.in1 (envOfC qual (defScope st) L f cd) X.stack lo (xs.drop 1) i gs s.heap fp sl ∧ (∀ b ∈ a :: L :: sl :: fp, Own X pins H b) ∧ a ∉ L :: fp) →
      (∀ s' H' zs, Inv X pins σ H' s' → H' S = some (.lst zs) → zs.length = xs.length - 1 → Prs xs H' zs → (∀ b o, b ≠ S → H b = some o → H' b = some o) → R (.ok (.ret res)) s') →
      codeAny (model X.prog X.w) A0 (.builtin "list.extend.loop" ⟨[.ref S, .ref a, res], []⟩) R s := by
  intro n
  induction n with
  | zero =>
    intro i s H ys hn hi I hlo hS hy hp hg hst hR
    refine codeAny_builtin F.entry_extend_loop ?_
    rw [Around.under_plainId F.plain_extend_loop _]
    show wpAny _ A0.in1 (pyNext (.ref a) >>= _) _ _ s
    rw [← hA]
    have key : wpAny (model X.prog X.w) X.A (pyNext (.ref a)) (Turned X pins σ H tg e yp ypos (envOfC qual (defScope st) L f cd) a gn lo xs i) (fun _ _ => False) s := by
      rcases hst with ⟨rfl, q1, q2, q3⟩ | ⟨gs, fp, sl, q1, q2, q3, q4⟩
      · exact next_new Tx hr I hlo hL1 hL2 hL3 hg q1 q2 q3 haL hafs hab
      · exact next_slp Tx hr I hlo hL1 hL2 hL3 hg q1 q2 q3 q4 hafs
    refine wpAny_bind (wpAny_mono key (fun r s4 h4 => ?_) fun _ _ z => z.elim)
    rcases h4 with ⟨u, v, p, gs, fp, sl, rfl, hu, hv, _⟩ | ⟨rfl, hlen, I4⟩
    · have := (List.getElem?_eq_some_iff.mp hv).1
      omega
    · exact wpAny_pure (hR _ H ys I4 hS (by omega) hp fun _ _ _ z => z)
  | succ n ih =>
    intro i s H ys hn hi I hlo hS hy hp hg hst hR
    refine codeAny_builtin F.entry_extend_loop ?_
    rw [Around.under_plainId F.plain_extend_loop _]
    show wpAny _ A0.in1 (pyNext (.ref a) >>= _) _ _ s
    rw [← hA]
    have key : wpAny (model X.prog X.w) X.A (pyNext (.ref a)) (Turned X pins σ H tg e yp ypos (envOfC qual (defScope st) L f cd) a gn lo xs i) (fun _ _ => False) s := by
      rcases hst with ⟨rfl, q1, q2, q3⟩ | ⟨gs, fp, sl, q1, q2, q3, q4⟩
      · exact next_new Tx hr I hlo hL1 hL2 hL3 hg q1 q2 q3 haL hafs hab
      · exact next_slp Tx hr I hlo hL1 hL2 hL3 hg q1 q2 q3 q4 hafs
    refine wpAny_bind (wpAny_mono key (fun r s4 h4 => ?_) fun _ _ z => z.elim)
    rcases h4 with ⟨u, v, p, gs, fp, sl, rfl, hu, hv, hpn, I4, hg4, hgs4, S4, own4, hag4⟩ | ⟨rfl, hlen, I4⟩
    · have hpS : S ≠ p := fun z => by rw [← z, hS] at hpn; cases hpn
      have hS4 : upd H p (.tup [u, v]) S = some (.lst ys) := by rw [upd_ne hpS]; exact hS
      have hlp : lo ≠ p := fun z => by rw [← z, hlo] at hpn; cases hpn
      obtain ⟨z, its, c, r, hl, es⟩ := I4.lstM hS4
      show wpAny _ _ (updateSeq S (·.push (.ref p)) >>= _) _ _ _
      refine wpAny_bind ?_
      have h1001 : (1001 : Nat) ≤ sizeLine := by decide
      have hb1 : its.toArray.size ≤ sizeLine := by rw [List.size_toArray]; omega
      have hb2 : (its.toArray.push (Value.ref p)).size ≤ sizeLine + 1 := by rw [Array.size_push, List.size_toArray]; omega
      have hb3 : (ys ++ [V.ref p]).length ≤ sizeLine := by rw [List.length_append, List.length_singleton]; omega
      refine wpAny_updateSeq es rfl (wpAny_pure ⟨plainId_quiet F.plain_extend_loop _, ?_⟩) hb1 hb2
      have rp : Vals [V.ref p] [Value.ref p] := .cons (show RelV (V.ref p) (Value.ref p) from rfl) .nil
      have I5 := I4.lset (its' := its ++ [Value.ref p]) (ys := ys ++ [V.ref p]) (f := fun zs => zs.push (Value.ref p)) (t' := s4.toks) hS4 es (by simp) (r.append rp) hb3
      have nS : ∀ b, upd H p (.tup [u, v]) b = none → b ≠ S := fun b q z => by rw [z, hS4] at q; cases q
      have keepS : ∀ b o, b ≠ S → s4.heap.get? b = some o → (s4.heap.update S (Obj.mapSeq (·.push (.ref p)))).get? b = some o := fun b o h q => (Heap.get?_update_other _ _ (Ne.symm h)).trans q
      refine ih (i + 1) _ _ (ys ++ [.ref p]) (by omega) (by omega) I5 (by rw [upd_ne hSlo, upd_ne hlp]; exact hlo) upd_same (by rw [List.length_append, hy]; rfl) ?_ ?_ (.inr ⟨gs, fp, sl, hgs4, S4.keep fun b hb o q => keepS b o (nS b (own4 b (List.mem_cons_of_mem _ hb)).un) q, fun b hb => ?_, hag4⟩) ?_
      · intro j w hj
        rw [List.getElem?_append] at hj
        split at hj
        · obtain ⟨p', u', w', q1, q2, q3, q4⟩ := hp j w hj
          refine ⟨p', u', w', q1, q2, q3, ?_⟩
          have n1 : p' ≠ S := fun z => by rw [z, hS] at q4; cases q4
          have n2 : p' ≠ p := fun z => by rw [z, hpn] at q4; cases q4
          rw [upd_ne n1, upd_ne n2]
          exact q4
        · rename_i hnj
          have hj0 : j - ys.length = 0 := by
            have := (List.getElem?_eq_some_iff.mp hj).1
            simp at this
            omega
          rw [hj0] at hj
          cases hj
          have : j = i := by omega
          subst this
          exact ⟨p, u, v, rfl, hu, hv, by rw [upd_ne (Ne.symm hpS), upd_same]⟩
      · obtain ⟨o, nm', qn, ho, r'⟩ := hg4
        exact ⟨o, nm', qn, keepS a o (nS a (own4 a (by simp)).un) ho, r'⟩
      · have o4 := own4 b hb
        exact o4.up (nS b o4.un)
      · intro s' H' zs q1 q2 q3 q4 q5
        refine hR s' H' zs q1 q2 q3 q4 fun b o hb q => q5 b o hb ?_
        rw [upd_ne hb, upd_ne (fun z => by rw [z, hpn] at q; cases q)]
        exact q
    · omega
theorem inv_at {A1 : Around} {pins : List (Addr × Obj)} {σ : L2.St} {H : Hp} {s : Shared} (h1 : A1.handled = X.A.handled) (h2 : A1.frames = X.A.frames) (I : Inv X pins σ H s) : Inv { X with A := A1 } pins σ H s :=
  ⟨⟨I.ok.mod, I.ok.kind, I.ok.glob, I.ok.blt, I.ok.above, I.ok.inj, I.ok.has, I.ok.cab, fun c => h1.trans (I.ok.hd c), h2.trans I.ok.frames, I.ok.stk, I.ok.exf, I.ok.bs, I.ok.bsz, I.ok.noex, I.ok.exfs, I.ok.funs, I.ok.frf⟩, I.os, I.bare, I.base, I.loc, I.cell, I.free, I.freeC, I.pin, I.hok, I.len⟩
theorem inv_back {A1 : Around} {pins : List (Addr × Obj)} {σ : L2.St} {H : Hp} {s : Shared} (h1 : A1.handled = X.A.handled) (h2 : A1.frames = X.A.frames) (I : Inv { X with A := A1 } pins σ H s) : Inv X pins σ H s :=
  inv_at (X := { X with A := A1 }) (A1 := X.A) h1.symm h2.symm I
/-- list(g) of a generator of pairs that was just made -/
theorem call_list_g (Tx : GT X.prog X.w X.K X.mg X.base x qual st f fd N p0 tg iter e yp ypos fpos g te wi) (hr : Room (k + 1) X.A) {pins : List (Addr × Obj)} {σ : L2.St} {H : Hp} {L a lo gn : Nat} {cd : Value} {xs : List V} {s : Shared} {Q : Value → Shared → Prop} {E : Value → Shared → Prop}
    (I : Inv X pins σ H s) (hlo : H lo = some (.lst xs)) (hx : xs.length ≤ 1000)
    (hL1 : ∀ b ∈ frs X.stack, b < L) (hL2 : X.base.objs.size ≤ L) (hL3 : X.s_0.heap.objs.size ≤ L) (haL : a ≠ L) (hafs : a ∉ frs X.stack) (hab : X.base.get? a = none) (hg : s.heap.IsGen a gn)
    (hgs : s.gens[gn]? = some (.fresh (.func (defBody st) (envOfC qual (defScope st) L f cd)))) (hns : ∃ m, s.heap.Ns L m ∧ m p0 = some (.ref lo)) (hown : ∀ b ∈ [a, L], Own X pins H b)
    (hQ : ∀ S s' H' zs, H S = none → Inv X pins σ H' s' → H' S = some (.lst zs) → zs.length = xs.length - 1 → Prs xs H' zs → Same H H' → Q (.ref S) s') :
    wpAny (model X.prog X.w) X.A (call (.type "list") [.ref a]) Q E s := by
  have hl := I.nolimit
  obtain ⟨oa, _, _, hoa, _⟩ := id hg
  have hSa : s.heap.objs.size ≠ a := Nat.ne_of_gt (Heap.lt_size hoa)
  have hHS : H s.heap.objs.size = none := I.hok.fresh (Nat.le_refl _)
  refine callType_codes (Q₁ := fun obj s₁ => obj = .ref s.heap.objs.size ∧ s₁ = { s with heap := s.heap.push { cls := .type "list", data := .seq #[] } }) F.called_list (F.typeCall_list_1 _) F.entry_list_init
    (code_list_new _ ⟨rfl, rfl⟩) fun obj s₁ h₁ => ?_
  obtain ⟨rfl, rfl⟩ := h₁
  have hS : (s.heap.push { cls := .type "list", data := .seq #[] }).get? s.heap.objs.size = some { cls := .type "list", data := .seq #[] } := Heap.get?_push_size _ rfl
  refine ⟨⟨_, hS, rfl⟩, F.args_list_init_2 _ _, ?_⟩
  show wpAny _ X.A.in1.in1 (do let old ← Builtin.List.listItems (.ref s.heap.objs.size); Builtin.List.listUpdate (.ref s.heap.objs.size) (fun _ => #[]); letGo old.toList.reverse; Builtin.List.listExtendWith (.ref s.heap.objs.size) (.ref a) .none) _ _ _
  refine wpAny_bind ?_
  unfold Builtin.List.listItems
  refine wpAny_bind (wpAny_seqItems hS rfl (wpAny_pure ?_))
  show wpAny _ X.A.in1.in1 (updateSeq s.heap.objs.size (fun _ => #[]) >>= fun _ => letGo (#[] : Array Value).toList.reverse >>= fun _ => Builtin.List.listExtendWith (.ref s.heap.objs.size) (.ref a) .none) _ _ _
  refine wpAny_bind (wpAny_updateSeq hS rfl ?_)
  have hS2 := Heap.get?_update_self (Obj.mapSeq (fun _ => (#[] : Array Value))) hS rfl
  refine wpAny_bind (wpAny_letGo ?_)
  unfold Builtin.List.listExtendWith
  have up : ∀ (h : Heap) (f : Obj → Obj), (∀ b o, s.heap.get? b = some o → h.get? b = some o) → ∀ b o, s.heap.get? b = some o → (h.update s.heap.objs.size f).get? b = some o := fun h f q b o e =>
    (Heap.get?_update_other _ _ (Ne.symm (Nat.ne_of_lt (Heap.lt_size e)))).trans (q b o e)
  have k1 : ∀ b o, s.heap.get? b = some o → (s.heap.push { cls := .type "list", data := .seq #[] }).get? b = some o := fun b o e => Heap.get?_push_of_some _ e
  have k2 := up _ (Obj.mapSeq (fun _ => (#[] : Array Value))) k1
  have gty : ∀ {h : Heap}, (∀ b o, s.heap.get? b = some o → h.get? b = some o) → h.IsGen a gn := fun {h} q => hg.keeps q
  refine wpAny_bind (wpAny_typeOf (Heap.IsGen.typeIs (s := { s with heap := _ }) (gty k2)) ?_)
  have h1 : Builtin.List.listSameRef (.ref s.heap.objs.size) (.ref a) = false := by simp [Builtin.List.listSameRef, hSa]
  have h2 : (Value.type "generator" == Value.type "list") = false := by decide
  have h3 : (Value.type "generator" == Value.type "tuple") = false := by decide
  simp only [h1, h2, h3, Bool.or_false, Bool.false_eq_true, if_false]
  refine wpAny_bind (wpAny_pyIter_gen (s := { s with heap := _ }) (gty k2) ?_)
  refine wpAny_bind (wpAny_holding ?_)
  unfold Builtin.List.listLengthHint
  refine wpAny_bind (wpAny_specialOf (Heap.IsGen.typeIs (s := { s with heap := _ }) (gty k2)) F.gen_no_len ?_)
  show wpAny _ X.A.in1.in1 (specialOf (Value.ref a) (Str.ofString "__length_hint__") >>= _) _ _ _
  refine wpAny_bind (wpAny_specialOf (Heap.IsGen.typeIs (s := { s with heap := _ }) (gty k2)) F.gen_no_hint ?_)
  refine wpAny_pure ?_
  show wpAny _ X.A.in1.in1 (rule "list.extend.makes-room" >>= fun _ => Builtin.List.listTouch (.ref s.heap.objs.size) >>= fun _ =>
    again (.builtin "list.extend.loop" ⟨[.ref s.heap.objs.size, .ref a, .none], []⟩)) _ _ _
  refine wpAny_bind (wpAny_rule ?_)
  refine wpAny_bind ?_
  show wpAny _ X.A.in1.in1 (updateSeq s.heap.objs.size (·.push .none) >>= fun _ => updateSeq s.heap.objs.size (·.pop)) _ _ _
  refine wpAny_bind (wpAny_updateSeq hS2 rfl ?_)
  have hS3 := Heap.get?_update_self (Obj.mapSeq (·.push Value.none)) hS2 rfl
  refine wpAny_updateSeq (hz := by seq_fits) hS3 rfl ?_
  have hS4 := Heap.get?_update_self (Obj.mapSeq (·.pop)) hS3 rfl
  have k4 := up _ (Obj.mapSeq (·.pop)) (up _ (Obj.mapSeq (·.push Value.none)) k2)
  refine wpAny_pure ⟨plainId_quiet F.plain_extend_loop _, ?_⟩
  have IS := inv_at (A1 := X.A.in1.in1) rfl rfl (I.drained (s' := { s with heap := (((s.heap.push { cls := .type "list", data := .seq #[] }).update s.heap.objs.size (Obj.mapSeq fun _ => #[])).update s.heap.objs.size (Obj.mapSeq (·.push Value.none))).update s.heap.objs.size (Obj.mapSeq (·.pop)) }) (H' := H) (ex := []) (out := []) (acc := #[]) (Nat.le_refl _) (Nat.zero_le _) hS4 .nil ExOk.nil rfl I.bare (Un.kept k4) (I.hok.kept k4) hHS)
  have nS : ∀ b ∈ [a, L], b ≠ s.heap.objs.size := fun b hb => by
    rcases List.mem_cons.mp hb with z | z
    · rw [z]; exact Ne.symm hSa
    · rw [List.mem_singleton.mp z]
      obtain ⟨m, hm, _⟩ := hns
      exact Nat.ne_of_lt hm.lt
  have hloS : lo ≠ s.heap.objs.size := fun z => by rw [z, hHS] at hlo; cases hlo
  obtain ⟨m, hm, hmp⟩ := hns
  refine drain_g (X := { X with A := X.A.in1.in1 }) (A0 := X.A.in1) (k := k) rfl Tx ⟨hr.hd, ?_, ?_⟩ hL1 hL2 hL3 haL hafs hab hx hloS _ 0 _ _ [] rfl (Nat.zero_le _) IS (by rw [upd_ne hloS]; exact hlo) upd_same rfl (fun j v z => by cases z) (gty k4) (.inl ⟨rfl, hgs, ⟨m, hm.at' fun o q => k4 _ o q, hmp⟩, fun b hb => ?_⟩) fun s' H' zs q1 q2 q3 q4 q5 => ⟨rfl, ?_⟩
  · have := hr.dp
    show X.A.depth + 3 * k + 5 < _
    omega
  · have := hr.un
    show X.A.units + 1 + 1 + 16 * k + 200 < _
    omega
  · have := (hown b hb).up (o := .lst []) (nS b hb)
    exact ⟨this.un, this.loc, this.fs, this.cell, this.pin⟩
  · refine hQ _ s' H' zs hHS (inv_back (X := X) (A1 := X.A.in1.in1) rfl rfl q1) q2 q3 q4 fun b o q => ?_
    have nb : b ≠ s.heap.objs.size := fun z => by rw [z, hHS] at q; cases q
    exact q5 b o nb (by rw [upd_ne nb]; exact q)
def tListF (t : TA) : TE := fun σ H Q => t σ H fun vs H1 => ∃ (lo : Addr) (xs : List V), vs = [.ref lo] ∧ H1 lo = some (.lst xs) ∧ xs.length ≤ 1000 ∧
  ∀ S H' zs, H1 S = none → H' S = some (.lst zs) → zs.length = xs.length - 1 → Prs xs H' zs → Same H1 H' → Q (.ref S) H'
/-- list(f(l)) -/
theorem pe_listF {e1 : Expr} {t : TA} {ln : Str} {np cp lp pos : Pos} (Tx : GT X.prog X.w X.K X.mg X.base x qual st f fd N p0 tg iter e yp ypos fpos g te wi) (hr : Room (k + 1) X.A) (hg : Gl X nm) (hm : X.mg nm = some (.ref f)) (hk : PySem.W.keepIn X.K (.ref f) = true) (hb : Binds X.K fd [p0] [])
    (hgl : Gl X ln) (hml : X.mg ln = none) (hv : bootBuiltins ln = some (.type "list")) (ha : PA X [e1] t) (hnl : ln ≠ "__name__" := by decide) (hdl : (ln == ("__debug__" : Str)) = false := by decide) (hdb : (nm == ("__debug__" : Str)) = false := by decide)
    (he : starEach [e1] X.env = (false, eval e1 X.env) :: starEach [] X.env := by rfl)
    (hel : starEach [Expr.Call (.Name nm np) [e1] [] cp] X.env = (false, eval (Expr.Call (.Name nm np) [e1] [] cp) X.env) :: starEach [] X.env := by rfl) :
    PE X (.Call (.Name ln lp) [.Call (.Name nm np) [e1] [] cp] [] pos) (tListF t) := by
  refine ⟨fun pins s σ H Q I h => ?_⟩
  refine wpAny_Call_Name_kw (ld_blt I hgl hml hv ?_ hnl hdl)
  refine PyProof.Rows.callWith_type1 ?_ hel rfl
  rw [hel]
  show wpAny _ _ (spliced ((false, eval (Expr.Call (.Name nm np) [e1] [] cp) X.env) :: backTo pos (starEach [] X.env))) _ _ s
  have gen : wpAny (model X.prog X.w) X.A (eval (Expr.Call (.Name nm np) [e1] [] cp) X.env) (fun (r2 : Value) (s2 : Shared) => ∃ (vs : List V) (H1 : Hp) (s1 : Shared) (a : Addr) (gn : Nat) (cd : Value) (lo : Addr), Inv X pins σ H1 s1 ∧ vs = [V.ref lo] ∧ (∃ (lo : Addr) (xs : List V), vs = [.ref lo] ∧ H1 lo = some (.lst xs) ∧ xs.length ≤ 1000 ∧
      ∀ S H' zs, H1 S = none → H' S = some (.lst zs) → zs.length = xs.length - 1 → Prs xs H' zs → Same H1 H' → Q (.ref S) H') ∧ r2 = Value.ref a ∧ New qual st f cd p0 (Value.ref lo) s1 a gn s2) X.xe s := by
    refine wpAny_Call_Name_kw (ld_glob I hg hm ?_ hdb)
    refine PySem.W.callWith_K (h₀ := X.base) I.ok.mod.kin hk (thn (ha.run cp pins s σ H _ I h) fun us s1 h1 => ?_) he rfl
    obtain ⟨vs, H1, I1, r, lo, xs, rfl, hlo, q⟩ := h1
    refine ⟨I1.kIn, ?_⟩
    obtain ⟨ulo, rfl, rlo⟩ : ∃ ulo, us = [ulo] ∧ ulo = .ref lo := by
      cases r with
      | cons r1 r2 => cases r2; exact ⟨_, rfl, r1⟩
    subst rlo
    refine wpAny_mono (made (E := fun _ _ => False) Tx.D hr I1 hb) (fun r2 s2 h2 => ?_) fun _ _ z => z.elim
    obtain ⟨a, gn, cd, rfl, W⟩ := h2
    exact ⟨_, H1, s1, a, gn, cd, lo, I1, rfl, ⟨lo, xs, rfl, hlo, q⟩, rfl, W⟩
  refine Calls.spliced_cons (thn gen fun u s2 h2 => ?_)
  refine Calls.spliced_nil ?_
  obtain ⟨_, H1, s1, a, gn, cd, lo, I1, rfl, ⟨lo', xs, el, hlo, hx, q⟩, rfl, W⟩ := h2
  cases el
  obtain ⟨L, hL⟩ : ∃ L, L = s1.heap.objs.size := ⟨_, rfl⟩
  have I2 : Inv X pins σ H1 s2 := I1.call' (ch := []) W.os (Un.kept W.keep) (I1.hok.kept W.keep) W.bare fun b z => by simp at z
  have lt1 : ∀ {b o}, s1.heap.get? b = some o → b < L := fun q => by rw [hL]; exact Heap.lt_size q
  have hL1 : ∀ b ∈ frs X.stack, b < L := fun b hb => by
    obtain ⟨_, o, ho, _⟩ := I1.stack.mem hb
    exact lt1 ho
  have hL2 : X.base.objs.size ≤ L := by rw [hL]; exact Nat.le_trans I1.ok.bsz I1.sz
  have hL3 : X.s_0.heap.objs.size ≤ L := by rw [hL]; exact I1.sz
  have haL : a ≠ L := by rw [hL]; exact Nat.ne_of_gt W.le
  have hafs : a ∉ frs X.stack := fun z => by
    have h1 := hL1 a z
    have h2 := W.le
    rw [← hL] at h2
    exact Nat.lt_irrefl _ (Nat.lt_trans h1 h2)
  have nold : ∀ {b}, L ≤ b → s1.heap.get? b = none := fun {b} hb => by
    cases q : s1.heap.get? b with
    | none => rfl
    | some o => exact absurd (Nat.lt_of_lt_of_le (lt1 q) hb) (Nat.lt_irrefl _)
  have own2 : ∀ b ∈ [a, L], Own X pins H1 b := fun b hb => by
    refine own_new I1 (nold ?_)
    have h2 := W.le
    rw [← hL] at h2
    rcases List.mem_cons.mp hb with z | z
    · rw [z]
      exact Nat.le_of_lt h2
    · rw [List.mem_singleton.mp z]
      exact Nat.le_refl _
  have hab : X.base.get? a = none := by
    cases q : X.base.get? a with
    | none => rfl
    | some o =>
      have h1 := Heap.lt_size q
      have h2 := W.le
      rw [← hL] at h2
      exact absurd (Nat.lt_trans (Nat.lt_of_lt_of_le h1 hL2) h2) (Nat.lt_irrefl _)
  have W1 := W.at_
  have W2 := W.ns
  rw [← hL] at W1 W2
  exact call_list_g Tx hr I2 hlo hx hL1 hL2 hL3 haL hafs hab W.gen W1 W2 own2 fun S s' H' zs q1 q2 q3 q4 q5 q6 => ⟨.ref S, H', q2, rfl, q S H' zs q1 q3 q4 q5 q6⟩
end
end Gl

namespace Gl
open PySem PySem.Spec PyProof.Rows L2
/-! the parts of a generator def's body -/
def bTg : List Stmt → Expr
  | .For tg _ _ _ _ :: _ => tg
  | _ => .Constant .none 0 ⟨0, 0, 0, 0⟩
def bIt : List Stmt → Expr
  | .For _ it _ _ _ :: _ => it
  | _ => .Constant .none 0 ⟨0, 0, 0, 0⟩
def bE : List Stmt → Expr
  | .For _ _ (.Expr (.Yield (some e) _) _ :: _) _ _ :: _ => e
  | _ => .Constant .none 0 ⟨0, 0, 0, 0⟩
def bYp : List Stmt → Pos
  | .For _ _ (.Expr (.Yield _ p) _ :: _) _ _ :: _ => p
  | _ => ⟨0, 0, 0, 0⟩
def bYs : List Stmt → Pos
  | .For _ _ (.Expr _ p :: _) _ _ :: _ => p
  | _ => ⟨0, 0, 0, 0⟩
def bFp : List Stmt → Pos
  | .For _ _ _ _ p :: _ => p
  | _ => ⟨0, 0, 0, 0⟩
theorem cut1 (xs : List V) : cutV xs (some 1) none = xs.drop 1 := by
  have e2 : HT.sIx xs.length xs.length none = xs.length := rfl
  have e1 : HT.sIx xs.length 0 (some 1) = min 1 xs.length := by
    unfold HT.sIx
    simp
  unfold cutV
  rw [e1, e2]
  cases xs with
  | nil => rfl
  | cons x xs =>
    rw [show min 1 (x :: xs).length = 1 by rw [List.length_cons]; omega]
    rw [List.drop_succ_cons, List.drop_zero, List.length_cons, Nat.add_sub_cancel, List.take_length]
theorem zip_r1 {K : PySem.W.Frag} {a b c : Str} (H : Hp) (lo : Addr) (xs : List V) (R : It → Hp → Prop) (h : SqL K H lo xs) (q : ∀ sl, H sl = none → R (Itz K lo sl) (upd H sl (.lst (xs.drop 1)))) :
    iZip K (tCons (tVar 0) (tCons (tSl (rSlL K) (tVar 0) (tPart (tC (.int 1))) tNoPart) tNil)) (some (.ref lo) :: List.replicate (([a, b, c] : List Str).length - 1) none) H R := by
  refine ⟨_, rfl, _, rfl, 1, rfl, lo, xs, rfl, h, fun sl hsl => ?_⟩
  rw [cut1]
  exact ⟨lo, sl, xs, xs.drop 1, rfl, (same_of_new hsl).seq h, .inl (.inl upd_same), q sl hsl⟩
theorem zip_r2 {K : PySem.W.Frag} {a b c : Str} (σ : L2.St) (H : Hp) (T : Addr) (u v : V) (R : VK) (hl : σ.length = ([a, b, c] : List Str).length) (hT : H T = none) (q : ∀ p, upd H T (.tup [u, v]) p = none → R (.ref p) (upd (upd H T (.tup [u, v])) p (.tup [u, v]))) :
    gTup K 2 (gCons (gName 1) (gCons (gName 2) gNil)) (.ref T) σ (upd H T (.tup [u, v])) fun σ2 H2 => tTup (tCons (tVar 1) (tCons (tVar 2) tNil)) σ2 H2 R := by
  match σ, hl with
  | [s0, s1, s2], _ =>
    exact ⟨T, [u, v], rfl, .inl (.inl upd_same), rfl, u, [v], rfl, v, [], rfl, rfl, u, rfl, v, rfl, by show 2 ≤ sizeLine; decide, q⟩
end Gl

namespace Z
open PySem PySem.Spec PyProof.Rows L2

/-! ### operators -/
section
variable {X : Cx}
def CFd (_ j : Int) : Prop := j ≠ 0 ∧ j.natAbs.log2 < 9000
theorem op_fdivZ : OpR X (binaryOp .FloorDiv) (rI CFd fun i j => .int (i.fdiv j)) := opI fun i j _ _ _ _ _ hc q => floordiv_int hc.1 q (.inl (PyProof.noPylong_of_log2 hc.2))
theorem pe_globE {x : Str} {pos : Pos} {v : V} (h : ∃ u, X.mg x = some u ∧ RelV v u) (hg : Gl X x := by rfl) (hdb : (x == ("__debug__" : Str)) = false := by decide) : PE X (.Name x pos) (tC v) := by
  obtain ⟨u, h1, h2⟩ := h
  exact pe_glob hg h1 h2 hdb
theorem pe_globR {x : Str} {pos : Pos} {a : Addr} (h : X.mg x = some (.ref a)) (hg : Gl X x := by rfl) (hdb : (x == ("__debug__" : Str)) = false := by decide) : PE X (.Name x pos) (tC (.ref a)) := pe_glob hg h rfl hdb
end
/-- an own error class over ValueError -/
structure ExcX (K : PySem.W.Frag) (mg : Str → Option Value) (x : Str) (C : Addr) : Prop where
  g : mg x = some (.ref C)
  q : PySem.W.excIn K C [.type "ValueError", .type "Exception", .type "BaseException", .type "object"] "ValueError.__new__" = true
  k : PySem.W.keepIn K (.ref C) = true
  t : PySem.W.typeIn K (.ref C) = some (.type "type")
  c : ExcC K C
  v : PySem.W.subIn K (.ref C) (.type "ValueError") = some true
section
variable {X : Cx} {C D : Addr} {K : PySem.W.Frag} {mg : Str → Option Value} {x y : Str} {b : Bool}
theorem pmk {m : Str} {j : Nat} {p p2 pos : Pos} (E : ExcX X.K X.mg x C) (hg : Gl X x) (hdb : (x == ("__debug__" : Str)) = false := by decide) :
    PMk X (.Call (.Name x p) [.Constant (.str m) j p2] [] pos) (fun _ H Q => Q (.ref C) none H) := pmk_own PySem.F.excBase_ValueError E.q E.g E.k (raises_own E.c.hs E.t) hg hdb
theorem exm (E : ExcX K mg x C) (h : PySem.W.subIn K (.ref D) (.ref C) = some b) : PySem.W.exmOne K (.ref D) (.ref C) = some b := PySem.W.exm_ref E.c.hs E.c.hd E.t h
theorem kit_own (E : ExcX K mg x C) (h : PySem.W.subIn K (.ref D) (.ref C) = some b) (hs : PySem.W.subIn K (.ref C) (.ref C) = some true) : PySem.W.kitOne K (.ref D) (.ref C) = some b := by
  unfold PySem.W.kitOne
  by_cases e : D = C
  · subst e
    rw [hs] at h
    cases h
    rw [if_pos (by simp)]
  · rw [if_neg (by simpa using e)]
    unfold PySem.W.kitCls
    obtain ⟨cd, hc, _⟩ := PySem.W.any_some E.c.hd
    have e2 : ((PySem.W.clsIn K C).isSome && PySem.W.typeIn K (.ref C) == some (.type "type")) = true := by rw [hc, E.t] <;> rfl
    show (if _ then _ else _) = _
    rw [if_pos e2, h]
theorem kit_ve (E : ExcX K mg x D) : PySem.W.kitOne K (.ref D) (.type "ValueError") = some true := by
  unfold PySem.W.kitOne
  rw [if_neg (by simp)]
  unfold PySem.W.kitCls
  show (if _ then _ else _) = _
  rw [if_pos (by decide +kernel), E.v]
/-- isinstance of the error that a suite holds -/
def rIsEx (K : PySem.W.Frag) (cls : Value) (d : Option Addr) (a : Addr) : List V → Hp → VK → Prop := fun xs H Q => ∃ D, cls = .ref D ∧ d = none ∧ ExcC K D ∧ rIsE K D a xs H Q
theorem call_isE {a : Addr} {oe : Obj} {cls : Value} {d : Option Addr} {pn : List (Addr × Obj)} (hz : Zc cls d oe) (hf : ∃ vs, oe.data = .fields vs) : CallR (X.suite a ((a, oe) :: pn)) (.builtin "isinstance") (rIsEx X.K cls d a) := by
  intro pins s σ H xs us Q I r h
  obtain ⟨D, e1, e2, c, h⟩ := h
  subst e1
  subst e2
  exact L2.call_isE c hz hf pins s σ H xs us Q I r h
end

/-! ### heaps -/
theorem same_upd {H : Hp} {p : Addr} {o : HO} (h : H p = none) : Same H (upd H p o) := fun b x e => by
  rw [upd_ne (ne_of_none e h)]
  exact e
theorem Same.seqT {K : PySem.W.Frag} {H H' : Hp} {a : Addr} {xs : List V} (e : Same H H') (h : SqT K H a xs) : SqT K H' a xs := by
  rcases h with (h | ⟨o, h⟩) | h
  · exact .inl (.inl (e _ _ h))
  · exact .inl (.inr ⟨o, e _ _ h⟩)
  · exact .inr h
theorem seqT {K : PySem.W.Frag} {H H' : Hp} {a : Addr} {xs : List V} (e : Same H H') (h : SqT K H a xs) : SqT K H' a xs := Same.seqT e h
theorem sz {n : Nat} (h : n ≤ 1000) : n ≤ sizeLine := Nat.le_trans h (by decide)

/-! ### readings, step by step -/
def NewT (Q : VK) : List V → Hp → Prop := fun xs H1 => xs.length ≤ sizeLine ∧ ∀ p, H1 p = none → Q (.ref p) (upd H1 p (.tup xs))
def NewL (Q : VK) : List V → Hp → Prop := fun xs H1 => xs.length ≤ sizeLine ∧ ∀ p, H1 p = none → Q (.ref p) (upd H1 p (.lst xs))
section
variable {σ : L2.St} {H : Hp} {n : L2.St → Hp → Prop} {r : VK} {b c : L2.St → Hp → Prop} {t u : TS} {te ta tb : TE} {tt tu : TT} {Q : VK} {QB : Bool → Hp → Prop} {v w x y : V} {i j : Int} {K : PySem.W.Frag}
theorem z_seq (h : t ⟨u ⟨n, r, b, c⟩, r, b, c⟩ σ H) : tSeq t u ⟨n, r, b, c⟩ σ H := h
theorem z_asg {k : Nat} (h : te σ H fun x H1 => n (σ.set k (some x)) H1) : tAsg te (gName k) ⟨n, r, b, c⟩ σ H := h
theorem z_asgS {to ti : TE} {st : TSet} (h : te σ H fun v H0 => to σ H0 fun o H1 => ti σ H1 fun k H2 => st o k v H2 fun H3 => n σ H3) : tAsg te (gSub to ti st) ⟨n, r, b, c⟩ σ H := h
theorem z_drop (h : te σ H fun _ H1 => n σ H1) : tDrop te ⟨n, r, b, c⟩ σ H := h
theorem z_ret (h : te σ H r) : tRet te ⟨n, r, b, c⟩ σ H := h
theorem z_retN (h : r .non H) : tRetN ⟨n, r, b, c⟩ σ H := h
theorem z_next (h : n σ H) : tNext ⟨n, r, b, c⟩ σ H := h
theorem z_brk (h : b σ H) : tBreak ⟨n, r, b, c⟩ σ H := h
theorem z_cont (h : c σ H) : tCont ⟨n, r, b, c⟩ σ H := h
theorem z_ifs (h : tt σ H fun k H1 => if k = true then t ⟨n, r, b, c⟩ σ H1 else u ⟨n, r, b, c⟩ σ H1) : tIfS tt t u ⟨n, r, b, c⟩ σ H := h
theorem z_par {p q : Nat} {tl : TA} (h : tl σ H fun vs H1 => ∃ v w, vs = [v, w] ∧ n ((σ.set p (some v)).set q (some w)) H1) : tPar p q tl ⟨n, r, b, c⟩ σ H := h
theorem z_two {R : V → V → Prop} (h : R v w) : ∃ v' w', [v, w] = [v', w'] ∧ R v' w' := ⟨v, w, rfl, h⟩
theorem z_aug {k : Nat} {ti : TIp} (h : σ[k]? = some (some x)) (q : te σ H fun y H1 => ti x y H1 fun z H2 => n (σ.set k (some z)) H2) : tAug k te ti ⟨n, r, b, c⟩ σ H := ⟨x, h, q⟩
theorem z_ipI {f : Int → Int → Int} (q : Q (.int (f i j)) H) : ipI f (.int i) (.int j) H Q := ⟨i, j, rfl, rfl, q⟩
theorem z_var {k : Nat} (h : σ[k]? = some (some v)) (q : Q v H) : tVar k σ H Q := ⟨v, h, q⟩
theorem z_c (q : Q v H) : tC v σ H Q := q
theorem z_op {g : R2} (h : ta σ H fun x H1 => tb σ H1 fun y H2 => g x y H2 Q) : tOp g ta tb σ H Q := h
theorem z_un {g : V → Hp → VK → Prop} (h : ta σ H fun x H1 => g x H1 Q) : tUn g ta σ H Q := h
theorem z_I0 {g : Int → Int → V} (q : Q (g i j) H) : rI0 g (.int i) (.int j) H Q := ⟨i, j, rfl, rfl, q⟩
theorem z_I {C : Int → Int → Prop} {g : Int → Int → V} (hc : C i j) (q : Q (g i j) H) : rI C g (.int i) (.int j) H Q := ⟨i, j, rfl, rfl, hc, q⟩
theorem z_U {g : Int → V} (q : Q (g i) H) : rU g (.int i) H Q := ⟨i, rfl, q⟩
theorem z_eqI (q : Q (.bl (decide (i = j))) H) : rEq (.int i) (.int j) H Q := ⟨rfl, by rw [show decide (V.int i = V.int j) = decide (i = j) by simp]; exact q⟩
theorem z_neI (q : Q (.bl (decide (¬ i = j))) H) : rNe (.int i) (.int j) H Q := ⟨rfl, by rw [show (!decide (V.int i = V.int j)) = decide (¬ i = j) by simp]; exact q⟩
theorem z_eq (h : scal x y = true) (q : Q (.bl (decide (x = y))) H) : rEq x y H Q := ⟨h, q⟩
theorem z_test (h : te σ H fun x H1 => ∃ k, x = .bl k ∧ QB k H1) : tTest te σ H QB := h
theorem z_tB (h : te σ H fun x H1 => ∃ k, x = .bl k ∧ QB k H1) : tB te σ H QB := h
theorem z_bl {k : Bool} {R : Bool → Prop} (q : R k) : ∃ k', V.bl k = V.bl k' ∧ R k' := ⟨k, rfl, q⟩
theorem z_notT (h : tt σ H fun k H1 => QB (!k) H1) : tNot tt σ H QB := h
theorem z_andT (h : tt σ H fun k H1 => if k = true then tu σ H1 QB else QB false H1) : tAnd tt tu σ H QB := h
theorem z_orT (h : tt σ H fun k H1 => if k = true then QB true H1 else tu σ H1 QB) : tOr tt tu σ H QB := h
theorem z_andV (h : ta σ H fun x H1 => ∃ k, x = .bl k ∧ if k = true then tb σ H1 Q else Q (.bl false) H1) : tAndV ta tb σ H Q := h
theorem z_orV (h : ta σ H fun x H1 => ∃ k, x = .bl k ∧ if k = true then Q (.bl true) H1 else tb σ H1 Q) : tOrV ta tb σ H Q := h
theorem z_notV (h : ta σ H fun x H1 => ∃ k, x = .bl k ∧ Q (.bl (!k)) H1) : tNotV ta σ H Q := h
theorem z_ifE (h : tt σ H fun k H1 => if k = true then ta σ H1 Q else tb σ H1 Q) : tIf tt ta tb σ H Q := h
theorem z_chain {g g' : R2} {tc : TE} (h : ta σ H fun x H1 => tb σ H1 fun y H2 => g x y H2 fun z H3 => ∃ k, z = .bl k ∧ (if k = true then tc σ H3 fun w' H4 => g' y w' H4 Q else Q (.bl false) H3)) : tChain g g' ta tb tc σ H Q := h
theorem z_nil {R : List V → Hp → Prop} (q : R [] H) : tNil σ H R := q
theorem z_cons {tr : TA} {R : List V → Hp → Prop} (h : ta σ H fun x H1 => tr σ H1 fun xs H2 => R (x :: xs) H2) : tCons ta tr σ H R := h
theorem z_tup {tl : TA} (h : tl σ H (NewT Q)) : tTup tl σ H Q := h
theorem z_lst {tl : TA} (h : tl σ H (NewL Q)) : tLst tl σ H Q := h
theorem z_newT {xs : List V} (hl : xs.length ≤ 1000) (q : ∀ p H', H p = none → Same H H' → H' p = some (.tup xs) → Q (.ref p) H') : NewT Q xs H := ⟨sz hl, fun p hp => q p _ hp (same_upd hp) upd_same⟩
theorem z_newL {xs : List V} (hl : xs.length ≤ 1000) (q : ∀ p H', H p = none → Same H H' → H' p = some (.lst xs) → Q (.ref p) H') : NewL Q xs H := ⟨sz hl, fun p hp => q p _ hp (same_upd hp) upd_same⟩
theorem z_cb {g : List V → Hp → VK → Prop} {tl : TA} (h : tl σ H fun vs H1 => g vs H1 Q) : tCB g tl σ H Q := h
theorem z_call {sp : Sp} {E : XK} {tl : TA} (h : tl σ H fun vs H1 => sp vs H1 Q E) : tCall sp [] E tl σ H Q := by
  unfold tCall
  simpa only [List.append_nil] using h
theorem z_callS {sp : Sp} {E : L2.St → XK} {tl : TA} (h : tl σ H fun vs H1 => sp vs H1 Q (E σ)) : tCallS sp E tl σ H Q := h
theorem z_ixL {p : Addr} {xs : List V} (h : SqL K H p xs) (ha : atI xs i = some v) (q : Q v H) : rIxL K (.ref p) (.int i) H Q := ⟨p, xs, i, v, rfl, rfl, h, ha, q⟩
theorem z_ixT {p : Addr} {xs : List V} (h : SqT K H p xs) (ha : atI xs i = some v) (q : Q v H) : rIxT K (.ref p) (.int i) H Q := ⟨p, xs, i, v, rfl, rfl, h, ha, q⟩
theorem z_setL {p : Addr} {xs : List V} {k : Nat} {R : Hp → Prop} (h : H p = some (.lst xs)) (hk : ixN xs.length i = some k) (q : R (upd H p (.lst (xs.set k v)))) : rSetL (.ref p) (.int i) v H R := ⟨p, xs, i, k, rfl, rfl, h, hk, q⟩
theorem z_if {p : Prop} [Decidable p] {A B : Prop} (h1 : p → A) (h2 : ¬ p → B) : if decide p = true then A else B := by
  by_cases h : p
  · rw [if_pos (decide_eq_true h)]
    exact h1 h
  · rw [if_neg (by simpa using h)]
    exact h2 h
theorem z_ifB {k : Bool} {A B : Prop} (h1 : k = true → A) (h2 : k = false → B) : if k = true then A else B := by
  cases k with
  | true => exact h1 rfl
  | false => exact h2 rfl
/-- and, or, not of a test whose answer is known, the heap as it was -/
theorem z_andK {k k' : Bool} (h : k = true → ∀ R : Bool → Hp → Prop, R k' H → tu σ H R) (q : QB (k && k') H) : if k = true then tu σ H QB else QB false H := by
  cases k with
  | true => exact h rfl QB q
  | false => exact q
theorem z_orK {k k' : Bool} (h : k = false → ∀ R : Bool → Hp → Prop, R k' H → tu σ H R) (q : QB (k || k') H) : if k = true then QB true H else tu σ H QB := by
  cases k with
  | true => exact q
  | false => exact h rfl QB q
theorem z_andKV {k k' : Bool} (h : k = true → ∀ R : VK, R (.bl k') H → tb σ H R) (q : Q (.bl (k && k')) H) : if k = true then tb σ H Q else Q (.bl false) H := by
  cases k with
  | true => exact h rfl Q q
  | false => exact q
theorem z_orKV {k k' : Bool} (h : k = false → ∀ R : VK, R (.bl k') H → tb σ H R) (q : Q (.bl (k || k')) H) : if k = true then Q (.bl true) H else tb σ H Q := by
  cases k with
  | true => exact q
  | false => exact h rfl Q q
/-- the second comparison of a chain -/
theorem z_chK {k k' : Bool} {tc : TE} {g' : R2} (h : k = true → ∀ R : VK, R (.bl k') H → tc σ H fun w' H4 => g' y w' H4 R) (q : Q (.bl (k && k')) H) :
    if k = true then tc σ H fun w' H4 => g' y w' H4 Q else Q (.bl false) H := by
  cases k with
  | true => exact h rfl Q q
  | false => exact q
theorem z_ty {x : V} {t : String} {T : String} {k : Bool} {H : Hp} {Q : VK} (h : TyX K H x (.type t)) (e : kitB t T = some k) (q : Q (.bl k) H) : rIsi K [x, .ty T] H Q := ⟨x, .ty T, .type t, .type T, k, rfl, .ty T, h, kit_ty e, q⟩
end
end Z
namespace Z
open PySem PySem.Spec PyProof.Rows L2
theorem pe_powc {X : Cx} {a b v : Int} {j1 j2 : Nat} {p1 p2 pos : Pos} (h0 : CPow a b) (hv : a ^ b.toNat = v) : PE X (.BinOp (.Constant (.int a) j1 p1) .Pow (.Constant (.int b) j2 p2) pos) (tC (.int v)) := by
  subst hv
  exact ⟨fun pins s σ H Q I h => (pe_op op_pow pe_int pe_int).run pins s σ H Q I ⟨a, b, rfl, rfl, h0, h⟩⟩
def rInt1 : List V → Hp → VK → Prop := fun xs H Q => (∃ i, xs = [.int i] ∧ Q (.int i) H) ∨ ∃ k, xs = [.bl k] ∧ Q (.int (if k then 1 else 0)) H
def rAbs : List V → Hp → VK → Prop := fun xs H Q => ∃ i, xs = [.int i] ∧ Q (.int (if i < 0 then -i else i)) H
def rLen (K : PySem.W.Frag) : List V → Hp → VK → Prop := fun xs H Q => ∃ p ys, xs = [.ref p] ∧ (SqL K H p ys ∨ SqT K H p ys) ∧ Q (.int ys.length) H
theorem c_int {X : Cx} : CallR X (.type "int") rInt1 := call_int1
theorem c_abs {X : Cx} : CallR X (.builtin "abs") rAbs := call_abs
theorem c_len {X : Cx} : CallR X (.builtin "len") (rLen X.K) := call_len_seq
section
variable {H : Hp} {Q : VK} {i j : Int} {v : V} {R : Prop}
theorem z_int1 (q : Q (.int i) H) : rInt1 [.int i] H Q := .inl ⟨i, rfl, q⟩
theorem z_int1b {k : Bool} (q : Q (.int (if k then 1 else 0)) H) : rInt1 [.bl k] H Q := .inr ⟨k, rfl, q⟩
theorem z_abs (q : Q (.int (if i < 0 then -i else i)) H) : rAbs [.int i] H Q := ⟨i, rfl, q⟩
theorem z_gcd (q : Q (.int ((Nat.gcd i.natAbs j.natAbs : Nat) : Int)) H) : rGcd [.int i, .int j] H Q := ⟨i, j, rfl, q⟩
theorem z_lenL {K : PySem.W.Frag} {p : Addr} {xs : List V} (h : SqL K H p xs) (q : Q (.int (xs.length : Int)) H) : rLen K [.ref p] H Q := ⟨p, xs, rfl, .inl h, q⟩
theorem z_lenT {K : PySem.W.Frag} {p : Addr} {xs : List V} (h : SqT K H p xs) (q : Q (.int (xs.length : Int)) H) : rLen K [.ref p] H Q := ⟨p, xs, rfl, .inr h, q⟩
theorem z_isII {K : PySem.W.Frag} (q : Q (.bl true) H) : rIsi K [.int i, .ty "int"] H Q := z_ty (.base (.int i)) (by decide +kernel) q
theorem z_isIB {K : PySem.W.Frag} (q : Q (.bl false) H) : rIsi K [.int i, .ty "bool"] H Q := z_ty (.base (.int i)) (by decide +kernel) q
theorem z_isBB {K : PySem.W.Frag} {k : Bool} (q : Q (.bl true) H) : rIsi K [.bl k, .ty "bool"] H Q := z_ty (.base (.bl k)) (by decide +kernel) q
theorem z_isTT {K : PySem.W.Frag} {p : Addr} {xs : List V} (h : H p = some (.tup xs)) (q : Q (.bl true) H) : rIsi K [.ref p, .ty "tuple"] H Q := z_ty (.base (.tup h)) (by decide +kernel) q
theorem z_isLL {K : PySem.W.Frag} {p : Addr} {xs : List V} (h : H p = some (.lst xs)) (q : Q (.bl true) H) : rIsi K [.ref p, .ty "list"] H Q := z_ty (.base (.lst h)) (by decide +kernel) q
theorem z_new {xs : List V} {F : Addr → Prop} (h : xs.length ≤ 1000) (q : ∀ p, H p = none → F p) : xs.length ≤ sizeLine ∧ ∀ p, H p = none → F p := ⟨sz h, q⟩
end
end Z
namespace Z
open PySem PySem.Spec PyProof.Rows L2
section
variable {σ : L2.St} {H : Hp} {n : L2.St → Hp → Prop} {r : VK} {b c : L2.St → Hp → Prop} {tb : TS} {K : PySem.W.Frag}
/-- for k in range(m) -/
theorem z_forR1 {ta : TA} {k : Nat} (m : Nat) (hm : m < 2 ^ 62) (ha : ∀ R : List V → Hp → Prop, R [.int (m : Int)] H → ta σ H R) (Pv : Nat → L2.St → Hp → Prop) (h0 : Pv 0 σ H)
    (hs : ∀ i σ H, i < m → Pv i σ H → tb ⟨Pv (i + 1), r, n, Pv (i + 1)⟩ (σ.set k (some (.int (i : Int)))) H) (hd : ∀ σ H, Pv m σ H → n σ H) : tFor (iRng1 ta) (gName k) tb ⟨n, r, b, c⟩ σ H := by
  refine ha _ ⟨(m : Int), rfl, by omega, by omega, ?_⟩
  refine for_range (lo := 0) (n := (m : Int).toNat) Pv h0 (fun i σ' H' hi p => ?_) (fun σ' H' p => hd σ' H' (by simpa using p))
  have e : (0 : Int) + (i : Int) = (i : Int) := Int.zero_add _
  show tb _ (σ'.set k (some (.int ((0 : Int) + (i : Int))))) H'
  rw [e]
  exact hs i σ' H' (by simpa using hi) p
/-- for k in range(lo, hi) -/
theorem z_forR2 {ta : TA} {k : Nat} (lo : Int) (m : Nat) (hl : -(2 ^ 61) ≤ lo ∧ lo < 2 ^ 61) (hm : m < 2 ^ 61) (ha : ∀ R : List V → Hp → Prop, R [.int lo, .int (lo + (m : Int))] H → ta σ H R) (Pv : Nat → L2.St → Hp → Prop) (h0 : Pv 0 σ H)
    (hs : ∀ i σ H, i < m → Pv i σ H → tb ⟨Pv (i + 1), r, n, Pv (i + 1)⟩ (σ.set k (some (.int (lo + (i : Int))))) H) (hd : ∀ σ H, Pv m σ H → n σ H) : tFor (iRng2 ta) (gName k) tb ⟨n, r, b, c⟩ σ H := by
  refine ha _ ⟨lo, lo + (m : Int), rfl, by omega, ?_⟩
  have en : (lo + (m : Int) - lo).toNat = m := by omega
  rw [en]
  exact for_range (lo := lo) (n := m) Pv h0 hs hd
/-- for x in a list, in a tuple -/
theorem z_forL {tl : TE} {g : TG} {a : Addr} {xs : List V} (ha : ∀ R : VK, R (.ref a) H → tl σ H R) (hx : SqL K H a xs) (Pv : Nat → L2.St → Hp → Prop) (h0 : Pv 0 σ H) (hl : ∀ i σ H, i ≤ xs.length → Pv i σ H → SqL K H a xs)
    (hs : ∀ i x σ H, xs[i]? = some x → Pv i σ H → g x σ H fun σ2 H2 => tb ⟨Pv (i + 1), r, n, Pv (i + 1)⟩ σ2 H2) (hd : ∀ σ H, Pv xs.length σ H → n σ H) : tFor (iList K tl) g tb ⟨n, r, b, c⟩ σ H :=
  ha _ ⟨a, rfl, ⟨xs, hx⟩, for_list Pv h0 hl hs hd⟩
theorem z_forT {tl : TE} {g : TG} {a : Addr} {xs : List V} (ha : ∀ R : VK, R (.ref a) H → tl σ H R) (hx : SqT K H a xs) (Pv : Nat → L2.St → Hp → Prop) (h0 : Pv 0 σ H) (hl : ∀ i σ H, i ≤ xs.length → Pv i σ H → SqT K H a xs)
    (hs : ∀ i x σ H, xs[i]? = some x → Pv i σ H → g x σ H fun σ2 H2 => tb ⟨Pv (i + 1), r, n, Pv (i + 1)⟩ σ2 H2) (hd : ∀ σ H, Pv xs.length σ H → n σ H) : tFor (iTup K tl) g tb ⟨n, r, b, c⟩ σ H :=
  ha _ ⟨a, rfl, ⟨xs, hx⟩, for_tup Pv h0 hl hs hd⟩
theorem z_gName {k : Nat} {v : V} {R : L2.St → Hp → Prop} (q : R (σ.set k (some v)) H) : gName k v σ H R := q
end
end Z
namespace Z
section
variable {A B : Prop}
theorem z_ifT (q : A) : if true = true then A else B := by
  rw [if_pos rfl]
  exact q
theorem z_ifF (q : B) : if false = true then A else B := by
  rw [if_neg Bool.false_ne_true]
  exact q
theorem z_ifNF (q : A) : if (!false) = true then A else B := z_ifT q
theorem z_ifNT (q : B) : if (!true) = true then A else B := z_ifF q
theorem z_ifN {p : Prop} [Decidable p] (h1 : ¬ p → A) (h2 : p → B) : if (!decide p) = true then A else B := by
  by_cases h : p
  · rw [if_neg (by simpa using h)]
    exact h2 h
  · rw [if_pos (by simpa using h)]
    exact h1 h
end
end Z
namespace Z
theorem z_ifYes {A B : Prop} {k : Bool} (h : k = true) (q : A) : if k = true then A else B := by
  rw [if_pos h]
  exact q
theorem z_ifNo {A B : Prop} {k : Bool} (h : k = false) (q : B) : if k = true then A else B := by
  rw [if_neg (by rw [h]; exact Bool.false_ne_true)]
  exact q
end Z
namespace Z
open PySem PySem.Spec PyProof.Rows L2
theorem z_exc {K : PySem.W.Frag} {cv cls : Value} {i : Nat} {ts : Addr → Value → Option Addr → TS} {Wout : WX} {n : L2.St → Hp → Prop} {r : VK} {b c : L2.St → Hp → Prop} {d : Option Addr} {σ : L2.St} {H : Hp} (e : PySem.W.exmOne K cls cv = some true)
    (h : ∀ a, H a = none → ts a cls d ⟨fun σ' H' => n (σ'.set i none) H', r, fun σ' H' => b (σ'.set i none) H', fun σ' H' => c (σ'.set i none) H'⟩ (σ.set i (some (.ref a))) H) : WE (wAs K cv i ts Wout ⟨n, r, b, c⟩) σ cls d H :=
  ⟨true, e, fun _ a ha => h a ha, fun z => Bool.noConfusion z⟩
theorem z_excO {K : PySem.W.Frag} {cv cls : Value} {ts : Addr → Value → Option Addr → TS} {Wout : WX} {D : Ends} {d : Option Addr} {σ : L2.St} {H : Hp} (e : PySem.W.exmOne K cls cv = some true)
    (h : ∀ a, H a = none → ts a cls d D σ H) : WE (wOnly K cv ts Wout D) σ cls d H :=
  ⟨true, e, fun _ a ha => h a ha, fun z => Bool.noConfusion z⟩
theorem z_isEr {K : PySem.W.Frag} {a C D : Addr} {k : Bool} {H : Hp} {Q : VK} (x : ExcC K D) (e : PySem.W.kitOne K (.ref D) (.ref C) = some k) (q : Q (.bl k) H) : rIsEx K (.ref D) none a [.ref a, .ref C] H Q :=
  ⟨D, rfl, rfl, x, .ref C, .ref C, k, rfl, fun u h => h, e, q⟩
theorem z_isEt {K : PySem.W.Frag} {a D : Addr} {t : String} {k : Bool} {H : Hp} {Q : VK} (x : ExcC K D) (e : PySem.W.kitOne K (.ref D) (.type t) = some k) (q : Q (.bl k) H) : rIsEx K (.ref D) none a [.ref a, .ty t] H Q :=
  ⟨D, rfl, rfl, x, .ty t, .type t, k, rfl, fun u h => h, e, q⟩
/-- two lists, tuples of flat things compared -/
theorem z_eqD {K : PySem.W.Frag} {x y : V} {d e : PyData} {H : Hp} {Q : VK} (h1 : Dp K H x d) (h2 : Dp K H y e) (s1 : SeqAt.shaped d = true) (s2 : SeqAt.shaped e = true) (q : Q (.bl (PyData.eqv d e)) H) : rEqD K x y H Q := ⟨d, e, h1, h2, s1, s2, q⟩
end Z
namespace Z
open PySem PySem.Spec PyProof.Rows L2
theorem z_eqSame {K : PySem.W.Frag} {x y : V} {d : PyData} {H : Hp} {Q : VK} (h1 : Dp K H x d) (h2 : Dp K H y d) (s : SeqAt.shaped d = true) (q : Q (.bl true) H) : rEqD K x y H Q :=
  ⟨d, d, h1, h2, s, s, by rw [SeqAt.eqv_refl d (SeqAt.canLay_of_shaped s)]; exact q⟩
theorem dpT2 {K : PySem.W.Frag} {H : Hp} {p : Addr} {n d : Int} (h : H p = some (.tup [.int n, .int d])) : Dp K H (.ref p) (.tuple [.int n, .int d]) := .tup (.inl (.inl h)) (.cons (.int n) (.cons (.int d) .nil))
theorem dpB3 {K : PySem.W.Frag} {H : Hp} {p : Addr} {a b c : Bool} (h : H p = some (.lst [.bl a, .bl b, .bl c])) : Dp K H (.ref p) (.list [.bool a, .bool b, .bool c]) := .lst (.inl (.inl h)) (.cons (.bl a) (.cons (.bl b) (.cons (.bl c) .nil)))
end Z
namespace Z
open PySem PySem.Spec PyProof.Rows L2
theorem z_cut {t u : TS} {n : L2.St → Hp → Prop} {r : VK} {b c : L2.St → Hp → Prop} {σ : L2.St} {H : Hp} (Mid : L2.St → Hp → Prop) (h : t ⟨Mid, r, b, c⟩ σ H) (k : ∀ σ' H', Mid σ' H' → u ⟨n, r, b, c⟩ σ' H') : Evl.tCut t u ⟨n, r, b, c⟩ σ H := ⟨Mid, h, k⟩
end Z
namespace Z
open PySem PySem.Spec PyProof.Rows L2
section
variable {σ : L2.St} {H : Hp} {n : L2.St → Hp → Prop} {r : VK} {b c : L2.St → Hp → Prop} {te : TE} {K : PySem.W.Frag} {a : Addr} {xs : List V} {gs : TGs} {m : Nat} {v : V}
theorem z_asgT (h : te σ H fun x H1 => ∃ a xs, x = .ref a ∧ SqT K H1 a xs ∧ xs.length = m ∧ gs xs σ H1 n) : tAsg te (gTup K m gs) ⟨n, r, b, c⟩ σ H := h
theorem z_asgL (h : te σ H fun x H1 => ∃ a xs, x = .ref a ∧ SqL K H1 a xs ∧ xs.length = m ∧ gs xs σ H1 n) : tAsg te (gLst K m gs) ⟨n, r, b, c⟩ σ H := h
theorem z_up (h : SqT K H a xs) (hm : xs.length = m) (q : gs xs σ H n) : ∃ a' xs', V.ref a = .ref a' ∧ SqT K H a' xs' ∧ xs'.length = m ∧ gs xs' σ H n := ⟨a, xs, rfl, h, hm, q⟩
theorem z_upL (h : SqL K H a xs) (hm : xs.length = m) (q : gs xs σ H n) : ∃ a' xs', V.ref a = .ref a' ∧ SqL K H a' xs' ∧ xs'.length = m ∧ gs xs' σ H n := ⟨a, xs, rfl, h, hm, q⟩
theorem z_gT (h : SqT K H a xs) (hm : xs.length = m) (q : gs xs σ H n) : gTup K m gs (.ref a) σ H n := ⟨a, xs, rfl, h, hm, q⟩
theorem z_gcons {t : TG} {u : TGs} {R : L2.St → Hp → Prop} (h : t v σ H fun σ' H' => u xs σ' H' R) : gCons t u (v :: xs) σ H R := ⟨v, xs, rfl, h⟩
theorem z_gnil {R : L2.St → Hp → Prop} (h : R σ H) : gNil [] σ H R := ⟨rfl, h⟩
end
end Z
namespace Z
open PySem PySem.Spec PyProof.Rows L2
section
variable {K : PySem.W.Frag} {Wout : WX} {D : Ends} {c cls : Value} {ts : Addr → Value → Option Addr → TS} {l : List (Value × (Addr → Value → Option Addr → TS))} {σ : L2.St} {H : Hp} {d : Option Addr}
theorem z_many1 (e : PySem.W.exmOne K cls c = some true) (h : ∀ a, H a = none → ts a cls d D σ H) : WE (wMany K Wout D ((c, ts) :: l)) σ cls d H := ⟨true, e, fun _ a ha => h a ha, fun z => Bool.noConfusion z⟩
theorem z_many0 (e : PySem.W.exmOne K cls c = some false) (h : WE (wMany K Wout D l) σ cls d H) : WE (wMany K Wout D ((c, ts) :: l)) σ cls d H := ⟨false, e, fun z => Bool.noConfusion z, fun _ => h⟩
theorem z_eqS {x : Str} {Q : VK} (q : Q (.bl true) H) : rEq (.str x) (.str x) H Q := ⟨rfl, by rw [decide_eq_true rfl]; exact q⟩
end
end Z
/-! ### data: what a value stands for -/
namespace Z
open PySem PySem.Spec PyProof.Rows L2
section
variable {K : PySem.W.Frag} {H H' : Hp} {v : V} {d d1 d2 d3 d4 d5 d6 : PyData}
mutual
theorem dp_mono (s : Same H H') : ∀ {d : PyData} {v : V}, Dp K H v d → Dp K H' v d
  | _, _, .non => .non
  | _, _, .bl b => .bl b
  | _, _, .int i => .int i
  | _, _, .str x => .str x
  | _, _, .lst h a => .lst (s.seq h) (dp_monoA s a)
  | _, _, .tup h a => .tup (seqT s h) (dp_monoA s a)
theorem dp_monoA (s : Same H H') : ∀ {ds : List PyData} {vs : List V}, DpAll K H vs ds → DpAll K H' vs ds
  | _, _, .nil => .nil
  | _, _, .cons h a => .cons (dp_mono s h) (dp_monoA s a)
end
mutual
def tupOnly : PyData → Bool
  | .list _ => false
  | .dict _ => false
  | .tuple ds => tupOnlyA ds
  | .none => true
  | .bool _ => true
  | .int _ => true
  | .str _ => true
def tupOnlyA : List PyData → Bool
  | [] => true
  | d :: ds => tupOnly d && tupOnlyA ds
end
def Kp (p : Addr) (H H' : Hp) : Prop := ∀ b o, b ≠ p → H b = some o → H' b = some o
theorem seqT_kp {p a : Addr} {xs ys : List V} (k : Kp p H H') (hp : H p = some (.lst xs)) (h : SqT K H a ys) : SqT K H' a ys := by
  rcases h with (h | ⟨o, h⟩) | h
  · exact .inl (.inl (k _ _ (ne_of h hp (by intro z; cases z)) h))
  · exact .inl (.inr ⟨o, k _ _ (ne_of h hp (by intro z; cases z)) h⟩)
  · exact .inr h
mutual
theorem dp_kp {p : Addr} {xs : List V} (k : Kp p H H') (hp : H p = some (.lst xs)) : ∀ {d : PyData} {v : V}, tupOnly d = true → Dp K H v d → Dp K H' v d
  | _, _, _, .non => .non
  | _, _, _, .bl b => .bl b
  | _, _, _, .int i => .int i
  | _, _, _, .str x => .str x
  | _, _, t, .lst h a => by simp [tupOnly] at t
  | _, _, t, .tup h a => .tup (seqT_kp k hp h) (dp_kpA k hp (by simpa [tupOnly] using t) a)
theorem dp_kpA {p : Addr} {xs : List V} (k : Kp p H H') (hp : H p = some (.lst xs)) : ∀ {ds : List PyData} {vs : List V}, tupOnlyA ds = true → DpAll K H vs ds → DpAll K H' vs ds
  | _, _, _, .nil => .nil
  | _, _, t, .cons h a => by
    have t' : (tupOnly _ && tupOnlyA _) = true := t
    rw [Bool.and_eq_true] at t'
    exact .cons (dp_kp k hp t'.1 h) (dp_kpA k hp t'.2 a)
end
theorem dp_int {i : Int} (h : Dp K H v (.int i)) : v = .int i := by
  cases h
  rfl
theorem dp_non (h : Dp K H v .none) : v = .non := by
  cases h
  rfl
theorem dp_bool {b : Bool} (h : Dp K H v (.bool b)) : v = .bl b := by
  cases h
  rfl
theorem dp_str {b : Str} (h : Dp K H v (.str b)) : v = .str b := by
  cases h
  rfl
theorem dp_tup {ds : List PyData} (h : Dp K H v (.tuple ds)) : ∃ p vs, v = .ref p ∧ SqT K H p vs ∧ DpAll K H vs ds := by
  cases h with
  | tup h a => exact ⟨_, _, rfl, h, a⟩
theorem dpa_nil {vs : List V} (h : DpAll K H vs []) : vs = [] := by
  cases h
  rfl
theorem dpa_cons {vs : List V} {ds : List PyData} (h : DpAll K H vs (d :: ds)) : ∃ v r, vs = v :: r ∧ Dp K H v d ∧ DpAll K H r ds := by
  cases h with
  | cons a b => exact ⟨_, _, rfl, a, b⟩
theorem dp_t1 (h : Dp K H v (.tuple [d1])) : ∃ p v1, v = .ref p ∧ SqT K H p [v1] ∧ Dp K H v1 d1 := by
  obtain ⟨p, vs, e, hS, a⟩ := dp_tup h
  obtain ⟨v1, _, rfl, h1, a⟩ := dpa_cons a
  obtain rfl := dpa_nil a
  exact ⟨p, v1, e, hS, h1⟩
theorem dp_t2 (h : Dp K H v (.tuple [d1, d2])) : ∃ p v1 v2, v = .ref p ∧ SqT K H p [v1, v2] ∧ Dp K H v1 d1 ∧ Dp K H v2 d2 := by
  obtain ⟨p, vs, e, hS, a⟩ := dp_tup h
  obtain ⟨v1, _, rfl, h1, a⟩ := dpa_cons a
  obtain ⟨v2, _, rfl, h2, a⟩ := dpa_cons a
  obtain rfl := dpa_nil a
  exact ⟨p, v1, v2, e, hS, h1, h2⟩
theorem dp_t3 (h : Dp K H v (.tuple [d1, d2, d3])) : ∃ p v1 v2 v3, v = .ref p ∧ SqT K H p [v1, v2, v3] ∧ Dp K H v1 d1 ∧ Dp K H v2 d2 ∧ Dp K H v3 d3 := by
  obtain ⟨p, vs, e, hS, a⟩ := dp_tup h
  obtain ⟨v1, _, rfl, h1, a⟩ := dpa_cons a
  obtain ⟨v2, _, rfl, h2, a⟩ := dpa_cons a
  obtain ⟨v3, _, rfl, h3, a⟩ := dpa_cons a
  obtain rfl := dpa_nil a
  exact ⟨p, v1, v2, v3, e, hS, h1, h2, h3⟩
theorem dp_t6 (h : Dp K H v (.tuple [d1, d2, d3, d4, d5, d6])) : ∃ p v1 v2 v3 v4 v5 v6, v = .ref p ∧ SqT K H p [v1, v2, v3, v4, v5, v6] ∧ Dp K H v1 d1 ∧ Dp K H v2 d2 ∧ Dp K H v3 d3 ∧ Dp K H v4 d4 ∧ Dp K H v5 d5 ∧ Dp K H v6 d6 := by
  obtain ⟨p, vs, e, hS, a⟩ := dp_tup h
  obtain ⟨v1, _, rfl, h1, a⟩ := dpa_cons a
  obtain ⟨v2, _, rfl, h2, a⟩ := dpa_cons a
  obtain ⟨v3, _, rfl, h3, a⟩ := dpa_cons a
  obtain ⟨v4, _, rfl, h4, a⟩ := dpa_cons a
  obtain ⟨v5, _, rfl, h5, a⟩ := dpa_cons a
  obtain ⟨v6, _, rfl, h6, a⟩ := dpa_cons a
  obtain rfl := dpa_nil a
  exact ⟨p, v1, v2, v3, v4, v5, v6, e, hS, h1, h2, h3, h4, h5, h6⟩
theorem dp_mk {p : Addr} {vs : List V} {ds : List PyData} (h : H p = some (.tup vs)) (a : DpAll K H vs ds) : Dp K H (.ref p) (.tuple ds) := .tup (.inl (.inl h)) a
end
/-! ### numbers -/
def qD (r : Rat) : PyData := .tuple [.int r.num, .int (r.den : Int)]
theorem dp_q {K : PySem.W.Frag} {H : Hp} {v : V} {r : Rat} (h : Dp K H v (qD r)) : ∃ p, v = .ref p ∧ SqT K H p [.int r.num, .int (r.den : Int)] := by
  obtain ⟨p, v1, v2, e, hS, h1, h2⟩ := dp_t2 h
  rw [dp_int h1, dp_int h2] at hS
  exact ⟨p, e, hS⟩
theorem dp_mkq {K : PySem.W.Frag} {H : Hp} {p : Addr} {r : Rat} (h : H p = some (.tup [.int r.num, .int (r.den : Int)])) : Dp K H (.ref p) (qD r) := dp_mk h (.cons (.int _) (.cons (.int _) .nil))
theorem dp_seqq {K : PySem.W.Frag} {H : Hp} {p : Addr} {r : Rat} (h : SqT K H p [.int r.num, .int (r.den : Int)]) : Dp K H (.ref p) (qD r) := .tup h (.cons (.int _) (.cons (.int _) .nil))
/-- numerator and denominator at most so great -/
def Bd (r : Rat) (p q : Nat) : Prop := r.num.natAbs ≤ p ∧ r.den ≤ q
theorem bd_divInt {n d : Int} (h : d ≠ 0) : Bd (Rat.divInt n d) n.natAbs d.natAbs := by
  unfold Bd
  rw [Rat.num_divInt, Rat.den_divInt, if_neg h]
  refine ⟨Nat.le_trans (Int.natAbs_ediv_le_natAbs _ _) ?_, Nat.div_le_self _ _⟩
  rw [Int.natAbs_mul]
  have : d.sign.natAbs ≤ 1 := by
    rcases Int.lt_trichotomy d 0 with z | z | z
    · rw [Int.sign_eq_neg_one_of_neg z]; decide
    · exact absurd z h
    · rw [Int.sign_eq_one_of_pos z]; decide
  calc d.sign.natAbs * n.natAbs ≤ 1 * n.natAbs := Nat.mul_le_mul_right _ this
    _ = n.natAbs := Nat.one_mul _
theorem q_self (r : Rat) : Rat.divInt r.num (r.den : Int) = r := Rat.num_divInt_den r
end Z
namespace Z
open PySem PySem.Spec PyProof.Rows L2
def gd (n d : Int) : Int := ((Nat.gcd n.natAbs d.natAbs : Nat) : Int)
def rn (n d : Int) : Int := (if d < 0 then -n else n) / gd n d
def rd (n d : Int) : Int := (if d < 0 then -d else d) / gd n d
theorem rn_q {n d : Int} (h : d ≠ 0) : rn n d = (Rat.divInt n d).num := by
  rw [Rat.num_divInt]
  unfold rn gd
  have e : d.gcd n = Nat.gcd n.natAbs d.natAbs := Nat.gcd_comm _ _
  rw [e]
  congr 1
  split
  · rename_i z
    rw [Int.sign_eq_neg_one_of_neg z]
    omega
  · rename_i z
    rw [Int.sign_eq_one_of_pos (by omega)]
    omega
theorem rd_q {n d : Int} (h : d ≠ 0) : rd n d = ((Rat.divInt n d).den : Int) := by
  rw [Rat.den_divInt, if_neg h]
  unfold rd gd
  have e : d.gcd n = Nat.gcd n.natAbs d.natAbs := Nat.gcd_comm _ _
  rw [e]
  rw [Int.natCast_ediv]
  congr 1
  split <;> omega
def lim : Int := 1000000000000000000
def fitsQ (r : Rat) : Prop := -lim ≤ r.num ∧ r.num ≤ lim ∧ (r.den : Int) ≤ lim
theorem bd_add {a b : Rat} {p q p' q' : Nat} (h : Bd a p q) (h' : Bd b p' q') : Bd (a + b) (p * q' + p' * q) (q * q') := by
  have ha := a.den_nz
  have hb := b.den_nz
  have e : a + b = Rat.divInt (a.num * b.den + b.num * a.den) ((a.den : Int) * b.den) := by
    rw [← Rat.divInt_add_divInt _ _ (by omega) (by omega), Rat.num_divInt_den, Rat.num_divInt_den]
  rw [e]
  have hd : ((a.den : Int) * b.den) ≠ 0 := Int.mul_ne_zero (by omega) (by omega)
  have k := bd_divInt (n := a.num * b.den + b.num * a.den) hd
  refine ⟨Nat.le_trans k.1 (Nat.le_trans (Int.natAbs_add_le _ _) ?_), Nat.le_trans k.2 ?_⟩
  · rw [Int.natAbs_mul, Int.natAbs_mul]
    exact Nat.add_le_add (Nat.mul_le_mul h.1 h'.2) (Nat.mul_le_mul h'.1 h.2)
  · rw [Int.natAbs_mul]
    exact Nat.mul_le_mul h.2 h'.2
theorem bd_mul {a b : Rat} {p q p' q' : Nat} (h : Bd a p q) (h' : Bd b p' q') : Bd (a * b) (p * p') (q * q') := by
  have ha := a.den_nz
  have hb := b.den_nz
  have e : a * b = Rat.divInt (a.num * b.num) ((a.den : Int) * b.den) := by
    rw [← Rat.divInt_mul_divInt, Rat.num_divInt_den, Rat.num_divInt_den]
  rw [e]
  have hd : ((a.den : Int) * b.den) ≠ 0 := Int.mul_ne_zero (by omega) (by omega)
  have k := bd_divInt (n := a.num * b.num) hd
  refine ⟨Nat.le_trans k.1 ?_, Nat.le_trans k.2 ?_⟩
  · rw [Int.natAbs_mul]
    exact Nat.mul_le_mul h.1 h'.1
  · rw [Int.natAbs_mul]
    exact Nat.mul_le_mul h.2 h'.2
theorem bd_neg {a : Rat} {p q : Nat} (h : Bd a p q) : Bd (-a) p q := by
  unfold Bd
  rw [Rat.neg_num, Rat.neg_den, Int.natAbs_neg]
  exact h
theorem bd_sub {a b : Rat} {p q p' q' : Nat} (h : Bd a p q) (h' : Bd b p' q') : Bd (a - b) (p * q' + p' * q) (q * q') := by
  rw [Rat.sub_eq_add_neg]
  exact bd_add h (bd_neg h')
theorem q_div (a b : Rat) (h : b ≠ 0) : a / b = Rat.divInt (a.num * b.den) ((a.den : Int) * b.num) := by
  rw [Rat.div_def, ← Rat.num_divInt_den b, Rat.inv_divInt]
  conv => lhs; lhs; rw [← Rat.num_divInt_den a]
  rw [Rat.divInt_mul_divInt, Rat.num_divInt_den]
theorem bd_div {a b : Rat} {p q p' q' : Nat} (hb : b ≠ 0) (h : Bd a p q) (h' : Bd b p' q') : Bd (a / b) (p * q') (q * p') := by
  have ha := a.den_nz
  rw [q_div a b hb]
  have hn : b.num ≠ 0 := fun z => hb (Rat.num_eq_zero.mp z)
  have hd : ((a.den : Int) * b.num) ≠ 0 := Int.mul_ne_zero (by omega) hn
  have k := bd_divInt (n := a.num * b.den) hd
  refine ⟨Nat.le_trans k.1 ?_, Nat.le_trans k.2 ?_⟩
  · rw [Int.natAbs_mul]
    exact Nat.mul_le_mul h.1 h'.2
  · rw [Int.natAbs_mul]
    exact Nat.mul_le_mul h.2 h'.1
theorem Bd.le {a : Rat} {p q p' q' : Nat} (h : Bd a p q) (h1 : p ≤ p') (h2 : q ≤ q') : Bd a p' q' := ⟨Nat.le_trans h.1 h1, Nat.le_trans h.2 h2⟩
theorem Bd.fits {a : Rat} {p q : Nat} (h : Bd a p q) (h1 : p ≤ 1000000000000000000) (h2 : q ≤ 1000000000000000000) : fitsQ a := by
  have a1 := h.1
  have a2 := h.2
  unfold fitsQ lim
  omega
theorem q_add (a b : Rat) : a + b = Rat.divInt (a.num * b.den + b.num * a.den) ((a.den : Int) * b.den) := by
  have ha := a.den_nz
  have hb := b.den_nz
  rw [← Rat.divInt_add_divInt _ _ (by omega) (by omega), Rat.num_divInt_den, Rat.num_divInt_den]
theorem q_sub (a b : Rat) : a - b = Rat.divInt (a.num * b.den - b.num * a.den) ((a.den : Int) * b.den) := by
  have ha := a.den_nz
  have hb := b.den_nz
  rw [← Rat.divInt_sub_divInt _ _ (by omega) (by omega), Rat.num_divInt_den, Rat.num_divInt_den]
theorem q_mul (a b : Rat) : a * b = Rat.divInt (a.num * b.num) ((a.den : Int) * b.den) := by
  rw [← Rat.divInt_mul_divInt, Rat.num_divInt_den, Rat.num_divInt_den]
theorem q_dd (a b : Rat) : ((a.den : Int) * b.den) ≠ 0 := by
  have ha := a.den_nz
  have hb := b.den_nz
  exact Int.mul_ne_zero (by omega) (by omega)
end Z
namespace Z
open PySem PySem.Spec PyProof.Rows L2
theorem tyx_T {K : PySem.W.Frag} {H : Hp} {a : Addr} {xs : List V} (h : SqT K H a xs) : TyX K H (.ref a) (.type "tuple") := by
  rcases h with (h | ⟨o, h⟩) | ⟨o, its, n, h, c, _⟩
  · exact .base (.tup h)
  · exact .fTuple h
  · exact .kTuple h c
theorem z_isT {K : PySem.W.Frag} {H : Hp} {Q : VK} {p : Addr} {xs : List V} (h : SqT K H p xs) (q : Q (.bl true) H) : rIsi K [.ref p, .ty "tuple"] H Q := z_ty (tyx_T h) (by decide +kernel) q
end Z
namespace Z
open PySem PySem.Spec PyProof.Rows L2
/-- a tuple of the module's own -/
theorem dpk {K : PySem.W.Frag} {H : Hp} {a : Addr} {od : Option Addr} {its : List Value} {n : Nat} {sl : Array (Option Value)} {vs : List V} {ds : List PyData} (h : K.lookup a = some ⟨.type "tuple", od, .seq its.toArray n, sl⟩)
    (hs : its.length ≤ 1000) (r : Vals vs its) (d : DpAll K H vs ds) : Dp K H (.ref a) (.tuple ds) :=
  .tup (.inr ⟨_, its.toArray, n, h, rfl, rfl, by rw [List.size_toArray]; exact sz hs, by simpa using r⟩) d
/-- a tuple and a tuple -/
theorem z_catT {K : PySem.W.Frag} {H : Hp} {Q : VK} {p q : Addr} {xs ys : List V} (h1 : SqT K H p xs) (h2 : SqT K H q ys) (hx : xs ≠ []) (hl : xs.length + ys.length ≤ 1000) (hy : ys ≠ [])
    (k : ∀ p H', H p = none → Same H H' → H' p = some (.tup (xs ++ ys)) → Q (.ref p) H') : rCatT K (.ref p) (.ref q) H Q := by
  refine ⟨p, q, xs, ys, rfl, rfl, h1, h2, hx, sz hl, fun z => absurd z hy, fun _ a ha => k a _ ha (same_upd ha) upd_same⟩
end Z
namespace Z
open PySem PySem.Spec PyProof.Rows L2
def rTupOf (K : PySem.W.Frag) : List V → Hp → VK → Prop := fun xs H Q => ∃ p ys, xs = [.ref p] ∧ ((SqL K H p ys ∧ ∀ l, H l = none → Q (.ref l) (upd H l (.tup ys))) ∨ (SqT K H p ys ∧ Q (.ref p) H))
def rListOf (K : PySem.W.Frag) : List V → Hp → VK → Prop := fun xs H Q => ∃ p ys, xs = [.ref p] ∧ (SqL K H p ys ∨ SqT K H p ys) ∧ ∀ l, H l = none → Q (.ref l) (upd H l (.lst ys))
theorem c_tupOf {X : Cx} : CallR X (.type "tuple") (rTupOf X.K) := call_tuple_of
theorem c_listOf {X : Cx} : CallR X (.type "list") (rListOf X.K) := call_list_of
section
variable {K : PySem.W.Frag} {H : Hp} {Q : VK} {p : Addr} {xs : List V} {σ : L2.St}
theorem z_tupOf (h : SqL K H p xs) (q : ∀ a H', H a = none → Same H H' → H' a = some (.tup xs) → Q (.ref a) H') : rTupOf K [.ref p] H Q := ⟨p, xs, rfl, .inl ⟨h, fun l hl => q l _ hl (same_upd hl) upd_same⟩⟩
theorem z_tupOfT (h : SqT K H p xs) (q : Q (.ref p) H) : rTupOf K [.ref p] H Q := ⟨p, xs, rfl, .inr ⟨h, q⟩⟩
theorem z_listOf (h : SqL K H p xs) (q : ∀ a H', H a = none → Same H H' → H' a = some (.lst xs) → Q (.ref a) H') : rListOf K [.ref p] H Q := ⟨p, xs, rfl, .inl h, fun l hl => q l _ hl (same_upd hl) upd_same⟩
theorem z_listOfT (h : SqT K H p xs) (q : ∀ a H', H a = none → Same H H' → H' a = some (.lst xs) → Q (.ref a) H') : rListOf K [.ref p] H Q := ⟨p, xs, rfl, .inr h, fun l hl => q l _ hl (same_upd hl) upd_same⟩
theorem z_yes {QB : Bool → Hp → Prop} (q : QB true H) : tYes σ H QB := q
/-- [e for k in range(m)] -/
theorem z_lcR1 {ta : TA} {k : Nat} {te : TE} {vs : List Nat} (m : Nat) (hm : m ≤ 1000) (ha : ∀ R : List V → Hp → Prop, R [.int (m : Int)] H → ta σ H R) (hw : ∀ x, wipe ((wipe σ vs).set k (some x)) vs = wipe σ vs) (Pv : Nat → Addr → List V → Hp → Prop)
    (h0 : ∀ D H', H D = none → Same H H' → H' D = some (.lst []) → Pv 0 D [] H')
    (hs : ∀ i D acc H', i < m → acc.length = i → H' D = some (.lst acc) → Pv i D acc H' → te ((wipe σ vs).set k (some (.int (i : Int)))) H' fun y H4 => H4 D = some (.lst acc) ∧ Pv (i + 1) D (acc ++ [y]) (upd H4 D (.lst (acc ++ [y]))))
    (mono : ∀ σ' H' Q Q', (∀ y H4, Q y H4 → Q' y H4) → te σ' H' Q → te σ' H' Q')
    (hd : ∀ D acc H', acc.length = m → H' D = some (.lst acc) → Pv m D acc H' → Q (.ref D) H') : tLc (iRng1 ta) (gName k) tYes te vs σ H Q := by
  refine ha _ ⟨(m : Int), rfl, by omega, by omega, fun D hD => ?_⟩
  refine lc_range (lo := 0) (n := (m : Int).toNat) (fun i H' => ∃ acc, acc.length = i ∧ H' D = some (.lst acc) ∧ Pv i D acc H') ⟨[], rfl, upd_same, h0 D _ hD (same_upd hD) upd_same⟩ (fun i H' hi ⟨acc, hl, hH, p⟩ => ?_) (fun H' ⟨acc, hl, hH, p⟩ => hd D acc H' (by simpa using hl) hH (by simpa using p))
  have e : (0 : Int) + (i : Int) = (i : Int) := Int.zero_add _
  show wipe ((wipe σ vs).set k (some (.int ((0 : Int) + (i : Int))))) vs = wipe σ vs ∧ _
  refine ⟨hw _, ?_⟩
  refine z_yes ?_
  refine z_ifT ?_
  rw [e]
  have hi' : i < m := by simpa using hi
  exact mono _ _ _ _ (fun y H4 ⟨e1, e2⟩ => ⟨acc, e1, Nat.lt_of_lt_of_le (show acc.length < 1000 by omega) (by decide), acc ++ [y], by simp [hl], upd_same, e2⟩) (hs i D acc H' (by simpa using hi) hl hH p)
end
end Z
namespace Z
open PySem PySem.Spec PyProof.Rows L2
section
variable {K : PySem.W.Frag} {H : Hp} {Q : VK} {p : Addr} {xs : List V} {σ : L2.St} {i : Int} {RO : Option Int → Hp → Prop} {te : TE} {tl th : TO}
theorem z_sl {g : V → Option Int → Option Int → Hp → VK → Prop} (h : te σ H fun x H1 => tl σ H1 fun l H2 => th σ H2 fun u H3 => g x l u H3 Q) : tSl g te tl th σ H Q := h
theorem z_noPart (q : RO none H) : tNoPart σ H RO := q
theorem z_part (h : te σ H fun x H1 => ∃ i, x = .int i ∧ RO (some i) H1) : tPart te σ H RO := h
theorem z_partI (q : RO (some i) H) : ∃ i', V.int i = .int i' ∧ RO (some i') H := ⟨i, rfl, q⟩
theorem z_slL {lo hi : Option Int} {ys : List V} (h : SqL K H p xs) (e : cutV xs lo hi = ys) (q : ∀ a H', H a = none → Same H H' → H' a = some (.lst ys) → Q (.ref a) H') : rSlL K (.ref p) lo hi H Q := by
  subst e
  exact ⟨p, xs, rfl, h, fun a ha => q a _ ha (same_upd ha) upd_same⟩
end
end Z
namespace Z
open PySem PySem.Spec PyProof.Rows L2
theorem z_slT {K : PySem.W.Frag} {H : Hp} {Q : VK} {p : Addr} {xs ys : List V} {lo hi : Option Int} (h : SqT K H p xs) (hn : ¬ (HT.sIx xs.length 0 lo = 0 ∧ HT.sIx xs.length xs.length hi = xs.length)) (e : cutV xs lo hi = ys)
    (q : ∀ a H', H a = none → Same H H' → H' a = some (.tup ys) → Q (.ref a) H') : rSlT K (.ref p) lo hi H Q := by
  subst e
  exact ⟨p, xs, rfl, h, hn, fun a ha => q a _ ha (same_upd ha) upd_same⟩
theorem eqv_q (a b : Rat) : PyData.eqv (qD a) (qD b) = decide (a = b) := by
  show (a.num == b.num && ((a.den : Int) == (b.den : Int) && true)) = decide (a = b)
  by_cases h : a = b
  · subst h
    simp
  · rw [decide_eq_false h]
    by_cases h1 : a.num = b.num
    · have h2 : ¬ (a.den : Int) = b.den := fun z => h (Rat.ext h1 (by omega))
      simp [h2]
    · simp [h1]
theorem shaped_q (a : Rat) : SeqAt.shaped (qD a) = true := rfl
theorem z_eqQ {K : PySem.W.Frag} {x y : V} {a b : Rat} {H : Hp} {Q : VK} (h1 : Dp K H x (qD a)) (h2 : Dp K H y (qD b)) (q : Q (.bl (decide (a = b))) H) : rEqD K x y H Q := ⟨qD a, qD b, h1, h2, shaped_q a, shaped_q b, by rw [eqv_q]; exact q⟩
theorem z_neQ {K : PySem.W.Frag} {x y : V} {a b : Rat} {H : Hp} {Q : VK} (h1 : Dp K H x (qD a)) (h2 : Dp K H y (qD b)) (q : Q (.bl (decide (¬ a = b))) H) : rNeD K x y H Q := ⟨qD a, qD b, h1, h2, shaped_q a, shaped_q b, by
  rw [eqv_q, show (!decide (a = b)) = decide (¬ a = b) by simp]
  exact q⟩
theorem z_neSame {K : PySem.W.Frag} {x y : V} {d : PyData} {H : Hp} {Q : VK} (h1 : Dp K H x d) (h2 : Dp K H y d) (s : SeqAt.shaped d = true) (q : Q (.bl false) H) : rNeD K x y H Q :=
  ⟨d, d, h1, h2, s, s, by rw [SeqAt.eqv_refl d (SeqAt.canLay_of_shaped s)]; exact q⟩
end Z
namespace Z
open PySem PySem.Spec PyProof.Rows L2
def rIsN : R2 := fun x y H Q => y = .non ∧ Q (.bl (decide (x = .non))) H
def rNotN : R2 := fun x y H Q => y = .non ∧ Q (.bl (!decide (x = .non))) H
theorem op_isN1 {X : Cx} : OpR X (compareOp .Is) rIsN := op_isN
theorem op_notN1 {X : Cx} : OpR X (compareOp .IsNot) rNotN := op_notN
section
variable {σ : L2.St} {H : Hp} {n : L2.St → Hp → Prop} {r : VK} {b c : L2.St → Hp → Prop} {tb : TS} {K : PySem.W.Frag} {Q : VK} {p : Addr} {v y : V} {xs : List V}
theorem z_isNN (q : Q (.bl true) H) : rIsN .non .non H Q := ⟨rfl, by simpa using q⟩
theorem z_isNR (q : Q (.bl false) H) : rIsN (.ref p) .non H Q := ⟨rfl, by simpa using q⟩
theorem z_notNN (q : Q (.bl false) H) : rNotN .non .non H Q := ⟨rfl, by simpa using q⟩
theorem z_notNR (q : Q (.bl true) H) : rNotN (.ref p) .non H Q := ⟨rfl, by simpa using q⟩
theorem z_bmL {r : V → List V → Hp → VK → Prop} {to : TE} {t : TA} (ho : ∀ R : VK, R (.ref p) H → to σ H R) (hp : H p = some (.lst xs)) (h : t σ H fun vs H2 => r (.ref p) vs H2 Q) : tBM K "list" r to t σ H Q :=
  ho _ ⟨.inl ⟨rfl, _, .inl (.inl hp)⟩, h⟩
theorem z_append (hp : H p = some (.lst xs)) (hl : xs.length < 1000) (q : Q .non (upd H p (.lst (xs ++ [y])))) : rAppend (.ref p) [y] H Q := ⟨p, xs, y, rfl, rfl, hp, Nat.lt_of_lt_of_le hl (by decide), q⟩
/-- the list that a for goes over, made on the way -/
def ForL (K : PySem.W.Frag) (g : TG) (tb : TS) (n : L2.St → Hp → Prop) (r : VK) (b c : L2.St → Hp → Prop) (σ : L2.St) : VK := fun x H1 => tFor (iList K (tC x)) g tb ⟨n, r, b, c⟩ σ H1
theorem z_forE {tl : TE} {g : TG} (h : tl σ H (ForL K g tb n r b c σ)) : tFor (iList K tl) g tb ⟨n, r, b, c⟩ σ H := h
/-- [e for x in l], where e answers at once -/
theorem z_lcM {tl : TE} {k : Nat} {te : TE} {vs : List Nat} {a : Addr} {xs ws : List V} (hlen : ws.length = xs.length) (hm : xs.length ≤ 1000) (ha : ∀ R : VK, R (.ref a) H → tl σ H R) (hx : H a = some (.lst xs)) (hw : ∀ x, wipe ((wipe σ vs).set k (some x)) vs = wipe σ vs)
    (body : ∀ (i : Nat) (x w : V) (H' : Hp), xs[i]? = some x → ws[i]? = some w → Same H H' → ∀ R : VK, R w H' → te ((wipe σ vs).set k (some x)) H' R)
    (hd : ∀ D H', H D = none → Same H H' → H' D = some (.lst ws) → Q (.ref D) H') : tLc (iList K tl) (gName k) tYes te vs σ H Q := by
  refine ha _ ⟨a, rfl, ⟨xs, .inl (.inl hx)⟩, fun D hD => ?_⟩
  have hDa : a ≠ D := ne_of_none hx hD
  refine lc_list (xs := xs) (fun i H' => Same H H' ∧ H' D = some (.lst (ws.take i)) ∧ H' a = some (.lst xs)) ⟨same_upd hD, upd_same, by rw [upd_ne hDa]; exact hx⟩ (fun i H' _ h => .inl (.inl h.2.2)) (fun i x H' hi ⟨s, hH, h3⟩ => ?_) (fun H' ⟨s, hH, _⟩ => hd D H' hD s (by rw [hH, ← hlen, List.take_length]))
  show wipe ((wipe σ vs).set k (some x)) vs = wipe σ vs ∧ _
  refine ⟨hw _, ?_⟩
  refine z_yes ?_
  refine z_ifT ?_
  have hi' : i < xs.length := by
    rcases Nat.lt_or_ge i xs.length with h | h
    · exact h
    · rw [List.getElem?_eq_none h] at hi
      cases hi
  have hiw : i < ws.length := by omega
  have hw' : ws[i]? = some ws[i] := List.getElem?_eq_getElem hiw
  refine body i x _ H' hi hw' s _ ?_
  refine ⟨_, hH, Nat.lt_of_lt_of_le (show (ws.take i).length < 1000 by rw [List.length_take]; omega) (by decide), fun q x' e => ?_, ?_, ?_⟩
  · have hq : q ≠ D := ne_of_none e hD
    rw [upd_ne hq]
    exact s _ _ e
  · rw [upd_same, List.take_add_one, hw']
    rfl
  · rw [upd_ne hDa]
    exact h3
end
/-! ### numbers over a common denominator -/
def Zb (r : Rat) (N M : Nat) : Prop := ∃ k : Int, r * (N : Rat) = (k : Rat) ∧ k.natAbs ≤ M
theorem zb_add {a b : Rat} {N M M' : Nat} (h : Zb a N M) (h' : Zb b N M') : Zb (a + b) N (M + M') := by
  obtain ⟨k, e, l⟩ := h
  obtain ⟨k', e', l'⟩ := h'
  exact ⟨k + k', by rw [Rat.add_mul, e, e', Rat.intCast_add], by omega⟩
theorem zb_neg {a : Rat} {N M : Nat} (h : Zb a N M) : Zb (-a) N M := by
  obtain ⟨k, e, l⟩ := h
  exact ⟨-k, by rw [Rat.neg_mul, e, Rat.intCast_neg], by omega⟩
theorem zb_sub {a b : Rat} {N M M' : Nat} (h : Zb a N M) (h' : Zb b N M') : Zb (a - b) N (M + M') := by
  rw [Rat.sub_eq_add_neg]
  exact zb_add h (zb_neg h')
theorem zb_mul {a b : Rat} {N N' M M' : Nat} (h : Zb a N M) (h' : Zb b N' M') : Zb (a * b) (N * N') (M * M') := by
  obtain ⟨k, e, l⟩ := h
  obtain ⟨k', e', l'⟩ := h'
  refine ⟨k * k', ?_, by rw [Int.natAbs_mul]; exact Nat.mul_le_mul l l'⟩
  rw [Rat.natCast_mul, Rat.intCast_mul, ← e, ← e']
  grind
theorem zb_up {a : Rat} {N M : Nat} (c : Nat) (h : Zb a N M) : Zb a (N * c) (M * c) := by
  obtain ⟨k, e, l⟩ := h
  refine ⟨k * (c : Int), ?_, by rw [Int.natAbs_mul]; exact Nat.mul_le_mul l (by omega)⟩
  rw [Rat.natCast_mul, Rat.intCast_mul, ← e, Rat.intCast_natCast]
  grind
theorem Zb.le {a : Rat} {N M M' : Nat} (h : Zb a N M) (l : M ≤ M') : Zb a N M' := by
  obtain ⟨k, e, l'⟩ := h
  exact ⟨k, e, Nat.le_trans l' l⟩
theorem Zb.bd {a : Rat} {N M : Nat} (h : Zb a N M) (h0 : N ≠ 0) : Bd a M N := by
  obtain ⟨k, e, l⟩ := h
  have hN : (N : Rat) ≠ 0 := fun z => h0 (by exact_mod_cast z)
  have e2 : a = Rat.divInt k (N : Int) := by
    rw [Rat.divInt_eq_div, ← e, Rat.intCast_natCast]
    grind
  rw [e2]
  exact (bd_divInt (by omega)).le l (by omega)
theorem zb_divInt {n d : Int} {N M c : Nat} (hd : d ≠ 0) (hN : (N : Int) = d * (c : Int)) (hl : n.natAbs * c ≤ M) : Zb (Rat.divInt n d) N M := by
  refine ⟨n * (c : Int), ?_, by rw [Int.natAbs_mul]; exact hl⟩
  have hd' : (d : Rat) ≠ 0 := fun z => hd (by exact_mod_cast z)
  have e : (N : Rat) = (d : Rat) * (c : Rat) := by
    rw [← Rat.intCast_natCast N, hN, Rat.intCast_mul, Rat.intCast_natCast]
  rw [Rat.divInt_eq_div, e, Rat.intCast_mul, Rat.intCast_natCast]
  grind
theorem zb_of {r : Rat} {p q N M : Nat} (h : Bd r p q) (hN : ∀ d, d ≤ q → d ≠ 0 → d ∣ N) (hl : p * N ≤ M) : Zb r N M := by
  obtain ⟨c, hc⟩ := hN r.den h.2 r.den_nz
  have hd := r.den_nz
  have e := zb_divInt (n := r.num) (d := (r.den : Int)) (N := N) (M := M) (c := c) (by omega) (by exact_mod_cast hc) (Nat.le_trans (Nat.mul_le_mul h.1 (show c ≤ N by rw [hc]; exact Nat.le_mul_of_pos_left _ (by omega))) hl)
  rwa [Rat.num_divInt_den] at e
end Z

namespace Z
open PySem PySem.Spec PyProof.Rows L2
def RevQ (K : PySem.W.Frag) (Q : VK) : VK := fun x H1 => ∃ a xs, x = .ref a ∧ SqL K H1 a xs ∧ ∀ p, H1 p = none → Q (.ref p) (upd H1 p (.lst xs.reverse))
section
variable {K : PySem.W.Frag} {H : Hp} {Q : VK} {p q : Addr} {xs ys : List V} {y : V} {σ : L2.St}
theorem z_revL {te : TE} (h : te σ H (RevQ K Q)) : tRevL K te σ H Q := h
theorem z_revE (h : SqL K H p xs) (k : ∀ a H', H a = none → Same H H' → H' a = some (.lst xs.reverse) → Q (.ref a) H') : RevQ K Q (.ref p) H :=
  ⟨p, xs, rfl, h, fun l hl => k l _ hl (same_upd hl) upd_same⟩
theorem z_pop (hp : H p = some (.lst (xs ++ [y]))) (k : Q y (upd H p (.lst xs))) : rPop (.ref p) [] H Q :=
  ⟨p, xs ++ [y], y, rfl, rfl, hp, by simp, by simpa using k⟩
theorem z_cat (h1 : H p = some (.lst xs)) (h2 : H q = some (.lst ys)) (hl : xs.length + ys.length ≤ 1000) (k : ∀ a H', H a = none → Same H H' → H' a = some (.lst (xs ++ ys)) → Q (.ref a) H') : rCat (.ref p) (.ref q) H Q :=
  ⟨p, q, xs, ys, rfl, rfl, h1, h2, sz hl, fun a ha => k a _ ha (same_upd ha) upd_same⟩
theorem z_extend (h1 : H p = some (.lst xs)) (h2 : H q = some (.lst ys)) (hl : xs.length + ys.length ≤ 1000) (k : Q .non (upd H p (.lst (xs ++ ys)))) : rExtend (.ref p) [.ref q] H Q :=
  ⟨p, q, xs, ys, rfl, rfl, h1, h2, sz hl, k⟩
theorem z_bm0L {r : V → List V → Hp → VK → Prop} {to : TE} (ho : ∀ R : VK, R (.ref p) H → to σ H R) (hp : H p = some (.lst xs)) (h : r (.ref p) [] H Q) : tBM0 K "list" r to σ H Q :=
  ho _ ⟨.inl ⟨rfl, _, .inl (.inl hp)⟩, h⟩
end
end Z

/-! set comprehensions, whatever the members are: `r` says what set.add asks, `fr` what the empty set is -/
namespace Sc
open PySem PySem.Spec PyProof.Rows L2 PpSet
abbrev AddR := V → List V → Hp → VK → Prop
/-- one turn's end: the member is added, or left out -/
def Keep (r : AddR) (D : Addr) (te : TE) (Nx : Hp → Prop) (σ2 : L2.St) (b : Bool) (H3 : Hp) : Prop := if b = true then te σ2 H3 fun y H4 => r (.ref D) [y] H4 fun _ H5 => Nx H5 else Nx H3
def tSet (r : AddR) (fr : Addr → HO) (wi : TI) (g : TG) (tt : TT) (te : TE) (vs : List Nat) : TE := fun σ H Q => wi σ H fun J H1 => ∀ D, H1 D = none → ∃ W : Nat → Nat → Hp → Prop,
  (∃ m, W 0 m (upd H1 D (fr D))) ∧ ∀ i m H, W i m H → (J.stop i H ∧ Q (.ref D) H) ∨ (J.go i H ∧ ∃ Nx : Hp → Prop, (∀ H', Nx H' → ∃ m', m' < m ∧ W (i + 1) m' H') ∧
    ∀ x H', J.yld i H x H' → g x (wipe σ vs) H' fun σ2 H2 => wipe σ2 vs = wipe σ vs ∧ tt σ2 H2 (Keep r D te Nx σ2))
abbrev freshSet (w : World) : Obj := { cls := .type "set", dict := none, data := .set #[] 0 (.fresh 0 0 (!w.params.followText "set-order")) }
section
variable {X : Cx}
theorem run_set {pins : List (Addr × Obj)} {s : Shared} {σ : L2.St} {H : Hp} {Q : VK} {r : AddR} {fr : Addr → HO} {elt tg iter : Expr} {ifs : List Expr} {scope : Scope} {own : List (PySem.Str × Nat)} {pos pos' : Pos} {wi : TI} {g : TG} {tt : TT} {te : TE} {use : Option (Value → Sem Unit)} {Qf : Value → Shared → Prop}
    (hfr : ∀ (H : Hp) (h : Heap) (a : Addr), a = h.objs.size → ObjOk X.prog X.w H (h.push (freshSet X.w)) a (fr a))
    (hr : ∀ (s : Shared) (H : Hp) (e : Env) (fp : List Addr), MtR (X.blk s H scope e fp) "set.add" r)
    (hc : X.calm = true) (hN : X.N.Nodup) (I : Inv X pins σ H s) (hi : PI X tg iter wi) (ok : BlkOk X.N X.env.scope scope own)
    (hg : ∀ (s : Shared) (H : Hp) (C : Addr) (cl : List (PySem.Str × Addr)) (fp : List Addr), PG (X.blk s H scope (compEnvC scope cl C X.env) fp) tg g)
    (ht : ∀ (s : Shared) (H : Hp) (C : Addr) (cl : List (PySem.Str × Addr)) (fp : List Addr), PTs (X.blk s H scope (compEnvC scope cl C X.env) fp) ifs tt)
    (he : ∀ (s : Shared) (H : Hp) (C : Addr) (cl : List (PySem.Str × Addr)) (fp : List Addr), PE (X.blk s H scope (compEnvC scope cl C X.env) fp) elt te)
    (hs : ∀ x, foldedSetIterable iter X.env x = pure x) (h : tSet r fr wi g tt te (own.map (·.2)) σ H Q)
    (hend : ∀ D C s' m H', Inv X pins σ H' s' → Q (.ref D) H' → s'.heap.Ns C m → FpOk X pins H' C → compPost (model X.prog X.w) X.A X.xe use Qf (.ref D) C (.ok .next) s') :
    wpAny (model X.prog X.w) X.A (comprehension (.SetComp elt [⟨tg, iter, ifs, 0⟩] scope pos) scope X.env pos' (newSet (.type "set")) false (eval iter X.env) use) Qf X.xe s := by
  have free0 : ∀ y ∈ scope.names, y.2 = .free → ∃ c, X.env.cells.lookup y.1 = some c := fun y hy e => (ok.free y hy e).elim (fun k => I.ok.has _ (.inl k)) fun k => I.ok.has _ (.inr k)
  refine wpAny_comprehension_free (use := use) rfl hs (closure_ok free0) ok.kind (fun y hy e => by rw [ok.uniq y hy, e]) ?_
  refine thn (hi.run pins s σ H _ I h) fun xv s1 hx => thn hx fun itv s2 h2 => ?_
  obtain ⟨it, fp, tn, J, H2, e, I2, T, st2, f2, q⟩ := h2
  subst e
  refine newSet_ok (newEnv_comp ?_)
  have hDn : H2 s2.heap.objs.size = none := I2.hok.fresh (Nat.le_refl _)
  obtain ⟨W, ⟨m0, w0⟩, turn⟩ := q _ hDn
  generalize hs3 : ({ s2 with heap := s2.heap.push (freshSet X.w) } : Shared) = s3
  have h3 : s3.heap = s2.heap.push (freshSet X.w) := by rw [← hs3]
  have I3 : Inv X pins σ (upd H2 s2.heap.objs.size (fr s2.heap.objs.size)) s3 := by
    rw [← hs3]
    exact I2.laid (t' := s2.toks) (fun b o e => Heap.get?_push_of_some _ e) (Nat.le_refl _) (hfr _ _ _ rfl)
  generalize hD : s2.heap.objs.size = D at *
  have old : ∀ b ∈ fp, b < D := fun b hb => by
    obtain ⟨o, e, _⟩ := T.obj _ _ st2 b hb
    rw [← hD]
    exact Heap.lt_size e
  have f3 : ∀ b ∈ fp, FpOk X pins (upd H2 D (fr D)) b ∧ b < s3.heap.objs.size := fun b hb => by
    have l := old b hb
    refine ⟨⟨?_, (f2 b hb).2⟩, ?_⟩
    · rw [upd_ne (Nat.ne_of_lt l)]
      exact (f2 b hb).1
    · rw [h3, Heap.size_push, hD]
      exact Nat.lt_succ_of_lt l
  have st3 : tn 0 s3.heap := T.keep _ _ _ st2 fun b _ o e => by
    rw [h3]
    exact Heap.get?_push_of_some _ e
  have I4 := block_start I3 ok hN f3
  generalize hH3 : upd H2 D (fr D) = H3 at I3 I4 w0 f3
  have pg := hg s3 H3 s3.heap.objs.size (cellsFrom (s3.heap.objs.size + 1) scope.names (cloFrom X.env.cells scope.names [])) fp
  have pt := ht s3 H3 s3.heap.objs.size (cellsFrom (s3.heap.objs.size + 1) scope.names (cloFrom X.env.cells scope.names [])) fp
  have pe := he s3 H3 s3.heap.objs.size (cellsFrom (s3.heap.objs.size + 1) scope.names (cloFrom X.env.cells scope.names [])) fp
  show codeAny _ _ (.compStart (.SetComp elt [⟨tg, iter, ifs, 0⟩] scope pos) 0 (.ref it) (.ref D) (compEnvC scope (cellsFrom (s3.heap.objs.size + 1) scope.names (cloFrom X.env.cells scope.names [])) s3.heap.objs.size X.env)) (compPost (model X.prog X.w) X.A X.xe use Qf (.ref D) s3.heap.objs.size) { s3 with heap := pushCells (s3.heap.push { cls := .type "dict", data := .dict #[] }) scope.names }
  generalize hce : compEnvC scope (cellsFrom (s3.heap.objs.size + 1) scope.names (cloFrom X.env.cells scope.names [])) s3.heap.objs.size X.env = ce at I4 pg pt pe ⊢
  have cL : ce.locals = s3.heap.objs.size := by rw [← hce] <;> rfl
  have ad := hr s3 H3 ce fp
  have nfp : ∀ b ∈ fp, H3 b = none := fun b hb => (f3 b hb).1.1
  generalize hs4 : ({ s3 with heap := pushCells (s3.heap.push { cls := .type "dict", data := .dict #[] }) scope.names } : Shared) = s4 at I4 ⊢
  have st4 : tn 0 s4.heap := T.keep _ _ _ st3 fun b _ o e => by
    rw [← hs4]
    exact pushCells_keeps _ _ _ _ (Heap.get?_push_of_some _ e)
  have stat : ∀ {σ' : L2.St} {H' : Hp} {s' : Shared}, Inv (X.blk s3 H3 scope ce fp) [] σ' H' s' → (∀ b ∈ fp, H' b = none) → ∀ b ∈ fp, FpOk (X.blk s3 H3 scope ce fp) [] H' b := fun I' hn b hb =>
    ⟨hn b hb, (I'.ok.exf b hb).1, I'.ok.exfs b hb, .inl hb, fun x c e => (I'.ok.exf b hb).2 x c e, fun p hp => nomatch (show p ∈ ([] : List (Addr × Obj)) from hp)⟩
  have loop : codeAny (model X.prog X.w) X.A (.compLoop (.SetComp elt [⟨tg, iter, ifs, 0⟩] scope pos) 0 (.ref it) (.ref D) ce) (compPost (model X.prog X.w) X.A X.xe use Qf (.ref D) s3.heap.objs.size) s4 := by
    refine compLoopS_any (fun n s' => ∃ i H', Inv (X.blk s3 H3 scope ce fp) [] (wipe σ (own.map (·.2))) H' s' ∧ tn i s'.heap ∧ (∀ b ∈ fp, H' b = none) ∧ W i n H') ?_ m0 ⟨0, H3, I4, st4, nfp, w0⟩
    rintro n s5 ⟨i, H5, I5, st5, n5, w5⟩
    rcases turn i n H5 w5 with ⟨stop, qq⟩ | ⟨go, Nx, hNx, step⟩
    · refine thnF (T.done (X.blk s3 H3 scope ce fp) rfl rfl rfl hc i [] s5 _ H5 (fun _ _ => False) I5 (stat I5 n5) st5 stop) fun r6 s6 ⟨hr6, I6⟩ => ?_
      subst hr6
      have I7 : Inv X pins σ H5 s6 := I3.call' (ch := fp) I6.os I6.base I6.hok I6.bare fun b hb => by
        obtain ⟨⟨_, a2, _, a4, a5, a6⟩, _⟩ := f3 b hb
        exact ⟨a4, a2, a5, a6⟩
      obtain ⟨m, hn, _⟩ := I6.loc
      have nC : H5 ce.locals = none := I6.free
      have hn : s6.heap.Ns ce.locals m := hn
      rw [cL] at hn nC
      exact hend D _ s6 m H5 I7 qq hn (I3.fpOk (Nat.le_refl _) nC)
    · refine thnF (T.item (X.blk s3 H3 scope ce fp) rfl rfl rfl hc i [] s5 _ H5 (fun _ _ => False) I5 (stat I5 n5) st5 go) fun r6 s6 ⟨u, hr6, h6⟩ => ?_
      subst hr6
      refine thnF h6 fun _ s7 ⟨x, H7, I7, r7, y7, st7, n7⟩ => ?_
      refine thnF (pg.run _ s7 _ H7 x u _ (I7.pinned (stat I7 n7) (T.obj _ _ st7)) r7 (step x H7 y7)) fun _ s8 ⟨σ8, H8, I8, hw8, q8⟩ => ?_
      refine thnF (pt.run _ s8 σ8 H8 _ I8 q8) fun b s9 ⟨H9, I9, q9⟩ => ?_
      have fin : ∀ {s' : Shared} {H' : Hp}, Inv (X.blk s3 H3 scope ce fp) ([] ++ pinsAt fp s7.heap) σ8 H' s' → Nx H' → ∃ m, m < n ∧ ∃ i H', Inv (X.blk s3 H3 scope ce fp) [] (wipe σ (own.map (·.2))) H' s' ∧ tn i s'.heap ∧ (∀ b ∈ fp, H' b = none) ∧ W i m H' := fun {s' H'} I' nx => by
        obtain ⟨m', hm, w'⟩ := hNx H' nx
        have keep : ∀ b ∈ fp, ∀ o, s7.heap.get? b = some o → s'.heap.get? b = some o ∧ H' b = none := fun b hb o e => by
          have z := I'.pin (b, o) (List.mem_append_right _ (List.mem_append_right _ (mem_pinsAt hb e)))
          exact ⟨z.1, z.2.1⟩
        refine ⟨m', hm, i + 1, H', (I'.unpinned (pins := [])).weak (by rw [← hw8, wipe_length]) (fun j v e => ?_), T.keep _ _ _ st7 fun b hb o e => (keep b hb o e).1, fun b hb => ?_, w'⟩
        · rw [← hw8] at e
          exact (wipe_some e).1
        · obtain ⟨o, e, _⟩ := T.obj _ _ st7 b hb
          exact (keep b hb o e).2
      have q9 : Keep r D te Nx σ8 b H9 := q9
      unfold Keep at q9
      cases b with
      | false =>
        rw [if_neg (by decide)] at q9
        exact fin I9 q9
      | true =>
        rw [if_pos rfl] at q9
        refine thnF (pe.run _ s9 σ8 H9 _ I9 q9) fun z s10 ⟨yv, H10, I10, r10, q10⟩ => ?_
        refine thnF (ad _ s10 σ8 H10 (.ref D) [yv] (.ref D) [z] _ I10 rfl (.cons r10 .nil) q10) fun _ s11 ⟨_, H11, I11, _, q11⟩ => fin I11 q11
  exact codeAny_compStart_set loop (T.self X.A 0 _ _ _ st4 loop)
theorem pe_set {r : AddR} {fr : Addr → HO} {elt tg iter : Expr} {ifs : List Expr} {scope : Scope} {own : List (PySem.Str × Nat)} {pos : Pos} {wi : TI} {g : TG} {tt : TT} {te : TE}
    (hfr : ∀ (H : Hp) (h : Heap) (a : Addr), a = h.objs.size → ObjOk X.prog X.w H (h.push (freshSet X.w)) a (fr a)) (hr : ∀ (s : Shared) (H : Hp) (e : Env) (fp : List Addr), MtR (X.blk s H scope e fp) "set.add" r)
    (hc : X.calm = true) (hN : X.N.Nodup) (hi : PI X tg iter wi) (ok : BlkOk X.N X.env.scope scope own)
    (hg : ∀ (s : Shared) (H : Hp) (C : Addr) (cl : List (PySem.Str × Addr)) (fp : List Addr), PG (X.blk s H scope (compEnvC scope cl C X.env) fp) tg g)
    (ht : ∀ (s : Shared) (H : Hp) (C : Addr) (cl : List (PySem.Str × Addr)) (fp : List Addr), PTs (X.blk s H scope (compEnvC scope cl C X.env) fp) ifs tt)
    (he : ∀ (s : Shared) (H : Hp) (C : Addr) (cl : List (PySem.Str × Addr)) (fp : List Addr), PE (X.blk s H scope (compEnvC scope cl C X.env) fp) elt te)
    (hs : ∀ x, foldedSetIterable iter X.env x = pure x := by intro _; rfl) : PE X (.SetComp elt [⟨tg, iter, ifs, 0⟩] scope pos) (tSet r fr wi g tt te (own.map (·.2))) := by
  constructor
  intro pins s σ H Q I h
  rw [eval_SetComp]
  refine run_set hfr hr hc hN I hi ok hg ht he hs h fun D C s' m H' I' q hn ⟨f0, f1, f2, f3, f4, f5⟩ => ⟨m, hn, fun h'' sb => ?_⟩
  exact ⟨.ref D, H', I'.turned (t' := s'.toks) (fun b o hb e => (sb.2 b hb).trans e) f0 f1 f3 f4 f5, rfl, q⟩
/-- sets of whole numbers -/
def frI (w : World) : Addr → HO := fun a => SetO w a (fun _ => false) 0
theorem pe_setI {elt tg iter : Expr} {ifs : List Expr} {scope : Scope} {own : List (PySem.Str × Nat)} {pos : Pos} {wi : TI} {g : TG} {tt : TT} {te : TE}
    (hc : X.calm = true) (hN : X.N.Nodup) (hi : PI X tg iter wi) (ok : BlkOk X.N X.env.scope scope own)
    (hg : ∀ (s : Shared) (H : Hp) (C : Addr) (cl : List (PySem.Str × Addr)) (fp : List Addr), PG (X.blk s H scope (compEnvC scope cl C X.env) fp) tg g)
    (ht : ∀ (s : Shared) (H : Hp) (C : Addr) (cl : List (PySem.Str × Addr)) (fp : List Addr), PTs (X.blk s H scope (compEnvC scope cl C X.env) fp) ifs tt)
    (he : ∀ (s : Shared) (H : Hp) (C : Addr) (cl : List (PySem.Str × Addr)) (fp : List Addr), PE (X.blk s H scope (compEnvC scope cl C X.env) fp) elt te)
    (hs : ∀ x, foldedSetIterable iter X.env x = pure x := by intro _; rfl) : PE X (.SetComp elt [⟨tg, iter, ifs, 0⟩] scope pos) (tSet (rSAdd X.w) (frI X.w) wi g tt te (own.map (·.2))) :=
  pe_set (fun H h a e => by subst e; exact setO_new (setR_fresh X.w)) (fun s H e fp => mt_sadd) hc hN hi ok hg ht he hs
end
/-! ### readings: the set of the numbers of a list that a test lets in -/
open Z
def tSetE (r : AddR) (fr : Addr → HO) (K : PySem.W.Frag) (g : TG) (tt : TT) (te : TE) (vs : List Nat) (σ : L2.St) (Q : VK) : VK := fun x H1 => tSet r fr (iList K (tC x)) g tt te vs σ H1 Q
section
variable {K : PySem.W.Frag} {H : Hp} {Q : VK} {σ : L2.St} {r : AddR} {fr : Addr → HO} {w : World}
theorem z_setE {tl : TE} {g : TG} {tt : TT} {te : TE} {vs : List Nat} (h : tl σ H (tSetE r fr K g tt te vs σ Q)) : tSet r fr (iList K tl) g tt te vs σ H Q := h
/-- the ints of ns that p lets in -/
def inI (p : Int → Bool) (ns : List Int) (S : Int → Bool) : Prop := ∀ k, S k = true ↔ k ∈ ns ∧ p k = true
theorem z_setI {k : Nat} {tt : TT} {vs : List Nat} {a : Addr} {ns : List Int} {te : TE} (p : Int → Bool) (hl : ns.length ≤ 1000) (hx : H a = some (.lst (ns.map V.int)))
    (hw : ∀ x, wipe ((wipe σ vs).set k (some x)) vs = wipe σ vs)
    (ht : ∀ (x : Int) (H' : Hp) (R : Bool → Hp → Prop), x ∈ ns → R (p x) H' → tt ((wipe σ vs).set k (some (.int x))) H' R)
    (he : ∀ (x : Int) (H' : Hp) (R : VK), x ∈ ns → R (.int x) H' → te ((wipe σ vs).set k (some (.int x))) H' R)
    (q : ∀ D H' S n, H D = none → Same H H' → H' D = some (SetO w D S n) → inI p ns S → n ≤ ns.length → Q (.ref D) H') :
    tSetE (rSAdd w) (frI w) K (gName k) tt te vs σ Q (.ref a) H := by
  refine ⟨a, rfl, ⟨_, .inl (.inl hx)⟩, fun D hD => ?_⟩
  have hDa : a ≠ D := ne_of_none hx hD
  let Pv : Nat → Hp → Prop := fun i H' => Same H H' ∧ ∃ S n, H' D = some (SetO w D S n) ∧ inI p (ns.take i) S ∧ n ≤ i
  refine ⟨fun i m H' => m = ns.length - i ∧ i ≤ ns.length ∧ Pv i H', ⟨ns.length, by simp, Nat.zero_le _, same_upd hD, _, 0, upd_same, fun k => by simp, Nat.le_refl _⟩, ?_⟩
  rintro i m H' ⟨rfl, hi, sm, S, n, hS, hin, hn⟩
  have ha := sm _ _ hx
  by_cases hlt : i < ns.length
  · refine .inr ⟨⟨_, .int ns[i], .inl (.inl ha), by simp [hlt]⟩, Pv (i + 1), fun H2 p2 => ⟨ns.length - (i + 1), by omega, rfl, hlt, p2⟩, fun x H2 y => ?_⟩
    obtain ⟨e, y⟩ := y
    subst e
    have e := y _ (.inl (.inl ha))
    have ex : x = .int ns[i] := by
      have e2 : (ns.map V.int)[i]? = some (.int ns[i]) := by simp [hlt]
      rw [e2] at e
      exact (Option.some.inj e).symm
    subst ex
    refine ⟨hw _, ht _ _ _ (List.getElem_mem hlt) ?_⟩
    have tk : ns.take (i + 1) = ns.take i ++ [ns[i]] := by rw [List.take_add_one, List.getElem?_eq_getElem hlt] <;> rfl
    unfold Keep
    by_cases c : p ns[i] = true
    · rw [if_pos c]
      refine he _ _ _ (List.getElem_mem hlt) ?_
      refine ⟨D, ns[i], S, n, rfl, rfl, hS, Nat.lt_of_le_of_lt (show n + 1 ≤ 1001 by omega) (by decide), ?_, _, _, upd_same, ?_, ?_⟩
      · exact fun b o e => by
          rw [upd_ne (ne_of_none e hD)]
          exact sm _ _ e
      · intro k
        rw [tk, List.mem_append, List.mem_singleton, Bool.or_eq_true, hin k, decide_eq_true_eq]
        constructor
        · rintro (⟨z1, z2⟩ | rfl)
          · exact ⟨.inl z1, z2⟩
          · exact ⟨.inr rfl, c⟩
        · rintro ⟨z1 | rfl, z2⟩
          · exact .inl ⟨z1, z2⟩
          · exact .inr rfl
      · split <;> omega
    · rw [if_neg c]
      refine ⟨sm, S, n, hS, fun k => ?_, by omega⟩
      rw [tk, List.mem_append, List.mem_singleton, hin k]
      constructor
      · rintro ⟨z1, z2⟩
        exact ⟨.inl z1, z2⟩
      · rintro ⟨z1 | rfl, z2⟩
        · exact ⟨z1, z2⟩
        · exact absurd z2 c
  · have e : i = ns.length := by omega
    subst e
    refine .inl ⟨⟨_, .inl (.inl ha), by simp⟩, q D H' S n hD sm hS (by rwa [List.take_length] at hin) hn⟩
/-- sorted(set of ints) -/
theorem z_sortedSet {a : Addr} {S : Int → Bool} {n : Nat} (h : H a = some (SetO w a S n)) (hn : n < 64) (q : ∀ (ns : List Int) (p : Addr) (H' : Hp), ns.Pairwise (· < ·) → (∀ k, k ∈ ns ↔ S k = true) → ns.length = n → H p = none → Same H H' → H' p = some (.lst (ns.map V.int)) → Q (.ref p) H') :
    rSortedSet w [.ref a] H Q := ⟨a, S, n, rfl, h, hn, fun ns p h1 h2 h3 hp => q ns p _ h1 h2 h3 hp (same_upd hp) upd_same⟩
end
end Sc

namespace Z
open PySem PySem.Spec PyProof.Rows L2
def rMax2 : List V → Hp → VK → Prop := fun xs H Q => ∃ i j, xs = [.int i, .int j] ∧ Q (.int (if j > i then j else i)) H
def rMin2 : List V → Hp → VK → Prop := fun xs H Q => ∃ i j, xs = [.int i, .int j] ∧ Q (.int (if j < i then j else i)) H
theorem c_max2 {X : Cx} (hc : X.calm = true) : CallR X (.builtin "max") rMax2 := call_max2 hc
theorem c_min2 {X : Cx} (hc : X.calm = true) : CallR X (.builtin "min") rMin2 := call_min2 hc
def rDivmod : List V → Hp → VK → Prop := fun xs H Q => ∃ i j, xs = [.int i, .int j] ∧ CDiv i j ∧ ∀ p, H p = none → Q (.ref p) (upd H p (.tup [.int (i / j), .int (i % j)]))
theorem c_divmod {X : Cx} : CallR X (.builtin "divmod") rDivmod := call_divmod
def TruQ (K : PySem.W.Frag) (QB : Bool → Hp → Prop) : VK := fun x H' => ∃ k, TruV K x H' k ∧ QB k H'
def tTru (K : PySem.W.Frag) (te : TE) : TT := fun σ H QB => te σ H (TruQ K QB)
theorem pt_tru {X : Cx} {a : Expr} {ta : TE} (ha : PE X a ta) (he : ∀ whole, isTrue a X.env whole = (do let v ← whole; standAt a.pos; holding [v] (truthy v))) : PT X a (tTru X.K ta) := pt_truth ha he
section
variable {K : PySem.W.Frag} {σ : L2.St} {H : Hp} {Q : VK} {QB : Bool → Hp → Prop} {i j : Int} {v x y : V} {p q l : Addr} {xs ys : List V} {te : TE}
theorem z_max2 (h : Q (.int (if j > i then j else i)) H) : rMax2 [.int i, .int j] H Q := ⟨i, j, rfl, h⟩
theorem z_min2 (h : Q (.int (if j < i then j else i)) H) : rMin2 [.int i, .int j] H Q := ⟨i, j, rfl, h⟩
theorem z_divmod (c : 0 < j ∧ j < 1073741824) (h : ∀ p H', H p = none → Same H H' → H' p = some (.tup [.int (i / j), .int (i % j)]) → Q (.ref p) H') : rDivmod [.int i, .int j] H Q :=
  ⟨i, j, rfl, c, fun a ha => h a _ ha (same_upd ha) upd_same⟩
theorem z_tru (h : te σ H (TruQ K QB)) : tTru K te σ H QB := h
/-- a test whose answer is known -/
theorem z_known {tt : TT} (k : Bool) (h : ∀ R : Bool → Hp → Prop, R k H → tt σ H R) (q : QB k H) : tt σ H QB := h QB q
/-- a test that is known to fail -/
theorem z_skip {n : L2.St → Hp → Prop} {r : VK} {b c : L2.St → Hp → Prop} {tt : TT} {t : TS} (h : ∀ R : Bool → Hp → Prop, R false H → tt σ H R) (q : n σ H) : tIfS tt t tNext ⟨n, r, b, c⟩ σ H := by
  refine h _ ?_
  rw [if_neg (by decide)]
  exact q
theorem z_truL (h : H p = some (.lst xs)) (q : QB (!xs.isEmpty) H) : TruQ K QB (.ref p) H := ⟨_, .inl ⟨xs, .inl (.inl h), rfl⟩, q⟩
theorem z_truT (h : SqT K H p xs) (q : QB (!xs.isEmpty) H) : TruQ K QB (.ref p) H := ⟨_, .inr (.inl ⟨xs, h, rfl⟩), q⟩
theorem z_truI (q : QB (i != 0) H) : TruQ K QB (.int i) H := ⟨_, rfl, q⟩
theorem rep_one (v : V) : ∀ m : Nat, (List.replicate m [v]).flatten = List.replicate m v
  | 0 => rfl
  | m + 1 => by
    rw [List.replicate_succ, List.flatten_cons, rep_one v m, List.replicate_succ]
    rfl
theorem z_rep (m : Nat) (h : H l = some (.lst [v])) (hj : j = (m : Int)) (hm : m ≤ 1000) (q : ∀ a H', H a = none → Same H H' → H' a = some (.lst (List.replicate m v)) → Q (.ref a) H') : rRep (.ref l) (.int j) H Q := by
  subst hj
  refine ⟨l, (m : Int), [v], rfl, rfl, h, by omega, by omega, Nat.le_trans (show [v].length * (m : Int).toNat ≤ 1000 by simpa using hm) (by decide), fun a ha => ?_⟩
  rw [Int.toNat_natCast, rep_one v m]
  exact q a _ ha (same_upd ha) upd_same
/-! while -/
/-- the number in slot k, as a measure -/
def muI (k : Nat) : L2.St → Hp → Nat := fun σ _ => match (σ[k]? : Option (Option V)) with
  | some (some (V.int m)) => m.toNat
  | _ => 0
def WB (Pv : L2.St → Hp → Prop) (μ : L2.St → Hp → Nat) (m : Nat) (tb : TS) (n : L2.St → Hp → Prop) (r : VK) (σ : L2.St) : Bool → Hp → Prop := fun b H1 =>
  if b = true then ∃ N : L2.St → Hp → Prop, (∀ σ' H', N σ' H' → ∃ m', m' < m ∧ m' = μ σ' H' ∧ Pv σ' H') ∧ tb ⟨N, r, n, N⟩ σ H1 else n σ H1
section
variable {Pv : L2.St → Hp → Prop} {μ : L2.St → Hp → Nat} {m : Nat} {tb : TS} {n : L2.St → Hp → Prop} {r : VK} {b c : L2.St → Hp → Prop}
theorem z_wbT (h : tb ⟨fun σ' H' => Pv σ' H' ∧ μ σ' H' < m, r, n, fun σ' H' => Pv σ' H' ∧ μ σ' H' < m⟩ σ H) : WB Pv μ m tb n r σ true H := by
  unfold WB
  rw [if_pos rfl]
  exact ⟨_, fun σ' H' z => ⟨_, z.2, rfl, z.1⟩, h⟩
theorem z_wbF (h : n σ H) : WB Pv μ m tb n r σ false H := by
  unfold WB
  rw [if_neg (by decide)]
  exact h
theorem z_wb {p : Prop} [Decidable p] (h1 : p → tb ⟨fun σ' H' => Pv σ' H' ∧ μ σ' H' < m, r, n, fun σ' H' => Pv σ' H' ∧ μ σ' H' < m⟩ σ H) (h2 : ¬ p → n σ H) : WB Pv μ m tb n r σ (decide p) H := by
  by_cases h : p
  · rw [decide_eq_true h]
    exact z_wbT (h1 h)
  · rw [decide_eq_false h]
    exact z_wbF (h2 h)
theorem z_while {tt : TT} (Pv : L2.St → Hp → Prop) (μ : L2.St → Hp → Nat) (h0 : Pv σ H) (hs : ∀ σ H, Pv σ H → tt σ H (WB Pv μ (μ σ H) tb n r σ)) : tWhile tt tb ⟨n, r, b, c⟩ σ H := by
  refine ⟨fun m σ H => m = μ σ H ∧ Pv σ H, ⟨_, rfl, h0⟩, ?_⟩
  rintro m σ H ⟨rfl, p⟩
  exact hs σ H p
end
/-! comprehensions over a range, over a list: the list at D grows -/
def LcB (D : Addr) (i : Nat) (Pv : Nat → Addr → List V → Hp → Prop) (Nx : Hp → Prop) : VK := fun y H4 => ∃ acc, H4 D = some (.lst acc) ∧ acc.length < sizeLine ∧ Nx (upd H4 D (.lst (acc ++ [y])))
theorem z_lcB {D : Addr} {i : Nat} {Pv : Nat → Addr → List V → Hp → Prop} {acc : List V} (h : H D = some (.lst acc)) (hl : acc.length = i) (hi : i < 1000) (q : ∀ H', H' D = some (.lst (acc ++ [y])) → Kp D H H' → (∀ b, b ≠ D → H' b = H b) → Pv (i + 1) D (acc ++ [y]) H') :
    LcB D i Pv (fun H' => ∃ acc', acc'.length = i + 1 ∧ H' D = some (.lst acc') ∧ Pv (i + 1) D acc' H') y H :=
  ⟨acc, h, Nat.lt_of_lt_of_le (show acc.length < 1000 by omega) (by decide), acc ++ [y], by simp [hl], upd_same, q _ upd_same (fun b o hb e => by rw [upd_ne hb]; exact e) fun b hb => upd_ne hb⟩
abbrev LcN (D : Addr) (i : Nat) (Pv : Nat → Addr → List V → Hp → Prop) : VK := LcB D i Pv (fun H' => ∃ acc', acc'.length = i + 1 ∧ H' D = some (.lst acc') ∧ Pv (i + 1) D acc' H')
theorem z_lcR {ta : TA} {k : Nat} {te : TE} {vs : List Nat} (m : Nat) (hm : m ≤ 1000) (ha : ∀ R : List V → Hp → Prop, R [.int (m : Int)] H → ta σ H R) (hw : ∀ x, wipe ((wipe σ vs).set k (some x)) vs = wipe σ vs) (Pv : Nat → Addr → List V → Hp → Prop)
    (h0 : ∀ D H', H D = none → Same H H' → H' D = some (.lst []) → Pv 0 D [] H')
    (hs : ∀ i D acc H', i < m → acc.length = i → H' D = some (.lst acc) → Pv i D acc H' → te ((wipe σ vs).set k (some (.int (i : Int)))) H' (LcN D i Pv))
    (hd : ∀ D acc H', H D = none → acc.length = m → H' D = some (.lst acc) → Pv m D acc H' → Q (.ref D) H') : tLc (iRng1 ta) (gName k) tYes te vs σ H Q := by
  refine ha _ ⟨(m : Int), rfl, by omega, by omega, fun D hD => ?_⟩
  refine lc_range (lo := 0) (n := (m : Int).toNat) (fun i H' => ∃ acc, acc.length = i ∧ H' D = some (.lst acc) ∧ Pv i D acc H') ⟨[], rfl, upd_same, h0 D _ hD (same_upd hD) upd_same⟩ (fun i H' hi ⟨acc, hl, hH, pv⟩ => ?_) (fun H' ⟨acc, hl, hH, pv⟩ => hd D acc H' hD (by simpa using hl) hH (by simpa using pv))
  have e : (0 : Int) + (i : Int) = (i : Int) := Int.zero_add _
  show wipe ((wipe σ vs).set k (some (.int ((0 : Int) + (i : Int))))) vs = wipe σ vs ∧ _
  refine ⟨hw _, z_yes (z_ifT ?_)⟩
  rw [e]
  exact hs i D acc H' (by simpa using hi) hl hH pv
def LcE (K : PySem.W.Frag) (g : TG) (tt : TT) (te : TE) (vs : List Nat) (σ : L2.St) (Q : VK) : VK := fun x H1 => tLc (iList K (tC x)) g tt te vs σ H1 Q
theorem z_lcE {tl : TE} {g : TG} {tt : TT} {vs : List Nat} (h : tl σ H (LcE K g tt te vs σ Q)) : tLc (iList K tl) g tt te vs σ H Q := h
def LcRE (g : TG) (tt : TT) (te : TE) (vs : List Nat) (σ : L2.St) (Q : VK) : List V → Hp → Prop := fun xs H1 => tLc (iRng1 fun _ H R => R xs H) g tt te vs σ H1 Q
theorem z_lcRE {ta : TA} {g : TG} {tt : TT} {vs : List Nat} (h : ta σ H (LcRE g tt te vs σ Q)) : tLc (iRng1 ta) g tt te vs σ H Q := h
theorem z_lcRr {k : Nat} {vs : List Nat} (m : Nat) (hm : m ≤ 1000) (hw : ∀ x, wipe ((wipe σ vs).set k (some x)) vs = wipe σ vs) (Pv : Nat → Addr → List V → Hp → Prop)
    (h0 : ∀ D H', H D = none → Same H H' → H' D = some (.lst []) → Pv 0 D [] H')
    (hs : ∀ i D acc H', i < m → acc.length = i → H' D = some (.lst acc) → Pv i D acc H' → te ((wipe σ vs).set k (some (.int (i : Int)))) H' (LcN D i Pv))
    (hd : ∀ D acc H', H D = none → acc.length = m → H' D = some (.lst acc) → Pv m D acc H' → Q (.ref D) H') : LcRE (gName k) tYes te vs σ Q [.int (m : Int)] H := z_lcR m hm (fun R q => q) hw Pv h0 hs hd
/-- over a list that stands as long as Pv -/
theorem z_lcLs {k : Nat} {vs : List Nat} {a : Addr} (hm : xs.length ≤ 1000) (hx : SqL K H a xs) (hw : ∀ x, wipe ((wipe σ vs).set k (some x)) vs = wipe σ vs) (Pv : Nat → Addr → List V → Hp → Prop)
    (h0 : ∀ D H', H D = none → Same H H' → H' D = some (.lst []) → Pv 0 D [] H') (hl : ∀ i D acc H', Pv i D acc H' → SqL K H' a xs)
    (hs : ∀ i x D acc H', xs[i]? = some x → acc.length = i → H' D = some (.lst acc) → Pv i D acc H' → te ((wipe σ vs).set k (some x)) H' (LcN D i Pv))
    (hd : ∀ D acc H', H D = none → acc.length = xs.length → H' D = some (.lst acc) → Pv xs.length D acc H' → Q (.ref D) H') : LcE K (gName k) tYes te vs σ Q (.ref a) H := by
  refine ⟨a, rfl, ⟨xs, hx⟩, fun D hD => ?_⟩
  refine lc_list (xs := xs) (fun i H' => ∃ acc, acc.length = i ∧ H' D = some (.lst acc) ∧ Pv i D acc H') ⟨[], rfl, upd_same, h0 D _ hD (same_upd hD) upd_same⟩ (fun i H' _ ⟨acc, _, _, pv⟩ => hl _ _ _ _ pv) (fun i x H' hi ⟨acc, hl, hH, pv⟩ => ?_) (fun H' ⟨acc, hl, hH, pv⟩ => hd D acc H' hD hl hH pv)
  show wipe ((wipe σ vs).set k (some x)) vs = wipe σ vs ∧ _
  exact ⟨hw _, z_yes (z_ifT (hs i x D acc H' hi hl hH pv))⟩
/-- any target -/
theorem z_lcG {g : TG} {vs : List Nat} {a : Addr} (hm : xs.length ≤ 1000) (hx : SqL K H a xs) (Pv : Nat → Addr → List V → Hp → Prop)
    (h0 : ∀ D H', H D = none → Same H H' → H' D = some (.lst []) → Pv 0 D [] H') (hl : ∀ i D acc H', Pv i D acc H' → SqL K H' a xs)
    (hs : ∀ i x D acc H', xs[i]? = some x → acc.length = i → H' D = some (.lst acc) → Pv i D acc H' → g x (wipe σ vs) H' fun σ2 H2 => wipe σ2 vs = wipe σ vs ∧ te σ2 H2 (LcN D i Pv))
    (hd : ∀ D acc H', H D = none → acc.length = xs.length → H' D = some (.lst acc) → Pv xs.length D acc H' → Q (.ref D) H') : LcE K g tYes te vs σ Q (.ref a) H := by
  refine ⟨a, rfl, ⟨xs, hx⟩, fun D hD => ?_⟩
  refine lc_list (xs := xs) (fun i H' => ∃ acc, acc.length = i ∧ H' D = some (.lst acc) ∧ Pv i D acc H') ⟨[], rfl, upd_same, h0 D _ hD (same_upd hD) upd_same⟩ (fun i H' _ ⟨acc, _, _, pv⟩ => hl _ _ _ _ pv) (fun i x H' hi ⟨acc, hl, hH, pv⟩ => ?_) (fun H' ⟨acc, hl, hH, pv⟩ => hd D acc H' hD hl hH pv)
  have h := hs i x D acc H' hi hl hH pv
  have e : (fun σ2 H2 => wipe σ2 vs = wipe σ vs ∧ te σ2 H2 (LcN D i Pv)) = (fun (σ2 : L2.St) (H2 : Hp) => wipe σ2 vs = wipe σ vs ∧ tYes σ2 H2 fun b H3 => if b = true then te σ2 H3 (LcN D i Pv) else ∃ acc', acc'.length = i + 1 ∧ H3 D = some (.lst acc') ∧ Pv (i + 1) D acc' H3) := by
    funext σ2 H2
    show _ = (wipe σ2 vs = wipe σ vs ∧ if true = true then te σ2 H2 (LcN D i Pv) else ∃ acc', acc'.length = i + 1 ∧ H2 D = some (.lst acc') ∧ Pv (i + 1) D acc' H2)
    rw [if_pos rfl]
  rw [e] at h
  exact h
/-- where the item answers at once -/
theorem z_lcS {k : Nat} {vs : List Nat} {a : Addr} (ws : List V) (hlen : ws.length = xs.length) (hm : xs.length ≤ 1000) (hx : H a = some (.lst xs)) (hw : ∀ x, wipe ((wipe σ vs).set k (some x)) vs = wipe σ vs)
    (body : ∀ (i : Nat) (x w : V) (H' : Hp), xs[i]? = some x → ws[i]? = some w → Same H H' → ∀ R : VK, R w H' → te ((wipe σ vs).set k (some x)) H' R)
    (hd : ∀ D H', H D = none → Same H H' → H' D = some (.lst ws) → Q (.ref D) H') : LcE K (gName k) tYes te vs σ Q (.ref a) H :=
  z_lcM (tl := tC (.ref a)) hlen hm (fun R q => q) hx hw body hd
end
/-! ### data: numbers, lists of numbers -/
def Fl (n : Nat) (d : PyData) : Prop := PyData.canLay0 d = true ∧ PyData.depth d ≤ n
theorem fl_all {n : Nat} : ∀ {ds : List PyData}, (∀ d ∈ ds, Fl n d) → PyData.canLayAll0 ds = true ∧ PyData.depthAll ds ≤ n
  | [], _ => ⟨rfl, Nat.zero_le _⟩
  | d :: ds, h => by
    have h1 := h d (.head _)
    have h2 := fl_all (ds := ds) fun x hx => h x (.tail _ hx)
    refine ⟨?_, ?_⟩
    · show (PyData.canLay0 d && PyData.canLayAll0 ds) = true
      rw [h1.1, h2.1]
      rfl
    · show max (PyData.depth d) (PyData.depthAll ds) ≤ n
      have := h1.2
      have := h2.2
      omega
theorem fl_list {n : Nat} {ds : List PyData} (h : ∀ d ∈ ds, Fl n d) : Fl (n + 1) (.list ds) := ⟨(fl_all h).1, Nat.succ_le_succ (fl_all h).2⟩
theorem fl_tup {n : Nat} {ds : List PyData} (h : ∀ d ∈ ds, Fl n d) : Fl (n + 1) (.tuple ds) := ⟨(fl_all h).1, Nat.succ_le_succ (fl_all h).2⟩
theorem fl_int (i : Int) : Fl 0 (.int i) := ⟨rfl, Nat.le_refl 0⟩
theorem shaped_fl {n : Nat} {d : PyData} (h : Fl n d) (hn : n ≤ 64 := by decide) : SeqAt.shaped d = true := by
  unfold SeqAt.shaped
  rw [Bool.and_eq_true]
  exact ⟨h.1, decide_eq_true (Nat.le_trans h.2 hn)⟩
theorem fl_ints (ns : List Int) : Fl 1 (.list (ns.map .int)) := fl_list fun d hd => by
  obtain ⟨i, _, rfl⟩ := List.mem_map.mp hd
  exact fl_int i
section
variable {K : PySem.W.Frag} {H : Hp} {Q : VK} {p q : Addr}
theorem dpa_ints : ∀ (ns : List Int), DpAll K H (ns.map V.int) (ns.map PyData.int)
  | [] => .nil
  | n :: ns => .cons (.int n) (dpa_ints ns)
theorem dp_ints {ns : List Int} (h : H p = some (.lst (ns.map V.int))) : Dp K H (.ref p) (.list (ns.map .int)) := .lst (.inl (.inl h)) (dpa_ints ns)
theorem eqv_intsA : ∀ (ns ms : List Int), PyData.eqv (.list (ns.map .int)) (.list (ms.map .int)) = decide (ns = ms)
  | [], [] => rfl
  | [], m :: ms => rfl
  | n :: ns, [] => rfl
  | n :: ns, m :: ms => by
    have ih := eqv_intsA ns ms
    show ((n == m) && PyData.eqv (.list (ns.map .int)) (.list (ms.map .int))) = _
    rw [ih]
    by_cases h : n = m
    · subst h
      by_cases h2 : ns = ms
      · simp [h2]
      · simp [h2]
    · simp [h]
theorem z_eqInts {ns ms : List Int} (h1 : H p = some (.lst (ns.map V.int))) (h2 : H q = some (.lst (ms.map V.int))) (k : Q (.bl (decide (ns = ms))) H) : rEqD K (.ref p) (.ref q) H Q :=
  ⟨_, _, dp_ints h1, dp_ints h2, shaped_fl (fl_ints ns), shaped_fl (fl_ints ms), by rw [eqv_intsA]; exact k⟩
theorem z_neInts {ns ms : List Int} (h1 : H p = some (.lst (ns.map V.int))) (h2 : H q = some (.lst (ms.map V.int))) (k : Q (.bl (decide (¬ ns = ms))) H) : rNeD K (.ref p) (.ref q) H Q :=
  ⟨_, _, dp_ints h1, dp_ints h2, shaped_fl (fl_ints ns), shaped_fl (fl_ints ms), by
    rw [eqv_intsA, show (!decide (ns = ms)) = decide (¬ ns = ms) by simp]
    exact k⟩
theorem inV_int (i : Int) : ∀ (ns : List Int), inV (.int i) (ns.map V.int) = decide (i ∈ ns)
  | [] => rfl
  | n :: ns => by
    have ih := inV_int i ns
    show (eqV (.int n) (.int i) || inV (.int i) (ns.map V.int)) = _
    rw [ih, show eqV (.int n) (.int i) = decide (n = i) by first | rfl | simp [eqV]]
    by_cases h : n = i
    · subst h
      simp
    · have h' : ¬ i = n := fun z => h z.symm
      simp [h, h']
theorem flat_ints (ns : List Int) : (ns.map V.int).all flatV = true := by
  rw [List.all_eq_true]
  intro v hv
  obtain ⟨i, _, rfl⟩ := List.mem_map.mp hv
  rfl
theorem z_inI {i : Int} {ns : List Int} (h : H p = some (.lst (ns.map V.int))) (k : Q (.bl (decide (i ∈ ns))) H) : rIn K false (.int i) (.ref p) H Q :=
  ⟨p, _, rfl, .inl (.inl (.inl h)), rfl, flat_ints ns, by rw [inV_int]; exact k⟩
theorem z_notInI {i : Int} {ns : List Int} (h : H p = some (.lst (ns.map V.int))) (k : Q (.bl (decide (¬ i ∈ ns))) H) : rIn K true (.int i) (.ref p) H Q :=
  ⟨p, _, rfl, .inl (.inl (.inl h)), rfl, flat_ints ns, by
    rw [inV_int, show (if true = true then !decide (i ∈ ns) else decide (i ∈ ns)) = decide (¬ i ∈ ns) by simp]
    exact k⟩
theorem z_sortedI {ns : List Int} (h : H p = some (.lst (ns.map V.int))) (k : ∀ (ms : List Int) (a : Addr) (H' : Hp), ms.Perm ns → ms.Pairwise (· ≤ ·) → H a = none → Same H H' → H' a = some (.lst (ms.map V.int)) → Q (.ref a) H') : rSortedI K [.ref p] H Q :=
  ⟨p, ns, rfl, .inl (.inl h), fun ms a h1 h2 ha => k ms a _ h1 h2 ha (same_upd ha) upd_same⟩
/-- truth values -/
theorem inV_bl (i : Bool) : ∀ (ns : List Bool), inV (.bl i) (ns.map V.bl) = decide (i ∈ ns)
  | [] => rfl
  | n :: ns => by
    have ih := inV_bl i ns
    show (eqV (.bl n) (.bl i) || inV (.bl i) (ns.map V.bl)) = _
    rw [ih]
    cases n <;> cases i <;> simp [eqV]
theorem flat_bls (ns : List Bool) : (ns.map V.bl).all flatV = true := by
  rw [List.all_eq_true]
  intro v hv
  obtain ⟨i, _, rfl⟩ := List.mem_map.mp hv
  rfl
theorem z_inB {i : Bool} {ns : List Bool} (h : H p = some (.lst (ns.map V.bl))) (k : Q (.bl (decide (i ∈ ns))) H) : rIn K false (.bl i) (.ref p) H Q :=
  ⟨p, _, rfl, .inl (.inl (.inl h)), rfl, flat_bls ns, by rw [inV_bl]; exact k⟩
theorem z_notInB {i : Bool} {ns : List Bool} (h : H p = some (.lst (ns.map V.bl))) (k : Q (.bl (decide (¬ i ∈ ns))) H) : rIn K true (.bl i) (.ref p) H Q :=
  ⟨p, _, rfl, .inl (.inl (.inl h)), rfl, flat_bls ns, by
    rw [inV_bl, show (if true = true then !decide (i ∈ ns) else decide (i ∈ ns)) = decide (¬ i ∈ ns) by simp]
    exact k⟩
theorem z_notNI {i : Int} (q : Q (.bl true) H) : rNotN (.int i) .non H Q := ⟨rfl, by simpa using q⟩
theorem z_isNI {i : Int} (q : Q (.bl false) H) : rIsN (.int i) .non H Q := ⟨rfl, by simpa using q⟩
theorem fresh_of {H H' : Hp} {a : Addr} (s : Same H H') (h : H' a = none) : H a = none := by
  cases z : H a with
  | none => rfl
  | some o =>
    have := s _ _ z
    rw [h] at this
    cases this
/-- sorted(ints) -/
theorem z_sorted {ns : List Int} (h : H p = some (.lst (ns.map V.int))) (hl : ns.length < 64) (k : ∀ (ms : List Int) (a : Addr) (H' : Hp), ms.Perm ns → ms.Pairwise (· ≤ ·) → H a = none → Same H H' → H' a = some (.lst (ms.map V.int)) → Q (.ref a) H') : rSorted K [.ref p] H Q :=
  ⟨p, ns, rfl, .inl (.inl h), hl, fun ms a h1 h2 ha => k ms a _ h1 h2 ha (same_upd ha) upd_same⟩
end
end Z

namespace Z
open PySem PySem.Spec PyProof PyProof.Rows L2
theorem get_list {X : Cx} : PGet X (rIxL X.K) := by
  intro pins s σ H o i ov iv Q I ro ri h
  obtain ⟨p, xs, k, z, rfl, rfl, hq, he, q⟩ := h
  cases ro
  obtain ⟨t, rfl⟩ := ri
  obtain ⟨its, r, pl, hz⟩ := I.list hq
  obtain ⟨j, h1, h2, h3, h4, h5⟩ := atI_get he
  obtain ⟨w, ew, rw'⟩ := r.get h2
  have hl := r.length
  have hn := line63
  by_cases h0 : 0 ≤ k
  · have hj : k.toNat = j := by
      rw [seqIndex_of h0 h5] at h1
      exact Option.some.inj h1
    exact wpAny_getItem_list pl.isList h0 (by omega) (by rw [hj]; simpa using ew) ⟨z, H, I, rw', q⟩
  · have hj : (k + (its.toArray.size : Int)).toNat = j := by
      rw [seqIndex_neg (by omega) h4] at h1
      rw [List.size_toArray, ← hl]
      exact Option.some.inj h1
    exact wpAny_getItem_list_neg pl.isList (by omega) (by rw [List.size_toArray, ← hl]; omega) (by omega) (by rw [hj]; simpa using ew) ⟨z, H, I, rw', q⟩
section
variable {K : PySem.W.Frag} {σ : L2.St} {H H' : Hp} {Q : VK} {p q : Addr} {xs ys : List V} {v y : V} {n : L2.St → Hp → Prop} {r : VK} {b c : L2.St → Hp → Prop} {tb : TS}
theorem z_augS {to ti te : TE} {tip : TIp} {st : TSet} {tget : V → V → Hp → VK → Prop} (h : to σ H fun o H1 => ti σ H1 fun i H2 => tget o i H2 fun x H3 => te σ H3 fun y H4 => tip x y H4 fun z H5 => st o i z H5 fun H6 => n σ H6) : tAugS to ti te tget tip st ⟨n, r, b, c⟩ σ H := h
/-- for k in range(lo, hi), whatever the two are -/
theorem z_forR2g {ta : TA} {k : Nat} (lo hi : Int) (hl : -(2 ^ 61) ≤ lo ∧ lo < 2 ^ 61) (hh : -(2 ^ 61) ≤ hi ∧ hi < 2 ^ 61) (ha : ∀ R : List V → Hp → Prop, R [.int lo, .int hi] H → ta σ H R) (Pv : Nat → L2.St → Hp → Prop) (h0 : Pv 0 σ H)
    (hs : ∀ i σ H, i < (hi - lo).toNat → Pv i σ H → tb ⟨Pv (i + 1), r, n, Pv (i + 1)⟩ (σ.set k (some (.int (lo + (i : Int))))) H) (hd : ∀ σ H, Pv (hi - lo).toNat σ H → n σ H) : tFor (iRng2 ta) (gName k) tb ⟨n, r, b, c⟩ σ H :=
  ha _ ⟨lo, hi, rfl, by omega, for_range (lo := lo) (n := (hi - lo).toNat) Pv h0 hs hd⟩
theorem z_extendW (h1 : H p = some (.lst xs)) (h2 : H q = some (.lst ys)) (hl : xs.length + ys.length ≤ 1000000) (k : Q .non (upd H p (.lst (xs ++ ys)))) : rExtend (.ref p) [.ref q] H Q :=
  ⟨p, q, xs, ys, rfl, rfl, h1, h2, Nat.le_trans hl (by decide), k⟩
theorem z_appendW (hp : H p = some (.lst xs)) (hl : xs.length < 1000000) (k : Q .non (upd H p (.lst (xs ++ [y])))) : rAppend (.ref p) [y] H Q := ⟨p, xs, y, rfl, rfl, hp, Nat.lt_of_lt_of_le hl (by decide), k⟩
/-! lists of data -/
theorem dpa_len : ∀ {ds : List PyData} {vs : List V}, DpAll K H vs ds → vs.length = ds.length
  | [], vs, h => by rw [dpa_nil h]; rfl
  | d :: ds, vs, h => by
    obtain ⟨v, t, rfl, _, h2⟩ := dpa_cons h
    rw [List.length_cons, List.length_cons, dpa_len h2]
theorem dpa_get : ∀ {ds : List PyData} {vs : List V} {i : Nat} {d : PyData}, DpAll K H vs ds → ds[i]? = some d → ∃ v, vs[i]? = some v ∧ Dp K H v d
  | [], _, _, _, _, e => by simp at e
  | d' :: ds, vs, i, d, h, e => by
    obtain ⟨v, t, rfl, h1, h2⟩ := dpa_cons h
    cases i with
    | zero =>
      cases e
      exact ⟨v, rfl, h1⟩
    | succ i =>
      have h5 := dpa_get (i := i) h2 (show ds[i]? = some _ from e)
      exact h5
theorem dpa_getv {ds : List PyData} {vs : List V} {i : Nat} {v : V} (h : DpAll K H vs ds) (e : vs[i]? = some v) : ∃ d, ds[i]? = some d ∧ Dp K H v d := by
  have hi : i < vs.length := (List.getElem?_eq_some_iff.mp e).1
  obtain ⟨w, hw, d⟩ := dpa_get h (List.getElem?_eq_getElem (show i < ds.length by rw [← dpa_len h]; exact hi))
  rw [e] at hw
  cases hw
  exact ⟨_, List.getElem?_eq_getElem _, d⟩
theorem dpa_app : ∀ {ds es : List PyData} {vs ws : List V}, DpAll K H vs ds → DpAll K H ws es → DpAll K H (vs ++ ws) (ds ++ es)
  | [], _, _, _, h, k => by
    rw [dpa_nil h]
    exact k
  | _ :: _, _, _, _, h, k => by
    obtain ⟨v, t, rfl, h1, h2⟩ := dpa_cons h
    exact .cons h1 (dpa_app h2 k)
theorem dpa_one {d : PyData} (h : Dp K H v d) : DpAll K H [v] [d] := .cons h .nil
end
end Z

/-! sets of tuples of whole numbers by a comprehension; such a set of pairs, sorted, whatever the signs of its numbers -/
namespace Sc
open PySem PySem.Spec PyProof PyProof.Rows L2 PpSet
section
variable {X : Cx}
/-- set.add of a tuple of whole numbers -/
def rAddT (K : PySem.W.Frag) (P : Program) (w : World) : AddR := fun x xs H Q => ∃ (a t : Addr) (L : List (Addr × List Int)) (k : List Int), x = V.ref a ∧ xs = [V.ref t] ∧ H a = some (SetTO P w a L) ∧ SqT K H t (k.map V.int) ∧ (∀ p ∈ L, SqT K H p.1 (p.2.map V.int)) ∧ L.length + 1 < 64 ∧
  ∀ L', (k ∈ L.map (·.2) → L' = L) → (k ∉ L.map (·.2) → L'.Perm ((t, k) :: L)) → Q .non (upd H a (SetTO P w a L'))
theorem mt_addT (hu : X.A.units + 64 < cLine) : MtR X "set.add" (rAddT X.K X.prog X.w) := by
  intro pins s σ H x xs v us Q I r rxs h
  obtain ⟨a, t, L, k, rfl, rfl, ha, ht, hL, room, q⟩ := h
  cases r
  cases rxs with
  | cons ry rt =>
  cases rt
  cases ry
  have R0 : SetT0 X.prog X.w s.heap a L := (I.hok a _ ha).1
  obtain ⟨es, ep, tb, R⟩ := R0.full fun p hp => I.isT (hL p hp)
  have hx := I.isT ht
  obtain ⟨o, ho, hex, hd⟩ := R.ob
  have hT : s.heap.get? a = some o := ho
  refine wpAny_call_entry F.slot_set_add (T := "set") ?_ F.entry_set_add ?_ (F.args_set_add_2 _ _)
  · exact ⟨o, ho, hex.1⟩
  unfold Builtin.«set.add» Builtin.Frozenset.oneOther
  simp only [List.isEmpty_nil, bind_assoc]
  unfold Builtin.Frozenset.addrOf setAdd
  refine wpAny_bind (wpAny_pure ?_)
  try dsimp only
  refine wpAny_bind (wpAny_pure ?_)
  try dsimp only
  refine wpAny_bind ?_
  refine wpAny_holding ?_
  refine wpAny_bind (wpAny_pyHash_tuple (by show X.A.units + 1 < cLine; omega) hx ?_)
  refine add_at (s := { s with toks := s.toks + (k.length + 1) }) R hx (by show X.A.units + 1 < cLine; omega) room fun b h' L' es' ep' t' sb R' c1 c2 => ?_
  show wpAny _ _ (ret Value.none) _ _ _
  refine wpAny_pure ⟨_, rfl, .non, upd H a (SetTO X.prog X.w a L'), ?_, rfl, q L' c1 c2⟩
  have he : ∃ u, h'.get? a = some u := by
    obtain ⟨o', ho', _⟩ := R'.ob
    exact ⟨o', ho'⟩
  exact I.write (e := a) (t' := s.toks + (k.length + 1)) (by rw [ha]; trivial) (.inl rfl) (fun b u hb hu => (sb.2 b hb).trans hu) he (setTO_new R'.t0)
def frT (P : Program) (w : World) : Addr → HO := fun a => SetTO P w a []
theorem pe_setT {elt tg iter : Expr} {ifs : List Expr} {scope : Scope} {own : List (PySem.Str × Nat)} {pos : Pos} {wi : TI} {g : TG} {tt : TT} {te : TE}
    (hu : X.A.units + 64 < cLine) (hc : X.calm = true) (hN : X.N.Nodup) (hi : PI X tg iter wi) (ok : BlkOk X.N X.env.scope scope own)
    (hg : ∀ (s : Shared) (H : Hp) (C : Addr) (cl : List (PySem.Str × Addr)) (fp : List Addr), PG (X.blk s H scope (compEnvC scope cl C X.env) fp) tg g)
    (ht : ∀ (s : Shared) (H : Hp) (C : Addr) (cl : List (PySem.Str × Addr)) (fp : List Addr), PTs (X.blk s H scope (compEnvC scope cl C X.env) fp) ifs tt)
    (he : ∀ (s : Shared) (H : Hp) (C : Addr) (cl : List (PySem.Str × Addr)) (fp : List Addr), PE (X.blk s H scope (compEnvC scope cl C X.env) fp) elt te)
    (hs : ∀ x, foldedSetIterable iter X.env x = pure x := by intro _; rfl) : PE X (.SetComp elt [⟨tg, iter, ifs, 0⟩] scope pos) (tSet (rAddT X.K X.prog X.w) (frT X.prog X.w) wi g tt te (own.map (·.2))) :=
  pe_set (fun H h a e => by
    subst e
    exact setTO_new (setTR_fresh (P := X.prog) (w := X.w) (Heap.get?_push_size _ rfl)).t0) (fun s H e fp => mt_addT (X := X.blk s H scope e fp) hu) hc hN hi ok hg ht he hs
end
/-! sorted -/
section
variable {P : Program} {w : World} {A : Around} {E : Value → Shared → Prop} {s : Shared}
theorem sorted_setP {a : Addr} {L : List (Addr × List Int)} {es : Array (Int × Value)} {ep : Nat} {t : SetTable} {k : Value → Int × Int} {Q : Value → Shared → Prop} (R : SetTR P w s.heap a L es ep t) (hh : A.handled = none)
    (hk : ∀ p ∈ L, p.2 = [(k (.ref p.1)).1, (k (.ref p.1)).2])
    (hQ : ∀ s' p (out : List Value) (c : Nat), (∀ b o, s.heap.get? b = some o → s'.heap.get? b = some o) → s'.gens = s.gens → s'.os = s.os → s.heap.objs.size ≤ p → s'.heap.get? p = some (seqObj "list" out.toArray c) →
      out.Perm (L.map fun q => Value.ref q.1) → SrtO.Srtd (fun v u => SrtO.lexB (k v) (k u)) out → Q (.ref p) s') :
    wpAny (model P w) A (call (.builtin "sorted") [.ref a]) Q E s := by
  obtain ⟨o, ho, hex, hd⟩ := R.ob
  have hsz := R.size
  have hfew := R.few
  refine Calls.call_function_entry kind_sorted plain_sorted entry_sorted (args_sorted1 _) ?_
  unfold Builtin.«sorted»
  refine wpAny_bind (m := checkCount "sorted" 1 1 _) (wpAny_pure ?_)
  refine wpAny_bind (collect_set (A := A.in1) hh ⟨o, ho, hex.1, hd⟩ R.fits (by unfold scanBound; omega) R.tab.ris R.led fun s1 vs k1 hz g1 o1 pm => ?_)
  have hes : es.toList.map (·.2) = L.map fun q => Value.ref q.1 := by
    rw [R.rows]
    unfold rowsOf
    rw [List.map_map]
    rfl
  rw [hes] at pm
  have hvl : vs.length < 64 := by rw [pm.length_eq, List.length_map]; exact hfew
  have hvz : vs.length ≤ sizeLine := by rw [sizeLine_eq]; omega
  refine wpAny_bind (wpAny_newList ?_ hvz)
  have hoL : (s1.heap.push (seqObj "list" vs.toArray 0)).get? s1.heap.objs.size = some (seqObj "list" vs.toArray 0) := Heap.get?_push_size _ rfl
  have keep : ∀ b u, s.heap.get? b = some u → (s1.heap.push (seqObj "list" vs.toArray 0)).get? b = some u := fun b u e => Heap.get?_push_of_some _ (k1 b u e)
  have pairs : ∀ v ∈ vs, Srt.IsPair (s1.heap.push (seqObj "list" vs.toArray 0)) v (k v).1 (k v).2 := fun v hv => by
    obtain ⟨q, hq, e⟩ := List.mem_map.mp (pm.mem_iff.mp hv)
    subst e
    obtain ⟨o2, items, n, h1, h2, h3, h4⟩ := R.tup q hq
    rw [hk q hq] at h4
    have h5 := ints_of_items h4
    generalize hil : items.toList = il at h5
    cases h5 with
    | cons _ t1 r1 =>
      cases r1 with
      | cons _ t2 r2 =>
        cases r2
        refine ⟨q.1, o2, t1, t2, n, rfl, keep _ _ h1, h2, ?_⟩
        rw [h3, ← hil] <;> simp
  refine wpAny_bind (wpAny_holding (wpAny_call_entry slot_list_sort ⟨_, hoL, rfl⟩ entry_list_sort (SrtO.list_sort_ord (s := { s1 with heap := s1.heap.push (seqObj "list" vs.toArray 0) }) (SrtO.swo_lex k) hoL hvz
    (fun h2 => SrtO.pairs_sortableO (s := { s1 with heap := s1.heap.push (seqObj "list" vs.toArray 0) }) (by omega) pairs fun o e => ?_) fun out hs hb => ⟨_, rfl, ?_⟩) (args_list_sort _)))
  · have e' : some o = some (seqObj "list" vs.toArray 0) := e.symm.trans hoL
    cases e'
    intro c
    exact absurd (Value.type.inj c) (by decide)
  obtain ⟨c, hc⟩ := sortedHeap_at (vs := vs) (out := out.toArray) hoL
  refine wpAny_pure ⟨_, rfl, hQ _ s1.heap.objs.size out c (fun b u e => ?_) g1 o1 hz hc (hb.perm.trans pm) hs⟩
  have q := k1 b u e
  have hlt := Heap.lt_size q
  show (sortedHeap (s1.heap.push (seqObj "list" vs.toArray 0)) s1.heap.objs.size vs out.toArray).get? b = some u
  rw [sortedHeap_old (Nat.ne_of_lt hlt) (by rw [size_push']; exact Nat.lt_succ_of_lt hlt)]
  exact Heap.get?_push_of_some _ q
end
section
variable {X : Cx}
/-- sorted(set of pairs): the list of the same tuples, by their first numbers, then by their second -/
def rSortedP2 (K : PySem.W.Frag) (P : Program) (w : World) : List V → Hp → VK → Prop := fun vs H Q => ∃ (a : Addr) (L : List (Addr × List Int)) (k : Addr → Int × Int), vs = [V.ref a] ∧ H a = some (SetTO P w a L) ∧ (∀ p ∈ L, SqT K H p.1 [V.int (k p.1).1, V.int (k p.1).2] ∧ p.2 = [(k p.1).1, (k p.1).2]) ∧
  ∀ (ts : List Addr) (p : Addr), ts.Perm (L.map (·.1)) → ts.Pairwise (fun t u => ¬ ((k u).1 < (k t).1 ∨ ((k u).1 = (k t).1 ∧ (k u).2 < (k t).2))) → (L.map (·.2)).Nodup → H p = none → Q (.ref p) (upd H p (.lst (ts.map V.ref)))
theorem cr_sortedP2 (hc : X.calm = true) : CallR X (.builtin "sorted") (rSortedP2 X.K X.prog X.w) := by
  intro pins s σ H vs us Q I r h
  obtain ⟨a, L, k, rfl, ha, hk, q⟩ := h
  have R0 : SetT0 X.prog X.w s.heap a L := (I.hok a _ ha).1
  obtain ⟨es, ep, t, R⟩ := R0.full fun p hp => I.isT (by rw [(hk p hp).2]; exact (hk p hp).1)
  rw [Vals.ref1 r]
  let kv : Value → Int × Int := fun v => match v with | .ref b => k b | _ => (0, 0)
  refine sorted_setP (k := kv) R (I.ok.hd hc) (fun p hp => (hk p hp).2) fun s' p out c kp g o hp hg pm pw => ?_
  have href : ∀ (out : List Value), (∀ v ∈ out, ∃ b, v = Value.ref b) → ∃ ts : List Addr, out = ts.map Value.ref := by
    intro out
    induction out with
    | nil => intro _; exact ⟨[], rfl⟩
    | cons v out ih =>
      intro h
      obtain ⟨b, rfl⟩ := h v (.head _)
      obtain ⟨ts, rfl⟩ := ih fun u hu => h u (.tail _ hu)
      exact ⟨b :: ts, rfl⟩
  obtain ⟨ts, rfl⟩ := href out fun v hv => by
    obtain ⟨q, _, e⟩ := List.mem_map.mp (pm.mem_iff.mp hv)
    exact ⟨_, e.symm⟩
  have pm2 : ts.Perm (L.map (·.1)) := by
    have e : L.map (fun q => Value.ref q.1) = (L.map (·.1)).map Value.ref := by rw [List.map_map]; rfl
    rw [e] at pm
    have back : ∀ l : List Addr, (l.map Value.ref).filterMap (fun v => match v with | .ref b => some b | _ => none) = l := by
      intro l
      induction l with
      | nil => rfl
      | cons b l ih =>
        show b :: _ = _
        rw [ih]
    have z := pm.filterMap (fun v => match v with | .ref b => some b | _ => none)
    rw [back, back] at z
    exact z
  have hn : H p = none := I.hok.fresh hp
  have hlen : (ts.map V.ref).length ≤ sizeLine := by
    rw [List.length_map, pm2.length_eq, List.length_map, sizeLine_eq]
    have := R.few
    omega
  have hv : ∀ ts : List Addr, Vals (ts.map V.ref) (ts.map Value.ref) := by
    intro ts
    induction ts with
    | nil => exact .nil
    | cons b ts ih => exact .cons rfl ih
  have J : Inv X pins σ (upd H p (.lst (ts.map V.ref))) { s with heap := s'.heap, gens := s'.gens, drawn := s'.drawn, toks := s'.toks } :=
    I.call (ch := []) (Un.laid kp hp hn) (I.hok.laid kp hp ⟨hlen, ts.map Value.ref, c, hv ts, hg⟩) (by rw [g]; exact I.bare) (fun _ z => nomatch z)
  have e : s' = { s with heap := s'.heap, gens := s'.gens, drawn := s'.drawn, toks := s'.toks } := by
    cases s'
    cases s
    cases o
    rfl
  rw [e]
  refine ⟨.ref p, _, J, rfl, q ts p pm2 ?_ R.nd hn⟩
  have pw : (ts.map Value.ref).Pairwise fun x y => SrtO.lexB (kv y) (kv x) = false := pw
  exact (List.pairwise_map.mp pw).imp fun h => SrtO.lexB_no.mp h
end
/-! ### readings: the set of the pairs of a list; sorted -/
open Z
theorem nodup_len {α : Type} [DecidableEq α] : ∀ {l m : List α}, l.Nodup → (∀ x ∈ l, x ∈ m) → l.length ≤ m.length
  | [], m, _, _ => Nat.zero_le _
  | x :: l, m, hn, hs => by
    have hn' := List.nodup_cons.mp hn
    have hx := hs x (.head _)
    have := nodup_len (l := l) (m := m.erase x) hn'.2 fun y hy => by
      have hy' := hs y (.tail _ hy)
      have hne : y ≠ x := fun e => hn'.1 (by rw [← e]; exact hy)
      exact (List.mem_erase_of_ne hne).mpr hy'
    rw [List.length_erase_of_mem hx] at this
    have := List.length_pos_of_mem hx
    rw [List.length_cons]
    omega
section
variable {K : PySem.W.Frag} {H : Hp} {Q : VK} {σ : L2.St} {P : Program} {w : World}
theorem z_setPr {k : Nat} {te : TE} {vs : List Nat} {a : Addr} {xs : List V} (zs : List (Int × Int)) (hlen : zs.length = xs.length) (bs : List (List Int)) (hbl : bs.length ≤ 62) (hb : ∀ z ∈ zs, [z.1, z.2] ∈ bs) (hx : H a = some (.lst xs))
    (hw : ∀ x, wipe ((wipe σ vs).set k (some x)) vs = wipe σ vs)
    (body : ∀ (i : Nat) (x : V) (z : Int × Int) (H' : Hp), xs[i]? = some x → zs[i]? = some z → Same H H' → ∀ R : VK, (∀ t H'', H' t = none → Same H' H'' → H'' t = some (.tup [.int z.1, .int z.2]) → R (.ref t) H'') → te ((wipe σ vs).set k (some x)) H' R)
    (q : ∀ D H' L, H D = none → Same H H' → H' D = some (SetTO P w D L) → (L.map (·.2)).Nodup → (∀ p ∈ L, H' p.1 = some (.tup (p.2.map V.int)) ∧ ∃ z ∈ zs, p.2 = [z.1, z.2]) → (∀ z ∈ zs, [z.1, z.2] ∈ L.map (·.2)) → Q (.ref D) H') :
    tSetE (rAddT K P w) (frT P w) K (gName k) tYes te vs σ Q (.ref a) H := by
  refine ⟨a, rfl, ⟨_, .inl (.inl hx)⟩, fun D hD => ?_⟩
  have hDa : a ≠ D := ne_of_none hx hD
  let Pv : Nat → Hp → Prop := fun i H' => Same H H' ∧ ∃ L, H' D = some (SetTO P w D L) ∧ (L.map (·.2)).Nodup ∧ (∀ p ∈ L, H' p.1 = some (.tup (p.2.map V.int)) ∧ ∃ z ∈ zs.take i, p.2 = [z.1, z.2]) ∧ ∀ z ∈ zs.take i, [z.1, z.2] ∈ L.map (·.2)
  refine ⟨fun i m H' => m = xs.length - i ∧ i ≤ xs.length ∧ Pv i H', ⟨xs.length, by simp, Nat.zero_le _, same_upd hD, [], upd_same, List.nodup_nil, (fun p hp => by cases hp), (fun z hz => by cases hz)⟩, ?_⟩
  rintro i m H' ⟨rfl, hi, sm, L, hS, nd, hL, hz⟩
  have ha := sm _ _ hx
  by_cases hlt : i < xs.length
  · refine .inr ⟨⟨_, xs[i], .inl (.inl ha), by simp [hlt]⟩, Pv (i + 1), fun H2 p2 => ⟨xs.length - (i + 1), by omega, rfl, hlt, p2⟩, fun x H2 y => ?_⟩
    obtain ⟨e, y⟩ := y
    subst e
    have e := y _ (.inl (.inl ha))
    have hzi : zs[i]? = some (zs[i]'(by omega)) := List.getElem?_eq_getElem _
    generalize zs[i]'(by omega) = z at hzi
    have tk : zs.take (i + 1) = zs.take i ++ [z] := by rw [List.take_add_one, hzi]; rfl
    refine ⟨hw _, ?_⟩
    show Keep _ _ _ _ _ true _
    unfold Keep
    rw [if_pos rfl]
    refine body i x z H2 e hzi sm _ fun t H3 f3 s3 h3 => ?_
    have sm3 := sm.trans s3
    have htD : t ≠ D := fun z => by
      rw [z, hS] at f3
      cases f3
    have hlen2 : L.length ≤ bs.length := by
      have := nodup_len nd (m := bs) fun k hk => by
        obtain ⟨p, hp, rfl⟩ := List.mem_map.mp hk
        obtain ⟨z', hz', e'⟩ := (hL p hp).2
        rw [e']
        exact hb z' (List.mem_of_mem_take hz')
      rwa [List.length_map] at this
    refine ⟨D, t, L, [z.1, z.2], rfl, rfl, s3 _ _ hS, .inl (.inl h3), fun p hp => .inl (.inl (s3 _ _ (hL p hp).1)), by omega, fun L' c1 c2 => ?_⟩
    refine ⟨fun b o e => ?_, L', upd_same, ?_, fun p hp => ?_, fun z' hz' => ?_⟩
    · rw [upd_ne (ne_of_none e hD)]
      exact sm3 _ _ e
    · by_cases c : [z.1, z.2] ∈ L.map (·.2)
      · rw [c1 c]
        exact nd
      · have := (c2 c).map (·.2)
        exact this.nodup_iff.mpr (List.nodup_cons.mpr ⟨c, nd⟩)
    · by_cases c : [z.1, z.2] ∈ L.map (·.2)
      · rw [c1 c] at hp
        have hpD : p.1 ≠ D := fun z => by
          have := (hL p hp).1
          rw [z, hS] at this
          cases this
        obtain ⟨z', hz', e'⟩ := (hL p hp).2
        exact ⟨by rw [upd_ne hpD]; exact s3 _ _ (hL p hp).1, z', by rw [tk]; exact List.mem_append.mpr (.inl hz'), e'⟩
      · rcases List.mem_cons.mp ((c2 c).mem_iff.mp hp) with e' | hp
        · rw [e']
          exact ⟨by rw [upd_ne htD]; exact h3, z, by rw [tk]; exact List.mem_append.mpr (.inr (.head _)), rfl⟩
        · have hpD : p.1 ≠ D := fun z => by
            have := (hL p hp).1
            rw [z, hS] at this
            cases this
          obtain ⟨z', hz', e'⟩ := (hL p hp).2
          exact ⟨by rw [upd_ne hpD]; exact s3 _ _ (hL p hp).1, z', by rw [tk]; exact List.mem_append.mpr (.inl hz'), e'⟩
    · have old : z' ∈ zs.take i → [z'.1, z'.2] ∈ L'.map (·.2) := fun h => by
        by_cases c : [z.1, z.2] ∈ L.map (·.2)
        · rw [c1 c]
          exact hz z' h
        · exact ((c2 c).map (·.2)).mem_iff.mpr (.tail _ (hz z' h))
      rw [tk] at hz'
      rcases List.mem_append.mp hz' with h | h
      · exact old h
      · rw [List.mem_singleton.mp h]
        by_cases c : [z.1, z.2] ∈ L.map (·.2)
        · rw [c1 c]
          exact c
        · exact ((c2 c).map (·.2)).mem_iff.mpr (.head _)
  · have e : i = xs.length := by omega
    subst e
    rw [show zs.take xs.length = zs by rw [← hlen, List.take_length]] at hL hz
    exact .inl ⟨⟨_, .inl (.inl ha), by simp⟩, q D H' L hD sm hS nd hL hz⟩
/-- by the first number, then by the second -/
def plt (a b : Int × Int) : Prop := a.1 < b.1 ∨ (a.1 = b.1 ∧ a.2 < b.2)
def atH (H : Hp) (t : Addr) : Int × Int := match H t with
  | some (.tup [.int a, .int b]) => (a, b)
  | _ => (0, 0)
theorem atH_of {t : Addr} {a b : Int} (h : H t = some (.tup [.int a, .int b])) : atH H t = (a, b) := by
  unfold atH
  rw [h]
theorem z_sortedPr {a : Addr} {L : List (Addr × List Int)} {zs : List (Int × Int)} (h : H a = some (SetTO P w a L)) (hL : ∀ p ∈ L, H p.1 = some (.tup (p.2.map V.int)) ∧ ∃ z ∈ zs, p.2 = [z.1, z.2]) (hz : ∀ z ∈ zs, [z.1, z.2] ∈ L.map (·.2))
    (q : ∀ (ts : List Addr) (us : List (Int × Int)) (p : Addr) (H' : Hp), ts.length = us.length → (∀ (i : Nat) (t : Addr) (u : Int × Int), ts[i]? = some t → us[i]? = some u → H' t = some (.tup [.int u.1, .int u.2])) → us.Pairwise plt → (∀ z, z ∈ us ↔ z ∈ zs) → us.length ≤ L.length → H p = none → Same H H' → H' p = some (.lst (ts.map V.ref)) → Q (.ref p) H') :
    rSortedP2 K P w [.ref a] H Q := by
  have key : ∀ p ∈ L, p.2 = [(atH H p.1).1, (atH H p.1).2] := fun p hp => by
    obtain ⟨h1, z, _, e⟩ := hL p hp
    rw [e] at h1 ⊢
    rw [atH_of h1]
  refine ⟨a, L, atH H, rfl, h, fun p hp => ⟨.inl (.inl ?_), key p hp⟩, fun ts p pm pw nd hp => ?_⟩
  · have := (hL p hp).1
    rw [key p hp] at this
    exact this
  have mem : ∀ t ∈ ts, ∃ r ∈ L, r.1 = t := fun t ht => List.mem_map.mp (pm.mem_iff.mp ht)
  have ndt : (ts.map (atH H)).Nodup := by
    have e1 : (L.map (·.1)).map (fun t => [(atH H t).1, (atH H t).2]) = L.map (·.2) := by
      rw [List.map_map]
      exact List.map_congr_left fun r hr => (key r hr).symm
    have e2 : (ts.map fun t => [(atH H t).1, (atH H t).2]).Nodup := (pm.map _).nodup_iff.mpr (by rw [e1]; exact nd)
    have e3 : (ts.map (atH H)).Pairwise fun u v => u ≠ v := by
      rw [List.pairwise_map]
      refine (List.pairwise_map.mp e2).imp fun hne e => hne ?_
      rw [e]
    exact e3
  refine q ts (ts.map (atH H)) p _ (by rw [List.length_map]) (fun i t u ht hu => ?_) ?_ (fun z => ?_) (by rw [List.length_map, pm.length_eq, List.length_map]; exact Nat.le_refl _) hp (same_upd hp) upd_same
  · rw [List.getElem?_map, ht] at hu
    cases hu
    obtain ⟨r, hr, rfl⟩ := mem t (List.mem_of_getElem? ht)
    have h1 := (hL r hr).1
    rw [key r hr] at h1
    rw [upd_ne (ne_of_none h1 hp)]
    exact h1
  · rw [List.pairwise_map]
    have ndt' := List.pairwise_map.mp ndt
    refine (pw.and ndt').imp fun {t u} ⟨h1, h2⟩ => ?_
    unfold plt
    have h3 : ¬ ((atH H t).1 = (atH H u).1 ∧ (atH H t).2 = (atH H u).2) := fun e => h2 (Prod.ext e.1 e.2)
    omega
  · constructor
    · intro hz'
      obtain ⟨t, ht, rfl⟩ := List.mem_map.mp hz'
      obtain ⟨r, hr, rfl⟩ := mem t ht
      obtain ⟨_, z', hz2, e⟩ := hL r hr
      rw [key r hr] at e
      have e1 : (atH H r.1).1 = z'.1 := by injection e
      have e2 : (atH H r.1).2 = z'.2 := by
        injection e with _ e
        injection e
      rw [show atH H r.1 = z' from Prod.ext e1 e2]
      exact hz2
    · intro hz'
      obtain ⟨r, hr, e⟩ := List.mem_map.mp (hz z hz')
      rw [key r hr] at e
      have e1 : (atH H r.1).1 = z.1 := by injection e
      have e2 : (atH H r.1).2 = z.2 := by
        injection e with _ e
        injection e
      exact List.mem_map.mpr ⟨r.1, pm.mem_iff.mpr (List.mem_map.mpr ⟨r, hr, rfl⟩), Prod.ext e1 e2⟩
end
end Sc

/-! tuples of whole numbers: >, and < > of pairs; in, not in, of data -/
namespace Z
open PySem PySem.Spec PyProof PyProof.Rows L2
theorem room65 {k : Nat} {A : _root_.PySem.Around} (r : L2.Room k A) : A.units + 65 < cLine := by have := r.un; omega
def rGtT (K : PySem.W.Frag) : R2 := fun x y H Q => ∃ (a b : Addr) (ns ms : List Int), x = .ref a ∧ y = .ref b ∧ SqT K H a (ns.map V.int) ∧ SqT K H b (ms.map V.int) ∧
  Q (.bl (Ob.lexAt (fun j => decide (ns.getD j 0 = ms.getD j 0)) (fun j => decide (ms.getD j 0 < ns.getD j 0)) (decide (ms.length < ns.length)) 0 (min ns.length ms.length))) H
theorem op_gtT {X : Cx} (hu : X.A.units < cLine) : OpR X (compareOp .Gt) (rGtT X.K) := by
  intro pins s σ H x y v u Q I rx ry h
  obtain ⟨a, b, ns, ms, rfl, rfl, ha, hb, q⟩ := h
  cases rx
  cases ry
  obtain ⟨its, r1, p1, _⟩ := I.tuple ha
  obtain ⟨its2, r2, p2, _⟩ := I.tuple hb
  have i1 : IntsAre its ns := Vals.ints r1
  have i2 : IntsAre its2 ms := Vals.ints r2
  have e1 : its.toArray.size = ns.length := by rw [List.size_toArray]; exact i1.length
  have e2 : its2.toArray.size = ms.length := by rw [List.size_toArray]; exact i2.length
  have at1 : ∀ j (h1 : j < its.toArray.size), ∃ t, its.toArray[j] = .int (ns.getD j 0) t := fun j h1 => PyProof.Rows.IntsAre.int_at i1 _ _ (by simp at h1; simp [h1])
  have at2 : ∀ j (h1 : j < its2.toArray.size), ∃ t, its2.toArray[j] = .int (ms.getD j 0) t := fun j h1 => PyProof.Rows.IntsAre.int_at i2 _ _ (by simp at h1; simp [h1])
  have R := Ob.RcOp.tuples_gt (A := X.A) (s := s) (e := fun j => decide (ns.getD j 0 = ms.getD j 0)) (r := fun j => decide (ms.getD j 0 < ns.getD j 0)) p1 p2 hu (fun j h1 h2 => by
    obtain ⟨t, et⟩ := at1 j h1
    obtain ⟨t', et'⟩ := at2 j h2
    rw [et, et']
    have z : (ns.getD j 0 == ms.getD j 0) = decide (ns.getD j 0 = ms.getD j 0) := by
      by_cases q : ns.getD j 0 = ms.getD j 0
      · rw [decide_eq_true q]; exact beq_iff_eq.mpr q
      · rw [decide_eq_false q]; exact beq_eq_false_iff_ne.mpr q
    rw [← z]
    exact SeqAt.EqAt.int_int _ _ _ _) (fun j h1 h2 _ => by
    obtain ⟨t, et⟩ := at1 j h1
    obtain ⟨t', et'⟩ := at2 j h2
    rw [et, et']
    exact Ob.RcOp.gt_int _ _ _ _)
  rw [e1, e2] at R
  have z : wpAny (model X.prog X.w) X.A (compareOp .Gt (.ref a) (.ref b)) (EP X pins σ Q) X.xe s := R X.prog X.w X.xe (EP X pins σ Q) ⟨.bl _, H, I, rfl, q⟩
  exact z
section
variable {K : PySem.W.Frag} {H : Hp} {Q : VK} {p q : Addr} {a b c d : Int}
theorem z_ltP (h1 : H p = some (.tup [.int a, .int b])) (h2 : H q = some (.tup [.int c, .int d])) (k : Q (.bl (decide (a < c ∨ (a = c ∧ b < d)))) H) : rLtT K (.ref p) (.ref q) H Q := by
  refine ⟨p, q, [a, b], [c, d], rfl, rfl, .inl (.inl h1), .inl (.inl h2), ?_⟩
  have e : HT.lexLt [a, b] [c, d] = decide (a < c ∨ (a = c ∧ b < d)) := by
    unfold HT.lexLt
    by_cases h : a = c
    · subst h
      rw [if_pos rfl]
      unfold HT.lexLt
      by_cases h : b = d
      · subst h
        rw [if_pos rfl]
        unfold HT.lexLt
        simp
      · rw [if_neg h]
        simp
    · rw [if_neg h]
      simp [h]
  rw [e]
  exact k
theorem z_gtP (h1 : H p = some (.tup [.int a, .int b])) (h2 : H q = some (.tup [.int c, .int d])) (k : Q (.bl (decide (c < a ∨ (c = a ∧ d < b)))) H) : rGtT K (.ref p) (.ref q) H Q := by
  refine ⟨p, q, [a, b], [c, d], rfl, rfl, .inl (.inl h1), .inl (.inl h2), ?_⟩
  have e : Ob.lexAt (fun j => decide ([a, b].getD j 0 = [c, d].getD j 0)) (fun j => decide ([c, d].getD j 0 < [a, b].getD j 0)) (decide ([c, d].length < [a, b].length)) 0 (min [a, b].length [c, d].length) = decide (c < a ∨ (c = a ∧ d < b)) := by
    show Ob.lexAt _ _ _ 0 2 = _
    rw [Ob.lexAt_succ, Ob.lexAt_succ, Ob.lexAt_zero]
    show (if decide (a = c) = true then (if decide (b = d) = true then decide ((2 : Nat) < 2) else decide (d < b)) else decide (c < a)) = _
    by_cases h : a = c
    · subst h
      by_cases h : b = d
      · subst h
        simp
      · simp [h]
    · have h' : ¬ c = a := fun z => h z.symm
      simp [h, h']
  rw [e]
  exact k
end
def rInsert : V → List V → Hp → VK → Prop := fun x vs H Q => ∃ (l : Addr) (xs : List V) (i : Int) (y : V), x = .ref l ∧ vs = [.int i, y] ∧ H l = some (.lst xs) ∧ xs.length < sizeLine ∧ 0 ≤ i ∧ i < 2 ^ 63 ∧
    Q .non (upd H l (.lst (xs.take i.toNat ++ [y] ++ xs.drop i.toNat)))
theorem mt_insertN {X : Cx} : MtR X "list.insert" rInsert := mt_insert
section
variable {K : PySem.W.Frag} {σ : L2.St} {H : Hp} {Q : VK} {p : Addr} {xs : List V} {y : V} {n : L2.St → Hp → Prop} {r : VK} {b c : L2.St → Hp → Prop} {tb : TS}
theorem z_insert {i : Nat} (hp : H p = some (.lst xs)) (hl : xs.length < 1000) (hi : i < 1000) (q : Q .non (upd H p (.lst (xs.take i ++ [y] ++ xs.drop i)))) : rInsert (.ref p) [.int (i : Int), y] H Q :=
  ⟨p, xs, (i : Int), y, rfl, rfl, hp, Nat.lt_of_lt_of_le hl (by decide), by omega, by omega, by rw [Int.toNat_natCast]; exact q⟩
def ForR (g : TG) (tb : TS) (n : L2.St → Hp → Prop) (r : VK) (b c : L2.St → Hp → Prop) (σ : L2.St) : List V → Hp → Prop := fun xs H1 => tFor (iRng1 fun _ H R => R xs H) g tb ⟨n, r, b, c⟩ σ H1
theorem z_forRE {ta : TA} {g : TG} (h : ta σ H (ForR g tb n r b c σ)) : tFor (iRng1 ta) g tb ⟨n, r, b, c⟩ σ H := h
theorem z_forRr {k : Nat} (m : Nat) (hm : m < 2 ^ 62) (Pv : Nat → L2.St → Hp → Prop) (h0 : Pv 0 σ H)
    (hs : ∀ i σ H, i < m → Pv i σ H → tb ⟨Pv (i + 1), r, n, Pv (i + 1)⟩ (σ.set k (some (.int (i : Int)))) H) (hd : ∀ σ H, Pv m σ H → n σ H) : ForR (gName k) tb n r b c σ [.int (m : Int)] H :=
  z_forR1 m hm (fun R q => q) Pv h0 hs hd
end
end Z

namespace Cw
open PySem PySem.Spec PyProof.Rows L2 Z
/-- o.m(e, .., k = v, ..) -/
def tMethN (C : Addr) (mn : Str) (n m : Nat) (sp : Sp) (gV : List V → List V → List V) (E : XK) (ta : TE) (t tk : TA) : TE := fun σ H Q => ta σ H fun x H1 => ∃ a dx fs, x = .ref a ∧ H1 a = some (.ins C dx fs) ∧ fs.lookup mn = none ∧
  t σ H1 fun vs H2 => tk σ H2 fun zs H3 => vs.length = n ∧ zs.length = m ∧ sp (gV (x :: vs) zs) H3 Q E
section
variable {X : Cx} {CX : CXT} {k n : Nat} {f C : Addr} {fd : FuncData} {ps ks : List Str} {sp : Sp} {E : XK} {m : Str} {apos pos : Pos} {o e : Expr} {es : List Expr} {kws : List Keyword} {ta : TE} {t tk : TA} {g : List Value → List Value → List Value} {gV : List V → List V → List V}
theorem pe_methN {pl : Sem Bool} (he : PE X o ta) (c : Cls X.K C) (hm : Meth X.K C m f) (F : FnOk X.prog X.w X.K X.mg X.base CX k f fd ps sp) (hr : Room k X.A) (hb : KBn X.K fd ps (n + 1) ks g gV) (hx : Passes CX X E) (ha : PA X (e :: es) t) (hkw : PK X kws tk)
    (hall : (backToKw pos (keywordEach kws X.env)).all (·.1.isSome) = true := by rfl) (hks : (backToKw pos (keywordEach kws X.env)).filterMap (·.1) = ks := by rfl)
    (hst : starEach (e :: es) X.env = (false, eval e X.env) :: starEach es X.env := by rfl)
    (hpl : ((backTo pos (starEach (e :: es) X.env)).any (·.1) || (backToKw pos (keywordEach kws X.env)).any (·.1.isNone)) = false := by rfl)
    (ht : eval (.Call (.Attribute o m apos) (e :: es) kws pos) X.env = (do
      let ov ← eval o X.env
      standAt apos.atName
      let (f, first) ← holding [ov] (getMethod ov m pl)
      callWith pos f first (backTo pos (starEach (e :: es) X.env)) (backToKw pos (keywordEach kws X.env))) := by rfl) :
    PE X (.Call (.Attribute o m apos) (e :: es) kws pos) (tMethN C m n ks.length sp gV E ta t tk) := by
  refine ⟨fun pins s σ H Q I h => ?_⟩
  refine PySem.W.methodCall_KW (pl := pl) (thn (he.run pins s σ H _ I h) fun u s1 ⟨x, H1, I1, rx, a, dx, fs, ex, ea, l, q⟩ => ?_) ht
  subst ex
  obtain rfl : u = Value.ref a := rx
  refine getmeth_ok I1 ea c hm l ?_
  refine PySem.W.callWith_KW (first := [.ref a]) (h₀ := X.base) I.ok.mod.kin hm.kp hall (thn (ha.run pos pins s1 σ H1 _ I1 q) fun us s2 ⟨vs, H2, I2, r, q2⟩ => ?_) hpl hst
  refine thn (hkw.run pos pins s2 σ H2 _ I2 q2) fun ws s3 ⟨zs, H3, I3, rz, l1, l2, q3⟩ => ⟨I3.kIn, ?_⟩
  rw [hks]
  exact run_fnN (us := .ref a :: us) (vs := .ref a :: vs) F hr hb hx I3 (.cons rfl r) rz (by rw [List.length_cons, l1]) l2 q3
end
/-! methods whose errors are wished for at the slots (in a try) -/
def tMethS (C : Addr) (m : Str) (sp : Sp) (dvs : List V) (E : L2.St → XK) (ta : TE) (t : TA) : TE := fun σ H Q => ta σ H fun x H1 => ∃ a dx fs, x = .ref a ∧ H1 a = some (.ins C dx fs) ∧ fs.lookup m = none ∧ t σ H1 fun vs H2 => sp (x :: (vs ++ dvs)) H2 Q (E σ)
def tMethNS (C : Addr) (mn : Str) (n m : Nat) (sp : Sp) (gV : List V → List V → List V) (E : L2.St → XK) (ta : TE) (t tk : TA) : TE := fun σ H Q => ta σ H fun x H1 => ∃ a dx fs, x = .ref a ∧ H1 a = some (.ins C dx fs) ∧ fs.lookup mn = none ∧
  t σ H1 fun vs H2 => tk σ H2 fun zs H3 => vs.length = n ∧ zs.length = m ∧ sp (gV (x :: vs) zs) H3 Q (E σ)
section
variable {X : Cx} {CX : CXT} {k n : Nat} {f C : Addr} {fd : FuncData} {ps ks : List Str} {sp : Sp} {E : L2.St → XK} {m : Str} {apos pos : Pos} {o e : Expr} {es : List Expr} {kws : List Keyword} {ta : TE} {t tk : TA} {dvs : List V} {ds : List Value} {g : List Value → List Value → List Value} {gV : List V → List V → List V}
theorem pe_methS {pl : Sem Bool} (he : PE X o ta) (c : Cls X.K C) (hm : Meth X.K C m f) (F : FnOk X.prog X.w X.K X.mg X.base CX k f fd ps sp) (hr : Room k X.A) (hb : Binds X.K fd ps ds) (hd : Vals dvs ds) (hx : ∀ σ, PassesAt CX X σ (E σ)) (ha : PA X (e :: es) t)
    (hst : starEach (e :: es) X.env = (false, eval e X.env) :: starEach es X.env := by rfl) (hpl : (backTo pos (starEach es X.env)).any (·.1) = false := by rfl)
    (ht : eval (.Call (.Attribute o m apos) (e :: es) [] pos) X.env = (do
      let ov ← eval o X.env
      standAt apos.atName
      let (f, first) ← holding [ov] (getMethod ov m pl)
      callWith pos f first (backTo pos (starEach (e :: es) X.env)) (backToKw pos (keywordEach [] X.env))) := by rfl) :
    PE X (.Call (.Attribute o m apos) (e :: es) [] pos) (tMethS C m sp dvs E ta t) := by
  refine ⟨fun pins s σ H Q I h => ?_⟩
  refine PySem.W.methodCall_KW (pl := pl) (thn (he.run pins s σ H _ I h) fun u s1 ⟨x, H1, I1, rx, a, dx, fs, ex, ea, l, q⟩ => ?_) ht
  subst ex
  obtain rfl : u = Value.ref a := rx
  refine getmeth_ok I1 ea c hm l ?_
  refine PySem.W.callWith_K (first := [.ref a]) (h₀ := X.base) I.ok.mod.kin hm.kp (thn (ha.run pos pins s1 σ H1 _ I1 q) fun us s2 ⟨vs, H2, I2, r, q2⟩ => ⟨I2.kIn, ?_⟩) hst hpl
  exact run_fnSD (us := .ref a :: us) (vs := .ref a :: vs) F hr hb hd (hx σ) I2 (.cons rfl r) q2
theorem pe_meth0S {pl : Sem Bool} (he : PE X o ta) (c : Cls X.K C) (hm : Meth X.K C m f) (F : FnOk X.prog X.w X.K X.mg X.base CX k f fd ps sp) (hr : Room k X.A) (hb : Binds X.K fd ps ds) (hd : Vals dvs ds) (hx : ∀ σ, PassesAt CX X σ (E σ))
    (ht : eval (.Call (.Attribute o m apos) [] [] pos) X.env = (do
      let ov ← eval o X.env
      standAt apos.atName
      let (f, first) ← holding [ov] (getMethod ov m pl)
      callWith pos f first (backTo pos (starEach [] X.env)) (backToKw pos (keywordEach [] X.env))) := by rfl) :
    PE X (.Call (.Attribute o m apos) [] [] pos) (tMethS C m sp dvs E ta tNil) := by
  refine ⟨fun pins s σ H Q I h => ?_⟩
  refine PySem.W.methodCall_KW (pl := pl) (thn (he.run pins s σ H _ I h) fun u s1 ⟨x, H1, I1, rx, a, dx, fs, ex, ea, l, q⟩ => ?_) ht
  subst ex
  obtain rfl : u = Value.ref a := rx
  refine getmeth_ok I1 ea c hm l ?_
  exact PySem.W.callWith_K0 (first := [.ref a]) I1.kIn hm.kp (run_fnSD (us := [.ref a]) (vs := [.ref a]) F hr hb hd (hx σ) I1 (.cons rfl .nil) q)
theorem run_fnNS {pins : List (Addr × Obj)} {σ : L2.St} {H : Hp} {s : Shared} {Q : VK} {us ws : List Value} {vs zs : List V} (F : FnOk X.prog X.w X.K X.mg X.base CX k f fd ps sp) (hr : Room k X.A) (hb : KBn X.K fd ps n ks g gV) (hx : PassesAt CX X σ (E σ))
    (I : Inv X pins σ H s) (r : Vals vs us) (rz : Vals zs ws) (l1 : vs.length = n) (l2 : zs.length = ks.length) (h : sp (gV vs zs) H Q (E σ)) : wpAny (model X.prog X.w) X.A (call (.ref f) us (ks.zip ws)) (EP X pins σ Q) X.xe s := by
  have r2 := hb.rel r rz
  refine wpAny_call (codeAny_mono (F.run X.A X.stack s H ⟨us, ks.zip ws⟩ (g us ws) (gV vs zs) Q (E σ) hr I.env0 (hb.to s us ws I.kIn (r.length.symm.trans l1) (rz.length.symm.trans l2)) r2 h) fun r s' hq => ?_)
  cases r with
  | error e => exact hx pins H s e s' I hq
  | ok fl =>
    cases fl with
    | ret u => exact I.after hq
    | next => exact False.elim hq
    | brk => exact False.elim hq
    | cont => exact False.elim hq
theorem pe_methNS {pl : Sem Bool} (he : PE X o ta) (c : Cls X.K C) (hm : Meth X.K C m f) (F : FnOk X.prog X.w X.K X.mg X.base CX k f fd ps sp) (hr : Room k X.A) (hb : KBn X.K fd ps (n + 1) ks g gV) (hx : ∀ σ, PassesAt CX X σ (E σ)) (ha : PA X (e :: es) t) (hkw : PK X kws tk)
    (hall : (backToKw pos (keywordEach kws X.env)).all (·.1.isSome) = true := by rfl) (hks : (backToKw pos (keywordEach kws X.env)).filterMap (·.1) = ks := by rfl)
    (hst : starEach (e :: es) X.env = (false, eval e X.env) :: starEach es X.env := by rfl)
    (hpl : ((backTo pos (starEach (e :: es) X.env)).any (·.1) || (backToKw pos (keywordEach kws X.env)).any (·.1.isNone)) = false := by rfl)
    (ht : eval (.Call (.Attribute o m apos) (e :: es) kws pos) X.env = (do
      let ov ← eval o X.env
      standAt apos.atName
      let (f, first) ← holding [ov] (getMethod ov m pl)
      callWith pos f first (backTo pos (starEach (e :: es) X.env)) (backToKw pos (keywordEach kws X.env))) := by rfl) :
    PE X (.Call (.Attribute o m apos) (e :: es) kws pos) (tMethNS C m n ks.length sp gV E ta t tk) := by
  refine ⟨fun pins s σ H Q I h => ?_⟩
  refine PySem.W.methodCall_KW (pl := pl) (thn (he.run pins s σ H _ I h) fun u s1 ⟨x, H1, I1, rx, a, dx, fs, ex, ea, l, q⟩ => ?_) ht
  subst ex
  obtain rfl : u = Value.ref a := rx
  refine getmeth_ok I1 ea c hm l ?_
  refine PySem.W.callWith_KW (first := [.ref a]) (h₀ := X.base) I.ok.mod.kin hm.kp hall (thn (ha.run pos pins s1 σ H1 _ I1 q) fun us s2 ⟨vs, H2, I2, r, q2⟩ => ?_) hpl hst
  refine thn (hkw.run pos pins s2 σ H2 _ I2 q2) fun ws s3 ⟨zs, H3, I3, rz, l1, l2, q3⟩ => ⟨I3.kIn, ?_⟩
  rw [hks]
  exact run_fnNS (us := .ref a :: us) (vs := .ref a :: vs) F hr hb (hx σ) I3 (.cons rfl r) rz (by rw [List.length_cons, l1]) l2 q3
end
/-! the readings -/
section
variable {K : PySem.W.Frag} {H : Hp} {Q : VK} {σ : L2.St} {a C dx : Addr} {fs : List (Str × V)} {f m : Str} {v : V} {ta tv : TE} {t tk : TA} {n : L2.St → Hp → Prop} {r : VK} {b c : L2.St → Hp → Prop} {sp : Sp} {dvs : List V} {E : XK} {gV : List V → List V → List V}
def QFld (K : PySem.W.Frag) (f : Str) (Q : VK) : VK := fun x H1 => ∃ a C dx fs v, x = .ref a ∧ H1 a = some (.ins C dx fs) ∧ Cls K C ∧ NoAttr K C f ∧ fs.lookup f = some v ∧ Q v H1
theorem z_fldE (h : ta σ H (QFld K f Q)) : tFld K ta f σ H Q := h
theorem z_fld (e : H a = some (.ins C dx fs)) (c : Cls K C) (no : NoAttr K C f) (l : fs.lookup f = some v) (q : Q v H) : QFld K f Q (.ref a) H := ⟨a, C, dx, fs, v, rfl, e, c, no, l, q⟩
def QSet (K : PySem.W.Frag) (f : Str) (y : V) (n : Hp → Prop) : VK := fun x H2 => ∃ a C dx fs, x = .ref a ∧ H2 a = some (.ins C dx fs) ∧ Cls K C ∧ NoAttr K C f ∧ fs.length < 1000 ∧ n (upd H2 a (.ins C dx (putF f y fs)))
theorem z_sfldE (h : tv σ H fun y H1 => ta σ H1 (QSet K f y (n σ))) : sFld K ta tv f ⟨n, r, b, c⟩ σ H := h
theorem z_sfld {n : Hp → Prop} (e : H a = some (.ins C dx fs)) (c : Cls K C) (no : NoAttr K C f) (l : fs.length < 1000) (q : n (upd H a (.ins C dx (putF f v fs)))) : QSet K f v n (.ref a) H := ⟨a, C, dx, fs, rfl, e, c, no, l, q⟩
def QMeth (C : Addr) (m : Str) (σ : L2.St) (t : TA) (sp : List V → Hp → Prop) : VK := fun x H1 => ∃ a dx fs, x = .ref a ∧ H1 a = some (.ins C dx fs) ∧ fs.lookup m = none ∧ t σ H1 fun vs H2 => sp (x :: vs) H2
theorem z_methSE {E : L2.St → XK} (h : ta σ H (QMeth C m σ t fun vs H2 => sp (vs ++ dvs) H2 Q (E σ))) : tMethS C m sp dvs E ta t σ H Q := h
theorem z_methE (h : ta σ H (QMeth C m σ t fun vs H2 => sp (vs ++ dvs) H2 Q E)) : tMeth C m sp dvs E ta t σ H Q := h
theorem z_meth {sp : List V → Hp → Prop} (e : H a = some (.ins C dx fs)) (l : fs.lookup m = none) (q : t σ H fun vs H2 => sp (.ref a :: vs) H2) : QMeth C m σ t sp (.ref a) H := ⟨a, dx, fs, rfl, e, l, q⟩
def QMethN (C : Addr) (mn : Str) (k j : Nat) (sp : Sp) (gV : List V → List V → List V) (E : XK) (σ : L2.St) (t tk : TA) (Q : VK) : VK := fun x H1 => ∃ a dx fs, x = .ref a ∧ H1 a = some (.ins C dx fs) ∧ fs.lookup mn = none ∧
  t σ H1 fun vs H2 => tk σ H2 fun zs H3 => vs.length = k ∧ zs.length = j ∧ sp (gV (x :: vs) zs) H3 Q E
theorem z_methNE {k j : Nat} (h : ta σ H (QMethN C m k j sp gV E σ t tk Q)) : tMethN C m k j sp gV E ta t tk σ H Q := h
theorem z_methNSE {k j : Nat} {E : L2.St → XK} (h : ta σ H (QMethN C m k j sp gV (E σ) σ t tk Q)) : tMethNS C m k j sp gV E ta t tk σ H Q := h
theorem z_methN {k j : Nat} (e : H a = some (.ins C dx fs)) (l : fs.lookup m = none) (q : t σ H fun vs H2 => tk σ H2 fun zs H3 => vs.length = k ∧ zs.length = j ∧ sp (gV (.ref a :: vs) zs) H3 Q E) : QMethN C m k j sp gV E σ t tk Q (.ref a) H := ⟨a, dx, fs, rfl, e, l, q⟩
theorem z_lens {xs ys : List V} {k j : Nat} {P : Prop} (h1 : xs.length = k) (h2 : ys.length = j) (q : P) : xs.length = k ∧ ys.length = j ∧ P := ⟨h1, h2, q⟩
theorem z_make (h : t σ H fun vs H1 => ∀ x dx, H1 x = none → H1 dx = none → dx ≠ x → sp (.ref x :: (vs ++ dvs)) (upd (upd H1 dx (.own x)) x (.ins C dx [])) (fun v H2 => v = .non ∧ Q (.ref x) H2) E) : tMake C sp dvs E t σ H Q := h
end
/-! for and comprehensions over any walk -/
section
variable {K : PySem.W.Frag} {H : Hp} {Q : VK} {σ : L2.St} {wi : TI} {J : It} {m : Nat} {G : Hp → Prop} {Y : Nat → Hp → V → Hp → Prop} {g : TG} {tb : TS} {te : TE} {n : L2.St → Hp → Prop} {r : VK} {b c : L2.St → Hp → Prop} {vs : List Nat}
theorem z_forW (w : Walk J m G Y) (hi : ∀ R : It → Hp → Prop, R J H → wi σ H R) (Pv : Nat → L2.St → Hp → Prop) (h0 : Pv 0 σ H) (hG : ∀ i σ H, i ≤ m → Pv i σ H → G H)
    (hs : ∀ i x σ H H', i < m → Pv i σ H → Y i H x H' → g x σ H' fun σ2 H2 => tb ⟨Pv (i + 1), r, n, Pv (i + 1)⟩ σ2 H2) (hd : ∀ σ H, Pv m σ H → n σ H) : tFor wi g tb ⟨n, r, b, c⟩ σ H :=
  hi _ (for_it w Pv h0 hG hs hd)
theorem z_lcW (w : Walk J m G Y) (hi : ∀ R : It → Hp → Prop, R J H → wi σ H R) (Pv : Nat → Addr → List V → Hp → Prop)
    (h0 : ∀ D H', H D = none → Same H H' → H' D = some (.lst []) → Pv 0 D [] H') (hG : ∀ i D acc H', Pv i D acc H' → G H')
    (hs : ∀ i x D acc H' H2, i < m → acc.length = i → H' D = some (.lst acc) → Pv i D acc H' → Y i H' x H2 → g x (wipe σ vs) H2 fun σ2 H3 => wipe σ2 vs = wipe σ vs ∧ te σ2 H3 (LcN D i Pv))
    (hd : ∀ D acc H', H D = none → acc.length = m → H' D = some (.lst acc) → Pv m D acc H' → Q (.ref D) H') : tLc wi g tYes te vs σ H Q := by
  refine hi _ fun D hD => ?_
  refine lc_it w (fun i H' => ∃ acc, acc.length = i ∧ H' D = some (.lst acc) ∧ Pv i D acc H') ⟨[], rfl, upd_same, h0 D _ hD (same_upd hD) upd_same⟩ (fun i H' _ ⟨acc, _, _, pv⟩ => hG _ _ _ _ pv) (fun i x H' H2 hi' ⟨acc, hl, hH, pv⟩ y => ?_) (fun H' ⟨acc, hl, hH, pv⟩ => hd D acc H' hD hl hH pv)
  have h := hs i x D acc H' H2 hi' hl hH pv y
  have e : (fun σ2 H2 => wipe σ2 vs = wipe σ vs ∧ te σ2 H2 (LcN D i Pv)) = (fun (σ2 : L2.St) (H2 : Hp) => wipe σ2 vs = wipe σ vs ∧ tYes σ2 H2 fun b H3 => if b = true then te σ2 H3 (LcN D i Pv) else ∃ acc', acc'.length = i + 1 ∧ H3 D = some (.lst acc') ∧ Pv (i + 1) D acc' H3) := by
    funext σ2 H2
    show _ = (wipe σ2 vs = wipe σ vs ∧ if true = true then te σ2 H2 (LcN D i Pv) else ∃ acc', acc'.length = i + 1 ∧ H2 D = some (.lst acc') ∧ Pv (i + 1) D acc' H2)
    rw [if_pos rfl]
  rw [e] at h
  exact h
/-- [e for x in ..]: the values ws -/
theorem z_valsW {ws : List V} (w : Walk J m G Y) (hm : m ≤ 1000) (hi : ∀ R : It → Hp → Prop, R J H → wi σ H R) (hG : ∀ H', Same H H' → G H') (hl : ws.length = m)
    (hs : ∀ i x v H' H2 (R : VK), ws[i]? = some v → i < m → Same H H' → Y i H' x H2 → (∀ H3, Same H' H3 → R v H3) → g x (wipe σ vs) H2 fun σ2 H3 => wipe σ2 vs = wipe σ vs ∧ te σ2 H3 R)
    (hd : ∀ D H', H D = none → Same H H' → H' D = some (.lst ws) → Q (.ref D) H') : tLc wi g tYes te vs σ H Q := by
  refine z_lcW w hi (fun i D acc H' => Same H H' ∧ H D = none ∧ acc = ws.take i) (fun D H' f s _ => ⟨s, f, rfl⟩) (fun i D acc H' h => hG _ h.1) (fun i x D acc H' H2 hi' hl' hD ⟨s', fD, ea⟩ y => ?_) (fun D acc H' fD hl' hD ⟨s', _, ea⟩ => ?_)
  · have hw : ws[i]? = some ws[i] := List.getElem?_eq_getElem (by omega)
    refine hs i x ws[i] H' H2 _ hw hi' s' y fun H3 s3 => ?_
    refine z_lcB (s3 _ _ hD) hl' (by omega) fun H5 hD5 k5 e5 => ⟨fun b o h => ?_, fD, ?_⟩
    · rw [e5 b (ne_of_none h fD)]
      exact s3 _ _ (s' _ _ h)
    · subst ea
      rw [List.take_add_one, hw]
      rfl
  · refine hd D H' fD s' ?_
    rw [hD, ea, ← hl, List.take_length]
/-- [e for x in ..]: a new object each time -/
theorem z_objsW {ob : Nat → HO} (w : Walk J m G Y) (hm : m ≤ 1000) (hi : ∀ R : It → Hp → Prop, R J H → wi σ H R) (hG : ∀ H', Same H H' → G H')
    (hs : ∀ i x H' H2 (R : VK), i < m → Same H H' → Y i H' x H2 → (∀ a H3, H' a = none → Same H' H3 → H3 a = some (ob i) → R (.ref a) H3) → g x (wipe σ vs) H2 fun σ2 H3 => wipe σ2 vs = wipe σ vs ∧ te σ2 H3 R)
    (hd : ∀ (D : Addr) (H' : Hp) (as : List Addr), H D = none → Same H H' → H' D = some (.lst (as.map V.ref)) → as.length = m → as.Nodup → D ∉ as → (∀ i a, as[i]? = some a → H a = none ∧ H' a = some (ob i)) → Q (.ref D) H') : tLc wi g tYes te vs σ H Q := by
  refine z_lcW w hi (fun i D acc H' => Same H H' ∧ H D = none ∧ ∃ as : List Addr, acc = as.map V.ref ∧ as.Nodup ∧ D ∉ as ∧ ∀ i a, as[i]? = some a → H a = none ∧ H' a = some (ob i)) (fun D H' f s _ => ⟨s, f, [], rfl, List.nodup_nil, List.not_mem_nil, fun i a h => (by simp at h)⟩) (fun i D acc H' h => hG _ h.1) (fun i x D acc H' H2 hi' hl' hD ⟨s', fD, as, ea, nd, nD, hv⟩ y => ?_) (fun D acc H' fD hl' hD ⟨s', _, as, ea, nd, nD, hv⟩ => ?_)
  · have la : as.length = i := by
      have := congrArg List.length ea
      rw [List.length_map, hl'] at this
      exact this.symm
    refine hs i x H' H2 _ hi' s' y fun a H3 fa s3 h3 => ?_
    have na : a ∉ as := fun hm => by
      obtain ⟨j, hj⟩ := List.mem_iff_getElem?.mp hm
      have := (hv j a hj).2
      rw [fa] at this
      cases this
    have nDa : a ≠ D := fun z => by
      rw [z, hD] at fa
      cases fa
    refine z_lcB (s3 _ _ hD) hl' (by omega) fun H5 hD5 k5 e5 => ⟨fun b o h => ?_, fD, as ++ [a], by rw [ea, List.map_append]; rfl, ?_, ?_, fun j b hb => ?_⟩
    · rw [e5 b (ne_of_none h fD)]
      exact s3 _ _ (s' _ _ h)
    · rw [List.nodup_append]
      refine ⟨nd, List.pairwise_singleton _ _, fun x hx y hy z => ?_⟩
      rw [List.mem_singleton.mp hy] at z
      exact na (by rw [← z]; exact hx)
    · rw [List.mem_append, List.mem_singleton]
      rintro (h | h)
      · exact nD h
      · exact nDa h.symm
    · rcases Nat.lt_or_ge j as.length with h | h
      · rw [List.getElem?_append_left h] at hb
        have hne : b ≠ D := fun z => nD (by rw [← z]; exact List.mem_of_getElem? hb)
        refine ⟨(hv j b hb).1, ?_⟩
        rw [e5 b hne]
        exact s3 _ _ (hv j b hb).2
      · have hr : j = i := by
          have := (List.getElem?_eq_some_iff.mp hb).1
          rw [List.length_append, List.length_singleton] at this
          omega
        subst hr
        rw [List.getElem?_append_right h, la, Nat.sub_self] at hb
        cases hb
        refine ⟨?_, by rw [e5 a nDa]; exact h3⟩
        cases z : H a with
        | none => rfl
        | some o =>
          have := s' _ _ z
          rw [fa] at this
          cases this
  · have la : as.length = m := by
      have := congrArg List.length ea
      rw [List.length_map, hl'] at this
      exact this.symm
    exact hd D H' as fD s' (by rw [hD, ea]) la nd nD hv
/-! what is walked -/
def It0 (R : It → Hp → Prop) : List V → Hp → Prop := fun _ _ => True
theorem z_iRng {ta : TA} {k : Nat} {R : It → Hp → Prop} (ha : ∀ S : List V → Hp → Prop, S [.int (k : Int)] H → ta σ H S) (hk : k ≤ 1000) (q : R (Itr 0 k) H) : iRng1 ta σ H R := by
  refine ha _ ⟨(k : Int), rfl, by omega, by omega, ?_⟩
  rw [Int.toNat_natCast]
  exact q
theorem z_iList {te : TE} {a : Addr} {xs : List V} {R : It → Hp → Prop} (ha : ∀ S : VK, S (.ref a) H → te σ H S) (h : SqL K H a xs) (q : R (Itl K a) H) : iList K te σ H R := ha _ ⟨a, rfl, ⟨xs, h⟩, q⟩
theorem z_iZip {ta : TA} {a b : Addr} {xs ys : List V} {R : It → Hp → Prop} (ha : ∀ S : List V → Hp → Prop, S [.ref a, .ref b] H → ta σ H S) (h1 : SqL K H a xs) (h2 : SqL K H b ys) (q : R (Itz K a b) H) : iZip K ta σ H R := ha _ ⟨a, b, xs, ys, rfl, h1, h2, q⟩
theorem z_iEnum {ta : TA} {a : Addr} {xs : List V} {R : It → Hp → Prop} (ha : ∀ S : List V → Hp → Prop, S [.ref a] H → ta σ H S) (h1 : SqL K H a xs) (q : R (Ite K a) H) : iEnum K ta σ H R := ha _ ⟨a, xs, rfl, h1, q⟩
def rSumN (K : PySem.W.Frag) : List V → Hp → VK → Prop := rSum K
theorem z_sum {ns : List Int} {a : Addr} (h : SqL K H a (ns.map V.int)) (q : Q (.int ns.sum) H) : rSum K [.ref a] H Q := ⟨a, ns, rfl, h, q⟩
theorem z_reverse {xs : List V} {l : Addr} (h : H l = some (.lst xs)) (q : Q .non (upd H l (.lst xs.reverse))) : rReverse (.ref l) [] H Q := ⟨l, xs, rfl, rfl, h, q⟩
end
/-! one field -/
theorem look1 {f : Str} {v : V} : ([(f, v)] : List (Str × V)).lookup f = some v := by
  unfold List.lookup
  rw [show (f == f) = true from beq_self_eq_true f]
theorem look1n {f m : Str} {v : V} (h : (m == f) = false) : ([(f, v)] : List (Str × V)).lookup m = none := by
  unfold List.lookup
  rw [h]
  rfl
theorem put1 {f : Str} {v w : V} : putF f w [(f, v)] = [(f, w)] := by
  unfold putF
  rw [if_pos rfl]
theorem put0 {f : Str} {w : V} : putF f w [] = [(f, w)] := rfl
end Cw

namespace Co
open PySem PySem.Spec PyProof.Rows L2 Z
/-- a value is never NotImplemented -/
theorem notNI {v : V} {u : Value} (r : RelV v u) {Q : Value → Shared → Prop} {s : Shared} (q : Q u s) : PySem.W.CmpBack Q u s := by
  cases u <;> first | exact q | (cases v <;> first | (cases r; done) | (obtain ⟨_, r⟩ := r; cases r; done) | exact absurd r (by intro z; cases z))
/-- x op y by an own method -/
def rOwn (C : Addr) (sp : Sp) (E : L2.St → XK) : L2.St → R2 := fun σ x y H Q => ∃ a b dx dy fs gs, x = .ref a ∧ y = .ref b ∧ H a = some (.ins C dx fs) ∧ H b = some (.ins C dy gs) ∧ sp [.ref a, .ref b] H Q (E σ)
def rOwn1 (C : Addr) (sp : Sp) (E : L2.St → XK) : L2.St → V → Hp → VK → Prop := fun σ x H Q => ∃ a dx fs, x = .ref a ∧ H a = some (.ins C dx fs) ∧ sp [.ref a] H Q (E σ)
def tOpS (r : L2.St → R2) (ta tb : TE) : TE := fun σ H Q => ta σ H fun x H1 => tb σ H1 fun y H2 => r σ x y H2 Q
def tUnS (r : L2.St → V → Hp → VK → Prop) (ta : TE) : TE := fun σ H Q => ta σ H fun x H1 => r σ x H1 Q
section
variable {X : Cx} {CX : CXT} {k : Nat} {f C : Addr} {fd : FuncData} {ps : List Str} {sp : Sp} {E : L2.St → XK} {op : Operator} {nm : Str}
theorem own_bin {pins : List (Addr × Obj)} {s : Shared} {σ : L2.St} {H : Hp} {x y : V} {v u : Value} {Q : VK} (c : PySem.W.selfFirst X.K C = true) (hs : PySem.W.findIn X.K (.ref C) nm = some (some (.ref f))) (hf : PySem.W.isFn X.K (.ref f) = true) (F : FnOk X.prog X.w X.K X.mg X.base CX k f fd ps sp) (hr : Room k X.A) (hb : Binds X.K fd ps []) (hx : ∀ σ, PassesAt CX X σ (E σ))
    (hn : PySem.dunder op.info.2 = nm) (I : Inv X pins σ H s) (rx : RelV x v) (ry : RelV y u) (h : rOwn C sp E σ x y H Q) : wpAny (model X.prog X.w) X.A (binaryOp op v u) (EP X pins σ Q) X.xe s := by
  obtain ⟨a, b, dx, dy, fs, gs, rfl, rfl, ha, hb', hq⟩ := h
  cases rx
  cases ry
  obtain ⟨mA, J, _⟩ := ins_get I.hok ha
  obtain ⟨mB, J', _⟩ := ins_get I.hok hb'
  obtain ⟨od, J, _⟩ := J.look
  obtain ⟨od', J', _⟩ := J'.look
  obtain ⟨m, hF⟩ := I.fr
  subst hn
  refine PySem.W.binop_K hF I.ok.mod.kin J J'.type c hs hf ?_
  refine wpAny_mono (run_fnSD (us := [.ref a, .ref b]) (vs := [.ref a, .ref b]) F hr hb .nil (hx σ) I (.cons rfl (.cons rfl .nil)) hq) (fun r s' q => ?_) fun _ _ x => x
  obtain ⟨z, H', I', rz, q⟩ := q
  exact notNI rz ⟨z, H', I', rz, q⟩
theorem pe_own {a b : Expr} {ta tb : TE} {pos : Pos} (c : PySem.W.selfFirst X.K C = true) (hs : PySem.W.findIn X.K (.ref C) nm = some (some (.ref f))) (hf : PySem.W.isFn X.K (.ref f) = true) (F : FnOk X.prog X.w X.K X.mg X.base CX k f fd ps sp) (hr : Room k X.A) (hb : Binds X.K fd ps []) (hx : ∀ σ, PassesAt CX X σ (E σ))
    (ha : PE X a ta) (hbb : PE X b tb) (hn : PySem.dunder op.info.2 = nm := by decide +kernel) : PE X (.BinOp a op b pos) (tOpS (rOwn C sp E) ta tb) := by
  refine ⟨fun pins s σ H Q I h => ?_⟩
  exact wpAny_BinOp (binT ha hbb I h fun v u s2 x y H2 I2 rx ry q => own_bin c hs hf F hr hb hx hn I2 rx ry q)
theorem own_neg {pins : List (Addr × Obj)} {s : Shared} {σ : L2.St} {H : Hp} {x : V} {v : Value} {Q : VK} (hs : PySem.W.findIn X.K (.ref C) "__neg__" = some (some (.ref f))) (hf : PySem.W.isFn X.K (.ref f) = true) (F : FnOk X.prog X.w X.K X.mg X.base CX k f fd ps sp) (hr : Room k X.A) (hb : Binds X.K fd ps []) (hx : ∀ σ, PassesAt CX X σ (E σ))
    (I : Inv X pins σ H s) (rx : RelV x v) (h : rOwn1 C sp E σ x H Q) : wpAny (model X.prog X.w) X.A (unaryOp .USub v) (EP X pins σ Q) X.xe s := by
  obtain ⟨a, dx, fs, rfl, ha, hq⟩ := h
  cases rx
  obtain ⟨mA, J, _⟩ := ins_get I.hok ha
  obtain ⟨od, J, _⟩ := J.look
  obtain ⟨m, hF⟩ := I.fr
  unfold unaryOp
  refine wpAny_holding ?_
  show wpAny _ _ (if (UnaryOp.USub == UnaryOp.Not) = true then _ else _) _ _ _
  rw [if_neg (by decide)]
  refine wpAny_bind (PySem.W.special_fn (args := []) (I.ok.mod.kin.keeps hF.keep) J hs (beq_iff_eq.mp hf) ?_)
  refine wpAny_mono (run_fnSD (us := [.ref a]) (vs := [.ref a]) F hr hb .nil (hx σ) I (.cons rfl .nil) hq) (fun r s' q => ?_) fun _ _ x => x
  exact wpAny_pure q
theorem pe_ownNeg {a : Expr} {ta : TE} {pos : Pos} (hs : PySem.W.findIn X.K (.ref C) "__neg__" = some (some (.ref f))) (hf : PySem.W.isFn X.K (.ref f) = true) (F : FnOk X.prog X.w X.K X.mg X.base CX k f fd ps sp) (hr : Room k X.A) (hb : Binds X.K fd ps []) (hx : ∀ σ, PassesAt CX X σ (E σ))
    (ha : PE X a ta) : PE X (.UnaryOp .USub a pos) (tUnS (rOwn1 C sp E) ta) := by
  refine ⟨fun pins s σ H Q I h => ?_⟩
  exact UnaryOp_ (thn (ha.run pins s σ H _ I h) fun v s1 ⟨x, H1, I1, r1, q1⟩ => own_neg hs hf F hr hb hx I1 r1 q1)
end
theorem passAll {X : Cx} {CX : CXT} {E : XK} (h : Passes CX X E) : ∀ σ, PassesAt CX X σ ((fun _ => E) σ) := fun σ pins H s e s' I q => h pins σ H s e s' I q
section
variable {ta tb : TE} {σ : L2.St} {H : Hp} {Q : VK} {C a b dx dy : Addr} {fs gs : List (Str × V)} {sp : Sp} {E : L2.St → XK}
theorem z_opS {r : L2.St → R2} (h : ta σ H fun x H1 => tb σ H1 fun y H2 => r σ x y H2 Q) : tOpS r ta tb σ H Q := h
theorem z_unS {r : L2.St → V → Hp → VK → Prop} (h : ta σ H fun x H1 => r σ x H1 Q) : tUnS r ta σ H Q := h
theorem z_own (h1 : H a = some (.ins C dx fs)) (h2 : H b = some (.ins C dy gs)) (q : sp [.ref a, .ref b] H Q (E σ)) : rOwn C sp E σ (.ref a) (.ref b) H Q := ⟨a, b, dx, dy, fs, gs, rfl, rfl, h1, h2, q⟩
theorem z_own1 (h1 : H a = some (.ins C dx fs)) (q : sp [.ref a] H Q (E σ)) : rOwn1 C sp E σ (.ref a) H Q := ⟨a, dx, fs, rfl, h1, q⟩
end
end Co

/-! an exception that leaves a list comprehension, also a nested one -/
namespace Xc
open PySem PySem.Spec PyProof.Rows L2 Z
section
variable {M : Model} {A : Around} {E : Value → Shared → Prop} {s : Shared} {env : Env}
/-- what a comprehension's run is to leave; the frame of its environment is told -/
def cpX (M : Model) (A : Around) (E : Value → Shared → Prop) (Q : Value → Shared → Prop) (acc : Value) (cenv : Env) (r : Result) (s' : Shared) : Prop :=
  match r with
  | .ok _ => ∃ m, s'.heap.Ns cenv.locals m ∧ ∀ h', Heap.SameBut cenv.locals s'.heap h' → Q acc { s' with heap := h' }
  | .error x => ∃ m, s'.heap.Ns cenv.locals m ∧ ∀ h', Heap.SameBut cenv.locals s'.heap h' → ∀ c' : Env, c'.frame = cenv.frame → wpAny M A (passOn "comprehension.variables-let-go" x c' : Sem Value) (fun _ _ => False) E { s' with heap := h' }
theorem comp_x {e : Expr} {scope : Scope} {pos : Pos} {newAcc first : Sem Value} {g : Comprehension} {gs : List Comprehension} {cl : List (Str × Addr)} {Q : Value → Shared → Prop}
    (hcl : clausesOf e = g :: gs) (hs : ∀ x, foldedSetIterable g.iter env x = pure x) (hclos : closureFor scope env = pure cl)
    (hkind : scope.kind = .function) (hnames : ∀ x ∈ scope.names, x.2 = .local → scope.names.lookup x.1 = some .local)
    (h : wpAny M A first (fun x s₁ => wpAny M A (pyIter x) (fun it s₂ => wpAny M A newAcc (fun acc s₃ =>
      wpAny M A (newFunctionEnv scope env.globals cl [] env.qual none .none (some env)) (fun cenv s₄ =>
        codeAny M A (.compStart e 0 it acc { cenv with scope := relabel scope env }) (cpX M A E Q acc cenv) s₄) E s₃) E s₂) E s₁) E s) :
    wpAny M A (comprehension e scope env pos newAcc false first none) Q E s := by
  unfold comprehension
  rw [hclos, hcl]
  refine wpAny_bind (wpAny_mono h (fun x s₁ h₁ => wpAny_bind (wpAny_standAt (wpAny_bind (wpAny_of_eq (hs x) (wpAny_bind (wpAny_holding (wpAny_mono h₁ (fun it s₂ h₂ =>
    wpAny_standIf (wpAny_bind (wpAny_mono h₂ (fun acc s₃ h₃ => wpAny_bind (wpAny_pure (wpAny_bind (wpAny_mono h₃ (fun cenv s₄ h₄ => ?_) fun _ _ h' => h')))) fun _ _ h' => h')))
      fun _ _ h' => h'))))))) fun _ _ h' => h')
  dsimp only
  have hv : ∀ x ∈ (scope.names.filter fun x => (x.2 == .local || x.2 == .cell) && x.1 != (".0" : Str)).reverse, x.2 = .local →
      Env.kindOf { cenv with scope := relabel scope env } x.1 = some .local := fun x hx hl => lookup_relabel_local (hnames x (List.mem_filter.mp (List.mem_reverse.mp hx)).1 hl)
  refine wpAny_holding (wpAny_bind (wpAny_attempt (wpAny_holding (wpAny_run (codeAny_mono h₄ fun r s' hr => ?_)))))
  cases r with
  | ok f =>
    obtain ⟨m, hn, hr⟩ := hr
    exact wpAny_bind (wpAny_holding (wpAny_comp_letGo (cenv := { cenv with scope := relabel scope env }) hkind _ s' m hv hn fun h' m' _ hs' => wpAny_pure (hr h' hs')))
  | error x =>
    obtain ⟨m, hn, hr⟩ := hr
    exact wpAny_bind (wpAny_holding (wpAny_comp_letGo (cenv := { cenv with scope := relabel scope env }) hkind _ s' m hv hn fun h' m' _ hs' => wpAny_mono (hr h' hs' _ rfl) (fun _ _ f => f.elim) fun _ _ y => y))
end

/-- an exception in the air of X, its frame at L -/
def XF (X : Cx) (L : Addr) (E : XK) (P : Heap → List Env → Addr → (Obj → Prop) → Addr → Heap → Prop) (u : Value) (s' : Shared) : Prop :=
  ∃ (a : Addr) (B : Heap) (sI : Shared) (pins : List (Addr × Obj)) (σ : L2.St) (H : Hp) (cls : Value) (d : Option Addr),
    u = .ref a ∧ Inv X pins σ H sI ∧ (∀ b o, sI.heap.get? b = some o → b ∉ frs X.stack → B.get? b = some o) ∧ sI.heap.UpToSlots s'.heap ∧
      P B X.stack a (Zc cls d) L s'.heap ∧ H a = none ∧ s'.os = sI.os ∧ AllBare s'.gens ∧ E cls d H
def Tk (X : Cx) (E : XK) : Prop := ∃ L D outs, X.stack = D :: outs ∧ D.frame = some L ∧ X.env.frame = some L ∧ ∀ u s', XF X L E Sky u s' → X.xe u s'
abbrev Held (B : Heap) (l : List Env) (a : Addr) (Z : Obj → Prop) (L : Addr) (h : Heap) : Prop := HandSPX.HeldZ B l a Z L h

section
variable {X : Cx} {E : XK} {L : Addr} {pins : List (Addr × Obj)} {σ : L2.St} {H : Hp} {s s' : Shared} {u : Value}
theorem tk_def (hs : X.stack = X.env :: X.outer) (hf : X.env.frame = some X.env.locals) (tk : Takes X (fun cls d _ H => E cls d H)) : Tk X E := ⟨X.env.locals, X.env, X.outer, hs, hf, hf, fun u s' h => tk u s' h⟩

/-- a call's exception -/
theorem XF.of_call (I : Inv X pins σ H s) (c : L2.CX X.prog X.w X.stack H s E u s') : XF X L E Sky u s' := by
  obtain ⟨a, B, H', cls, d, rfl, fl, hok, ub, na, os, ag, hE⟩ := c
  obtain ⟨G, gy, gn⟩ := restrict s'.heap fun b => (B.get? b).isSome || decide (b ∈ frs X.stack)
  have keepB : ∀ b o, B.get? b = some o → G.get? b = some o := fun b o e => (gy b (by simp [e])).trans (fl.1 b o e)
  have atF : ∀ b, b ∈ frs X.stack → G.get? b = s'.heap.get? b := fun b hb => gy b (by simp [hb])
  have inG : ∀ b o, G.get? b = some o → s'.heap.get? b = some o ∧ ((B.get? b).isSome = true ∨ b ∈ frs X.stack) := fun b o e => by
    by_cases q : ((B.get? b).isSome || decide (b ∈ frs X.stack)) = true
    · rw [gy b q] at e
      exact ⟨e, by simpa [Bool.or_eq_true] using q⟩
    · rw [gn b (by simpa using q)] at e; cases e
  have J : Inv X pins σ H' { s with heap := G, gens := s'.gens, drawn := s'.drawn, toks := s'.toks } := by
    refine I.call (ch := []) ⟨fun b o e n hb _ => keepB b o (ub.keep b o e n hb), fun b o e _ hb _ => ?_, fun b o e n _ => ub.free b o e n, fun b o e _ => ?_, ub.tups, ub.frzs, ub.tbls⟩ (hok.kept keepB) ag (fun _ z => nomatch z)
    · obtain ⟨sl, q⟩ := ub.slot b o e hb
      exact ⟨sl, (atF b hb).trans q⟩
    · by_cases hb : b ∈ frs X.stack
      · obtain ⟨sl, q⟩ := ub.slot b o e hb
        exact ⟨_, (atF b hb).trans q⟩
      · obtain ⟨o', q⟩ := ub.there b o e hb
        exact ⟨o', keepB b o' q⟩
  refine ⟨a, B, _, pins, σ, H', cls, d, rfl, J, fun b o e hb => ?_, Heap.UpToSlots.of_keeps fun b o e => (inG b o e).1, .inr (.inl fl), na, os, ag, hE⟩
  obtain ⟨e', h⟩ := inG b o e
  rcases h with h | h
  · obtain ⟨o', q⟩ := Option.isSome_iff_exists.mp h
    have z := fl.1 b o' q
    rw [e'] at z; cases z
    exact q
  · exact absurd h hb
theorem pass (tk : Tk X E) : Passes (L2.CX X.prog X.w) X E := fun pins σ H s e s' I c => by
  obtain ⟨L, D, outs, _, _, _, t⟩ := tk
  exact t e s' (XF.of_call I c)

/-- noted -/
theorem XF.noted {E₁ : Value → Shared → Prop} {D : Env} {outs : List Env} (hs : X.stack = D :: outs) (hD : D.frame = some L) (hf : X.env.frame = some L) (hA : X.A.frames = some X.stack) (x : XF X L E Sky u s') :
    wpAny (model X.prog X.w) X.A (noteFrame u X.env) (fun _ s'' => XF X L E Held u s'') E₁ s' := by
  obtain ⟨a, B, sI, pins, σ, H, cls, d, rfl, I, nb, up, sky, na, os, ag, hE⟩ := x
  have e : noteFrame (.ref a) X.env = noteFrame (.ref a) D := by unfold noteFrame PySem.frameOf; rw [hf, hD]
  rw [e]
  have hfr : X.A.frames = some (D :: outs) := by rw [hA, hs]
  have fin : ∀ h', HandSPX.HeldZ B X.stack a (Zc cls d) L h' → s'.heap.UpToSlots h' → XF X L E Held (.ref a) { s' with heap := h' } := fun h' hh up' => ⟨a, B, sI, pins, σ, H, cls, d, rfl, I, nb, up.trans up', hh, na, os, ag, hE⟩
  rw [hs] at sky fin
  rcases sky with ⟨hB, hn, hl, oe, vs, he, hz, hd, h1⟩ | fl | hh
  · exact HandSPX.look_newZ Zc.steady hfr hl hD he hB hn hd h1 hz fin
  · exact HandSPX.looks_onZ Zc.steady hfr hD fl fin
  · exact HandSPX.againZ hD hh.2.2.2 (fin s'.heap hh (Heap.UpToSlots.refl _))
/-- handed on -/
theorem XF.passed {E₁ : Value → Shared → Prop} {ce : Env} {what : String} (hf : ce.frame = some L) (x : XF X L E Held u s') (h : ∀ s'', XF X L E Sky u s'' → E₁ u s'') :
    wpAny (model X.prog X.w) X.A (passOn what u ce : Sem Value) (fun _ _ => False) E₁ s' := by
  obtain ⟨a, B, sI, pins, σ, H, cls, d, rfl, I, nb, up, hh, na, os, ag, hE⟩ := x
  unfold PySem.passOn
  obtain ⟨oe, vs, T, oT, ts, he, hz, hd, h1, hnT, hTe, hT, hdT, h3⟩ := hh.2.2.2
  refine wpAny_bind (wpAny_field he hd h1 ?_)
  rw [if_neg (show ¬ ((Value.ref T == Value.none) = true) from by simp)]
  rw [hf]
  refine wpAny_bind (HandSPX.setFlight_onZ hh fun h' hh' up' => ?_)
  exact wpAny_throw (h _ ⟨a, B, sI, pins, σ, H, cls, d, rfl, I, nb, up.trans up', .inr (.inr hh'), na, os, ag, hE⟩)
end
/-- the context of a block, with what is wanted of an exception -/
abbrev blkE (X : Cx) (s : Shared) (H : Hp) (scope : Scope) (cenv : Env) (fp : List Addr) (xe : Value → Shared → Prop) : Cx := { X with s_0 := s, H_0 := H, env := cenv, outer := X.stack, ex := fp, fn := fun x => scope.names.lookup x == some .cell, pn := [], xe := xe }
theorem toE {X : Cx} {s : Shared} {H : Hp} {scope : Scope} {ce : Env} {fp : List Addr} {xe : Value → Shared → Prop} {pins : List (Addr × Obj)} {σ : L2.St} {H' : Hp} {s' : Shared} (I : Inv (X.blk s H scope ce fp) pins σ H' s') : Inv (blkE X s H scope ce fp xe) pins σ H' s' :=
  ⟨⟨I.ok.mod, I.ok.kind, I.ok.glob, I.ok.blt, I.ok.above, I.ok.inj, I.ok.has, I.ok.cab, I.ok.hd, I.ok.frames, I.ok.stk, I.ok.exf, I.ok.bs, I.ok.bsz, I.ok.noex, I.ok.exfs, I.ok.funs, I.ok.frf⟩, I.os, I.bare, I.base, I.loc, I.cell, I.free, I.freeC, I.pin, I.hok, I.len⟩

theorem fun_hide {h h' B B' : Heap} {C : Addr} (sb : Heap.SameBut C h h') (gone : ∀ b, B.get? b = none → B'.get? b = none) : ∀ {l : List Env}, C ∉ frs l → h.FunFrames B l → h'.FunFrames B' l
  | [], _, _ => trivial
  | env :: l, hn, ⟨hk, ⟨L, o, hf, hb, ho, hd⟩, hr⟩ => by
    have hm : L ∈ frs (env :: l) := List.mem_filterMap.mpr ⟨env, List.mem_cons_self, hf⟩
    exact ⟨hk, ⟨L, o, hf, gone L hb, (sb.2 L fun z => hn (z ▸ hm)).trans ho, hd⟩, fun_hide sb gone (fun q => hn (by
      obtain ⟨e, he, q⟩ := List.mem_filterMap.mp q
      exact List.mem_filterMap.mpr ⟨e, List.mem_cons_of_mem _ he, q⟩)) hr⟩
/-- out of a block: the block's own names go -/
theorem XF.out {X : Cx} {E : XK} {L : Addr} {pins : List (Addr × Obj)} {σ : L2.St} {H : Hp} {s3 s' : Shared} {u : Value} {scope : Scope} {ce : Env} {fp : List Addr} {xe : Value → Shared → Prop} (I3 : Inv X pins σ H s3) (hC : s3.heap.objs.size ≤ ce.locals)
    (f3 : ∀ b ∈ fp, FpOk X pins H b ∧ b < s3.heap.objs.size) (x : XF (blkE X s3 H scope ce fp xe) L E Held u s') :
    (∃ m, s'.heap.Ns ce.locals m) ∧ ∀ h', Heap.SameBut ce.locals s'.heap h' → XF X L E Held u { s' with heap := h' } := by
  obtain ⟨a, B, sI, pn, σ', H', cls, d, rfl, I, nb, up, hh, na, os, ag, hE⟩ := x
  have J : Inv X pins σ H' sI := I3.call' (ch := fp) I.os I.base I.hok I.bare fun b hb => ⟨(f3 b hb).1.2.2.2.1, (f3 b hb).1.2.1, (f3 b hb).1.2.2.2.2.1, (f3 b hb).1.2.2.2.2.2⟩
  have nf : ce.locals ∉ frs X.stack := fun hm => by
    obtain ⟨_, o, e, _⟩ := I3.stack.mem hm
    exact absurd (Nat.lt_of_lt_of_le (Heap.lt_size e) hC) (Nat.lt_irrefl _)
  have nC : H' ce.locals = none := I.free
  obtain ⟨m, hn, _⟩ := I.loc
  have hn : sI.heap.Ns ce.locals m := hn
  obtain ⟨oc, es, ep, ho, hd, hk, hf⟩ := hn
  have hB : B.get? ce.locals = some oc := nb _ _ ho nf
  have hs' : s'.heap.get? ce.locals = some oc := hh.1 _ _ hB
  refine ⟨⟨m, oc, es, ep, hs', hd, hk, hf⟩, fun h' sb => ?_⟩
  have f := I3.fpOk (H' := H') hC nC
  obtain ⟨f0, f1, f2, f3', f4, f5⟩ := f
  have J2 : Inv X pins σ H' { sI with heap := PySem.W.hideAll sI.heap [ce.locals], toks := sI.toks } := J.turned (it := ce.locals) (fun b o hb e => PySem.W.hideAll_get _ e (by simpa using hb)) f0 f1 f3' f4 f5
  have aC : a ≠ ce.locals := fun z => by
    have q := hh.2.1
    rw [z, hB] at q; cases q
  have inB : ∀ b o, (PySem.W.hideAll B [ce.locals]).get? b = some o → B.get? b = some o ∧ b ≠ ce.locals := fun b o e => ⟨PySem.W.of_hideAll _ e, fun z => by
    rw [z, PySem.W.hideAll_none [ce.locals] (by simp)] at e; cases e⟩
  have inS : ∀ b o, (PySem.W.hideAll sI.heap [ce.locals]).get? b = some o → sI.heap.get? b = some o ∧ b ≠ ce.locals := fun b o e => ⟨PySem.W.of_hideAll _ e, fun z => by
    rw [z, PySem.W.hideAll_none [ce.locals] (by simp)] at e; cases e⟩
  have gone : ∀ b, B.get? b = none → (PySem.W.hideAll B [ce.locals]).get? b = none := fun b e => by
    cases q : (PySem.W.hideAll B [ce.locals]).get? b with
    | none => rfl
    | some o => rw [(inB b o q).1] at e; cases e
  have hh0 := hh
  obtain ⟨k1, k2, k3, k4⟩ := hh
  have k3 : s'.heap.FunFrames B X.stack := k3
  have k4 := k4
  refine ⟨a, PySem.W.hideAll B [ce.locals], _, pins, σ, H', cls, d, rfl, J2, fun b o e hb => ?_, fun b o e hnf => ?_, ⟨fun b o e => ?_, gone a k2, ?_, ?_⟩, na, os, ag, hE⟩
  · have e : (PySem.W.hideAll sI.heap [ce.locals]).get? b = some o := e
    obtain ⟨e1, e2⟩ := inS b o e
    exact PySem.W.hideAll_get _ (nb b o e1 hb) (by simpa using e2)
  · have e : (PySem.W.hideAll sI.heap [ce.locals]).get? b = some o := e
    obtain ⟨e1, e2⟩ := inS b o e
    obtain ⟨sl, q⟩ := up b o e1 hnf
    exact ⟨sl, (sb.2 b e2).trans q⟩
  · obtain ⟨e1, e2⟩ := inB b o e
    exact (sb.2 b e2).trans (k1 b o e1)
  · exact fun_hide sb gone nf k3
  · obtain ⟨oe, vs, T, oT, ts, he, hz, hd', h1, hnT, hTe, hT, hdT, h3⟩ := k4
    have tC : T ≠ ce.locals := fun z => by rw [z, hB] at hnT; cases hnT
    exact ⟨oe, vs, T, oT, ts, (sb.2 a aC).trans he, hz, hd', h1, gone T hnT, hTe, (sb.2 T tC).trans hT, hdT, h3⟩

section
variable {X : Cx} {E : XK}
/-- [elt for target in iter if ..], what may raise E inside -/
theorem pe_lcX {elt tg iter : Expr} {ifs : List Expr} {scope : Scope} {own : List (Str × Nat)} {pos : Pos} {wi : TI} {g : TG} {tt : TT} {te : TE} (tk : Tk X E) (hc : X.calm = true) (hN : X.N.Nodup) (hi : PI X tg iter wi) (ok : BlkOk X.N X.env.scope scope own)
    (hg : ∀ (s : Shared) (H : Hp) (C : Addr) (cl : List (Str × Addr)) (fp : List Addr) (xe : Value → Shared → Prop), Tk (blkE X s H scope (compEnvC scope cl C X.env) fp xe) E → PG (blkE X s H scope (compEnvC scope cl C X.env) fp xe) tg g)
    (ht : ∀ (s : Shared) (H : Hp) (C : Addr) (cl : List (Str × Addr)) (fp : List Addr) (xe : Value → Shared → Prop), Tk (blkE X s H scope (compEnvC scope cl C X.env) fp xe) E → PTs (blkE X s H scope (compEnvC scope cl C X.env) fp xe) ifs tt)
    (he : ∀ (s : Shared) (H : Hp) (C : Addr) (cl : List (Str × Addr)) (fp : List Addr) (xe : Value → Shared → Prop), Tk (blkE X s H scope (compEnvC scope cl C X.env) fp xe) E → PE (blkE X s H scope (compEnvC scope cl C X.env) fp xe) elt te)
    (hs : ∀ x, foldedSetIterable iter X.env x = pure x := by intro _; rfl) :
    PE X (.ListComp elt [⟨tg, iter, ifs, 0⟩] scope pos) (tLc wi g tt te (own.map (·.2))) := by
  refine ⟨fun pins s σ H Q I h => ?_⟩
  obtain ⟨L, Dm, outs, hstk, hDf, hXf, htk⟩ := tk
  rw [eval_ListComp]
  have hfree : ∀ y ∈ scope.names, y.2 = .free → ∃ c, X.env.cells.lookup y.1 = some c := fun y hy e => by
    rcases ok.free y hy e with k | k
    · exact I.ok.has _ (.inl k)
    · exact I.ok.has _ (.inr k)
  refine comp_x rfl hs (closure_ok hfree) ok.kind (fun y hy e => by rw [ok.uniq y hy, e])
    (thn (hi.run pins s σ H _ I h) fun xv s1 hx => thn hx fun itv s2 h2 => ?_)
  obtain ⟨it, fp, tn, J, H2, e, I2, T, st2, f2, q⟩ := h2
  subst e
  refine wpAny_newObj_type (newEnv_comp ?_) (by show 0 ≤ sizeLine; decide)
  generalize hD : s2.heap.objs.size = D
  have hDn : H2 D = none := I2.hok.fresh (Nat.le_of_eq hD)
  obtain ⟨W, ⟨m0, w0⟩, turn⟩ := q D hDn
  generalize hs3 : ({ s2 with heap := s2.heap.push { cls := .type "list", data := .seq ([] : List Value).toArray } } : Shared) = s3
  have I3 : Inv X pins σ (upd H2 D (.lst [])) s3 := by
    rw [← hs3]
    refine I2.laid (t' := s2.toks) (fun b o e => Heap.get?_push_of_some _ e) (Nat.le_of_eq hD) ⟨Nat.zero_le _, [], 0, .nil, ?_⟩
    rw [← hD]
    exact Heap.get?_push_size _ rfl
  have h3 : s3.heap = s2.heap.push { cls := .type "list", data := .seq ([] : List Value).toArray } := by rw [← hs3]
  have sz : ∀ b ∈ fp, b < s2.heap.objs.size := fun b hb => by
    obtain ⟨o, e, _⟩ := T.obj _ _ st2 b hb
    exact Heap.lt_size e
  have f3 : ∀ b ∈ fp, FpOk X pins (upd H2 D (.lst [])) b ∧ b < s3.heap.objs.size := fun b hb => by
    have hlt := sz b hb
    refine ⟨⟨?_, (f2 b hb).2⟩, by rw [h3, Heap.size_push]; exact Nat.lt_succ_of_lt hlt⟩
    rw [upd_ne (by rw [← hD]; exact Nat.ne_of_lt hlt)]
    exact (f2 b hb).1
  have st3 : tn 0 s3.heap := T.keep _ _ _ st2 fun b _ o e => by rw [h3]; exact Heap.get?_push_of_some _ e
  have I4 := block_start I3 ok hN f3
  generalize hcl : cellsFrom (s3.heap.objs.size + 1) scope.names (cloFrom X.env.cells scope.names []) = cl at I4
  have pg := hg s3 (upd H2 D (.lst [])) s3.heap.objs.size cl fp
  have pt := ht s3 (upd H2 D (.lst [])) s3.heap.objs.size cl fp
  have pe := he s3 (upd H2 D (.lst [])) s3.heap.objs.size cl fp
  show codeAny _ _ (.compStart (.ListComp elt [⟨tg, iter, ifs, 0⟩] scope pos) 0 (.ref it) (.ref D) (compEnvC scope cl s3.heap.objs.size X.env)) (cpX (model X.prog X.w) X.A X.xe (fun v s' => EP X pins σ Q v s') (.ref D) (newEnv scope s3.heap.objs.size X.env.globals cl X.env.qual none .none (some X.env) builtinsNs)) { s3 with heap := pushCells (s3.heap.push { cls := .type "dict", data := .dict #[] }) scope.names }
  have nL : (newEnv scope s3.heap.objs.size X.env.globals cl X.env.qual none .none (some X.env) builtinsNs).locals = s3.heap.objs.size := rfl
  have nF : (newEnv scope s3.heap.objs.size X.env.globals cl X.env.qual none .none (some X.env) builtinsNs).frame = some L := hXf
  generalize newEnv scope s3.heap.objs.size X.env.globals cl X.env.qual none .none (some X.env) builtinsNs = cn at nL nF ⊢
  have nfp : ∀ b ∈ fp, (upd H2 D (.lst [])) b = none := fun b hb => (f3 b hb).1.1
  have cF : (compEnvC scope cl s3.heap.objs.size X.env).frame = some L := hXf
  have cL : (compEnvC scope cl s3.heap.objs.size X.env).locals = s3.heap.objs.size := rfl
  generalize hce : compEnvC scope cl s3.heap.objs.size X.env = ce at I4 pg pt pe cF cL ⊢
  generalize hH3 : upd H2 D (.lst []) = H3 at I3 I4 pg pt pe w0 nfp f3
  generalize hs4 : ({ s3 with heap := pushCells (s3.heap.push { cls := .type "dict", data := .dict #[] }) scope.names } : Shared) = s4 at I4 ⊢
  have st4 : tn 0 s4.heap := T.keep _ _ _ st3 fun b _ o e => by rw [← hs4]; exact pushCells_keeps _ _ _ _ (Heap.get?_push_of_some _ e)
  generalize hR : cpX (model X.prog X.w) X.A X.xe (fun v s' => EP X pins σ Q v s') (.ref D) cn = R
  generalize hxe : notedBy (model X.prog X.w) X.A ce (fun e s' => R (.error e) s') = xe
  have tkb : Tk (blkE X s3 H3 scope ce fp xe) E := by
    refine ⟨L, Dm, outs, hstk, hDf, cF, fun u s' x => ?_⟩
    show xe u s'
    rw [← hxe]
    show wpAny _ _ (noteFrame u ce) _ _ s'
    refine wpAny_mono (XF.noted (X := blkE X s3 H3 scope ce fp xe) (E₁ := fun e s' => R (.error e) s') hstk hDf cF I3.ok.frames x) (fun _ s'' x' => ?_) fun _ _ z => z
    rw [← hR]
    obtain ⟨⟨m, hm⟩, ho⟩ := XF.out I3 (Nat.le_of_eq cL.symm) f3 x'
    rw [cL] at hm ho
    refine ⟨m, by rw [nL]; exact hm, fun h' sb c' hc' => ?_⟩
    rw [nL] at sb
    exact XF.passed (hc'.trans nF) (ho h' sb) (htk u)
  have pg := pg xe tkb
  have pt := pt xe tkb
  have pe := pe xe tkb
  have I4 := toE (xe := xe) I4
  have stat : ∀ {σ' : L2.St} {H' : Hp} {s' : Shared}, Inv (blkE X s3 H3 scope ce fp xe) [] σ' H' s' → (∀ b ∈ fp, H' b = none) → ∀ b ∈ fp, FpOk (blkE X s3 H3 scope ce fp xe) [] H' b := fun {σ' H' s'} I' hn b hb =>
    ⟨hn b hb, (I'.ok.exf b hb).1, I'.ok.exfs b hb, .inl hb, fun x c e => (I'.ok.exf b hb).2 x c e, fun p hp => absurd (show p ∈ ([] : List (Addr × Obj)) ++ [] from hp) (by simp)⟩
  have loop : codeAny (model X.prog X.w) X.A (.compLoop (.ListComp elt [⟨tg, iter, ifs, 0⟩] scope pos) 0 (.ref it) (.ref D) ce) R s4 := by
    refine compLoop_any (fun n s' => ∃ i H', Inv (blkE X s3 H3 scope ce fp xe) [] (wipe σ (own.map (·.2))) H' s' ∧ tn i s'.heap ∧ (∀ b ∈ fp, H' b = none) ∧ W i n H') ?_ m0 ⟨0, H3, I4, st4, nfp, w0⟩
    rintro n s5 ⟨i, H5, I5, st5, n5, w5⟩
    rw [hxe]
    rcases turn i n H5 w5 with ⟨stop, qq⟩ | ⟨go, Nx, hNx, step⟩
    · refine thnF (T.done (blkE X s3 H3 scope ce fp xe) rfl rfl rfl hc i [] s5 _ H5 (fun _ _ => False) I5 (stat I5 n5) st5 stop) fun r s6 ⟨hr, I6⟩ => ?_
      subst hr
      have I7 : Inv X pins σ H5 s6 := I3.call' (ch := fp) I6.os I6.base I6.hok I6.bare fun b hb => ⟨(f3 b hb).1.2.2.2.1, (f3 b hb).1.2.1, (f3 b hb).1.2.2.2.2.1, (f3 b hb).1.2.2.2.2.2⟩
      have nC : H5 s3.heap.objs.size = none := by
        have z : H5 ce.locals = none := I6.free
        rw [cL] at z
        exact z
      obtain ⟨m, hn, _⟩ := I6.loc
      have hn : s6.heap.Ns ce.locals m := hn
      rw [cL] at hn
      show R (.ok .next) s6
      rw [← hR]
      refine ⟨m, by rw [nL]; exact hn, fun h'' sb => ?_⟩
      rw [nL] at sb
      obtain ⟨f0, f1, f2, f3', f4, f5⟩ := I3.fpOk (H' := H5) (Nat.le_refl _) nC
      exact ⟨.ref D, H5, I7.turned (t' := s6.toks) (fun b o hb e => (sb.2 b hb).trans e) f0 f1 f3' f4 f5, rfl, qq⟩
    · refine thnF (T.item (blkE X s3 H3 scope ce fp xe) rfl rfl rfl hc i [] s5 _ H5 (fun _ _ => False) I5 (stat I5 n5) st5 go) fun r s6 ⟨u, hr, h6⟩ => ?_
      subst hr
      refine thnF h6 fun _ s7 ⟨x, H7, I7, r7, y7, st7, n7⟩ => ?_
      have I7' := I7.pinned (stat I7 n7) (T.obj _ _ st7)
      refine thn (pg.run _ s7 _ H7 x u _ I7' r7 (step x H7 y7)) fun _ s8 ⟨σ8, H8, I8, hw8, q8⟩ => ?_
      refine thn (pt.run _ s8 σ8 H8 _ I8 q8) fun b s9 ⟨H9, I9, q9⟩ => ?_
      have fin : ∀ {s' : Shared} {H' : Hp}, Inv (blkE X s3 H3 scope ce fp xe) ([] ++ pinsAt fp s7.heap) σ8 H' s' → Nx H' → ∃ m, m < n ∧ ∃ i H', Inv (blkE X s3 H3 scope ce fp xe) [] (wipe σ (own.map (·.2))) H' s' ∧ tn i s'.heap ∧ (∀ b ∈ fp, H' b = none) ∧ W i m H' := fun {s' H'} I' nx => by
        obtain ⟨m', hm, w'⟩ := hNx H' nx
        have pin' : ∀ b ∈ fp, ∀ o, s7.heap.get? b = some o → s'.heap.get? b = some o ∧ H' b = none := fun b hb o e =>
          let z := I'.pin (b, o) (List.mem_append_right _ (List.mem_append_right _ (mem_pinsAt hb e)))
          ⟨z.1, z.2.1⟩
        have hl : (wipe σ (own.map (·.2))).length = σ8.length := by rw [← hw8, wipe_length]
        refine ⟨m', hm, i + 1, H', (I'.unpinned (pins := [])).weak hl (fun j v e => ?_), T.keep _ _ _ st7 fun b hb o e => (pin' b hb o e).1, fun b hb => ?_, w'⟩
        · rw [← hw8] at e
          exact (wipe_some e).1
        · obtain ⟨o, e, _⟩ := T.obj _ _ st7 b hb
          exact (pin' b hb o e).2
      cases b with
      | false =>
        simp only [Bool.false_eq_true, if_false] at q9 ⊢
        exact fin I9 q9
      | true =>
        simp only [if_true] at q9 ⊢
        refine thn (pe.run _ s9 σ8 H9 _ I9 q9) fun z s10 ⟨yv, H10, I10, r10, acc, hD10, hz10, nx⟩ => ?_
        exact app_ok (X := blkE X s3 H3 scope ce fp xe) I10 hD10 hz10 r10 fun s11 I11 => fin I11 nx
  exact codeAny_compStart_list loop (T.self X.A 0 _ _ _ st4 loop)
end
section
variable {H : Hp} {Q : VK} {σ : L2.St} {wi : TI} {J : It} {m : Nat} {G : Hp → Prop} {Y : Nat → Hp → V → Hp → Prop} {g : TG} {te : TE} {vs : List Nat}
/-- a comprehension that can't come to its end: an element without P raises -/
theorem z_failW (P : Nat → Prop) (w : Walk J m G Y) (hm : m ≤ 1000) (hi : ∀ R : It → Hp → Prop, R J H → wi σ H R) (hG : ∀ H', Same H H' → G H') (no : ¬ ∀ i, i < m → P i)
    (hs : ∀ i x H' H2 (R : VK), i < m → Same H H' → Y i H' x H2 → (P i → ∀ v H3, Same H' H3 → R v H3) → g x (wipe σ vs) H2 fun σ2 H3 => wipe σ2 vs = wipe σ vs ∧ te σ2 H3 R) : tLc wi g tYes te vs σ H Q := by
  refine Cw.z_lcW w hi (fun i D acc H' => Same H H' ∧ H D = none ∧ ∀ k, k < i → P k) (fun D H' f s _ => ⟨s, f, fun k h => absurd h (Nat.not_lt_zero _)⟩) (fun i D acc H' h => hG _ h.1) (fun i x D acc H' H2 hi' hl' hD ⟨s', fD, hp⟩ y => ?_) (fun D acc H' fD hl' hD ⟨s', _, hp⟩ => absurd hp no)
  refine hs i x H' H2 _ hi' s' y fun p v H3 s3 => ?_
  refine z_lcB (s3 _ _ hD) hl' (by omega) fun H5 hD5 k5 e5 => ⟨fun b o h => ?_, fD, fun k hk => ?_⟩
  · rw [e5 b (ne_of_none h fD)]
    exact s3 _ _ (s' _ _ h)
  · rcases Nat.lt_succ_iff_lt_or_eq.mp hk with h | h
    · exact hp k h
    · exact h ▸ p
end
end Xc

namespace G
open PySem PySem.Spec PyProof.Rows L2 Z
def topS (i : Nat) : Stmt := PySem.Challenge.pw_fontwinding_k39_whole_pictures_by_deeds.main.body.getD i (.Pass ⟨0, 0, 0, 0⟩)
abbrev s_lines : Stmt := topS 5
abbrev s_blank_rows : Stmt := topS 12
abbrev s_fill_rows : Stmt := topS 13
abbrev s_changes_of : Stmt := topS 14
abbrev s_changes_at_line : Stmt := topS 15
abbrev s_first_center : Stmt := topS 16
abbrev s_first_position : Stmt := topS 17
abbrev s_rows_of : Stmt := topS 18
abbrev s_running_sums : Stmt := topS 19
abbrev s_Picture___init__ : Stmt := inClass (topS 22) 0
abbrev s_Picture_rows : Stmt := inClass (topS 22) 2
abbrev s_Picture_add_rows : Stmt := inClass (topS 22) 3
abbrev s_Picture_wipe : Stmt := inClass (topS 22) 4
abbrev s_Picture_total : Stmt := inClass (topS 22) 5
abbrev s_Picture_on_pixels : Stmt := inClass (topS 22) 6
abbrev s_Picture_shifted : Stmt := inClass (topS 22) 7
abbrev s_Picture___add__ : Stmt := inClass (topS 22) 8
abbrev s_Picture___sub__ : Stmt := inClass (topS 22) 9
abbrev s_Picture___neg__ : Stmt := inClass (topS 22) 10
abbrev s_is_inside : Stmt := topS 23
abbrev s_sums : Stmt := topS 24
abbrev s_checked : Stmt := topS 25
abbrev s_moved_rows : Stmt := topS 26
abbrev s_item_or_zero : Stmt := topS 27
abbrev s_corners : Stmt := topS 29
abbrev s_side : Stmt := topS 30
abbrev s_turns_left : Stmt := topS 31
abbrev s_sweep : Stmt := topS 33
abbrev s_moved_pen : Stmt := topS 34
abbrev s_cover_rows : Stmt := topS 35
abbrev s_drawn_lines : Stmt := topS 36
abbrev s__law_stream : Stmt := topS 38
abbrev s__law_draw : Stmt := topS 39
abbrev s__law_blank : Stmt := topS 40
abbrev s__law_sum : Stmt := topS 41
abbrev s__law_fits : Stmt := topS 42
abbrev s__law_same_rows : Stmt := topS 43
abbrev s__law_turn : Stmt := topS 44
abbrev s__law_is_next : Stmt := topS 45
abbrev s__law_corners : Stmt := topS 46
abbrev s__law_is_inside : Stmt := topS 47
abbrev s__law_mark : Stmt := topS 48
abbrev s__law_sums : Stmt := topS 49
abbrev s__law_place : Stmt := topS 50
abbrev s__law_count_line : Stmt := topS 51
abbrev s__law_moved : Stmt := topS 52
abbrev s__law_filled : Stmt := topS 53
abbrev s__law_drawn : Stmt := topS 54
abbrev s__law_sparse : Stmt := topS 55
abbrev s__law_added : Stmt := topS 56
abbrev s__law_combined : Stmt := topS 57
abbrev s__law_deed : Stmt := topS 58
abbrev s__law_is_told : Stmt := topS 59
abbrev s_law : Stmt := topS 60
theorem sc_blank_rows : FnScope ["_"] [] (defScope s_blank_rows) := ⟨rfl, rfl, rfl, by decide +kernel, rfl, by decide +kernel, by decide +kernel⟩
theorem sc_fill_rows : FnScope ["outline"] ["outline"] (defScope s_fill_rows) := ⟨rfl, rfl, rfl, by decide +kernel, rfl, by decide +kernel, by decide +kernel⟩
theorem sc_changes_of : FnScope ["outline", "changes", "a", "b"] ["outline"] (defScope s_changes_of) := ⟨rfl, rfl, rfl, by decide +kernel, rfl, by decide +kernel, by decide +kernel⟩
theorem sc_changes_at_line : FnScope ["low", "high", "change", "first", "behind", "changes", "row", "y", "column"] ["low", "high", "change"] (defScope s_changes_at_line) := ⟨rfl, rfl, rfl, by decide +kernel, rfl, by decide +kernel, by decide +kernel⟩
theorem sc_first_center : FnScope ["position"] ["position"] (defScope s_first_center) := ⟨rfl, rfl, rfl, by decide +kernel, rfl, by decide +kernel, by decide +kernel⟩
theorem sc_first_position : FnScope ["low", "high", "y"] ["low", "high", "y"] (defScope s_first_position) := ⟨rfl, rfl, rfl, by decide +kernel, rfl, by decide +kernel, by decide +kernel⟩
theorem sc_rows_of : FnScope ["changes", "rows", "row", "column", "change"] ["changes"] (defScope s_rows_of) := ⟨rfl, rfl, rfl, by decide +kernel, rfl, by decide +kernel, by decide +kernel⟩
theorem sc_running_sums : FnScope ["row", "total", "sums", "item"] ["row"] (defScope s_running_sums) := ⟨rfl, rfl, rfl, by decide +kernel, rfl, by decide +kernel, by decide +kernel⟩
theorem sc_Picture___init__ : FnScope ["self"] ["self"] (defScope s_Picture___init__) := ⟨rfl, rfl, rfl, by decide +kernel, rfl, by decide +kernel, by decide +kernel⟩
theorem sc_Picture_rows : FnScope ["self", "row"] ["self"] (defScope s_Picture_rows) := ⟨rfl, rfl, rfl, by decide +kernel, rfl, by decide +kernel, by decide +kernel⟩
theorem sc_Picture_add_rows : FnScope ["self", "rows", "factor"] ["self", "rows", "factor"] (defScope s_Picture_add_rows) := ⟨rfl, rfl, rfl, by decide +kernel, rfl, by decide +kernel, by decide +kernel⟩
theorem sc_Picture_wipe : FnScope ["self"] ["self"] (defScope s_Picture_wipe) := ⟨rfl, rfl, rfl, by decide +kernel, rfl, by decide +kernel, by decide +kernel⟩
theorem sc_Picture_total : FnScope ["self", "row"] ["self"] (defScope s_Picture_total) := ⟨rfl, rfl, rfl, by decide +kernel, rfl, by decide +kernel, by decide +kernel⟩
theorem sc_Picture_on_pixels : FnScope ["self", "found", "row", "weights", "column", "weight"] ["self"] (defScope s_Picture_on_pixels) := ⟨rfl, rfl, rfl, by decide +kernel, rfl, by decide +kernel, by decide +kernel⟩
theorem sc_Picture_shifted : FnScope ["self", "di", "dj", "picture"] ["self", "di", "dj"] (defScope s_Picture_shifted) := ⟨rfl, rfl, rfl, by decide +kernel, rfl, by decide +kernel, by decide +kernel⟩
theorem sc_Picture___add__ : FnScope ["self", "other", "picture"] ["self", "other"] (defScope s_Picture___add__) := ⟨rfl, rfl, rfl, by decide +kernel, rfl, by decide +kernel, by decide +kernel⟩
theorem sc_Picture___sub__ : FnScope ["self", "other", "picture"] ["self", "other"] (defScope s_Picture___sub__) := ⟨rfl, rfl, rfl, by decide +kernel, rfl, by decide +kernel, by decide +kernel⟩
theorem sc_Picture___neg__ : FnScope ["self", "picture"] ["self"] (defScope s_Picture___neg__) := ⟨rfl, rfl, rfl, by decide +kernel, rfl, by decide +kernel, by decide +kernel⟩
theorem sc_is_inside : FnScope ["row", "column"] ["row", "column"] (defScope s_is_inside) := ⟨rfl, rfl, rfl, by decide +kernel, rfl, by decide +kernel, by decide +kernel⟩
theorem sc_sums : FnScope ["rows", "others", "factor", "item", "addend", "row", "other"] ["rows", "others", "factor"] (defScope s_sums) := ⟨rfl, rfl, rfl, by decide +kernel, rfl, by decide +kernel, by decide +kernel⟩
theorem sc_checked : FnScope ["weight"] ["weight"] (defScope s_checked) := ⟨rfl, rfl, rfl, by decide +kernel, rfl, by decide +kernel, by decide +kernel⟩
theorem sc_moved_rows : FnScope ["rows", "di", "dj", "column", "row"] ["rows", "di", "dj"] (defScope s_moved_rows) := ⟨rfl, rfl, rfl, by decide +kernel, rfl, by decide +kernel, by decide +kernel⟩
theorem sc_item_or_zero : FnScope ["rows", "row", "column"] ["rows", "row", "column"] (defScope s_item_or_zero) := ⟨rfl, rfl, rfl, by decide +kernel, rfl, by decide +kernel, by decide +kernel⟩
theorem sc_corners : FnScope ["points", "heights_first", "point", "upwards", "y", "x"] ["points"] (defScope s_corners) := ⟨rfl, rfl, rfl, by decide +kernel, rfl, by decide +kernel, by decide +kernel⟩
theorem sc_side : FnScope ["points", "found", "point"] ["points"] (defScope s_side) := ⟨rfl, rfl, rfl, by decide +kernel, rfl, by decide +kernel, by decide +kernel⟩
theorem sc_turns_left : FnScope ["a", "b", "c"] ["a", "b", "c"] (defScope s_turns_left) := ⟨rfl, rfl, rfl, by decide +kernel, rfl, by decide +kernel, by decide +kernel⟩
theorem sc_sweep : FnScope ["pen", "p", "q"] ["pen", "p", "q"] (defScope s_sweep) := ⟨rfl, rfl, rfl, by decide +kernel, rfl, by decide +kernel, by decide +kernel⟩
theorem sc_moved_pen : FnScope ["pen", "p", "x", "y"] ["pen", "p"] (defScope s_moved_pen) := ⟨rfl, rfl, rfl, by decide +kernel, rfl, by decide +kernel, by decide +kernel⟩
theorem sc_cover_rows : FnScope ["pen", "outline", "changes", "p", "q", "swept", "number", "row"] ["pen", "outline"] (defScope s_cover_rows) := ⟨rfl, rfl, rfl, by decide +kernel, rfl, by decide +kernel, by decide +kernel⟩
theorem sc_drawn_lines : FnScope ["outline"] ["outline"] (defScope s_drawn_lines) := ⟨rfl, rfl, rfl, by decide +kernel, rfl, by decide +kernel, by decide +kernel⟩
theorem sc__law_stream : FnScope ["cell"] ["cell"] (defScope s__law_stream) := ⟨rfl, rfl, rfl, by decide +kernel, rfl, by decide +kernel, by decide +kernel⟩
theorem sc__law_draw : FnScope ["stream", "size", "drawn", "mixed"] ["stream", "size"] (defScope s__law_draw) := ⟨rfl, rfl, rfl, by decide +kernel, rfl, by decide +kernel, by decide +kernel⟩
theorem sc__law_blank : FnScope ["row"] [] (defScope s__law_blank) := ⟨rfl, rfl, rfl, by decide +kernel, rfl, by decide +kernel, by decide +kernel⟩
theorem sc__law_sum : FnScope ["rows", "other", "times", "column", "row"] ["rows", "other", "times"] (defScope s__law_sum) := ⟨rfl, rfl, rfl, by decide +kernel, rfl, by decide +kernel, by decide +kernel⟩
theorem sc__law_fits : FnScope ["rows", "row", "item"] ["rows"] (defScope s__law_fits) := ⟨rfl, rfl, rfl, by decide +kernel, rfl, by decide +kernel, by decide +kernel⟩
theorem sc__law_same_rows : FnScope ["actual", "expected", "row", "item"] ["actual", "expected"] (defScope s__law_same_rows) := ⟨rfl, rfl, rfl, by decide +kernel, rfl, by decide +kernel, by decide +kernel⟩
theorem sc__law_turn : FnScope ["a", "b", "c"] ["a", "b", "c"] (defScope s__law_turn) := ⟨rfl, rfl, rfl, by decide +kernel, rfl, by decide +kernel, by decide +kernel⟩
theorem sc__law_is_next : FnScope ["last", "best", "point", "turn", "far"] ["last", "best", "point"] (defScope s__law_is_next) := ⟨rfl, rfl, rfl, by decide +kernel, rfl, by decide +kernel, by decide +kernel⟩
theorem sc__law_corners : FnScope ["points", "first", "point", "found", "k", "last", "best"] ["points"] (defScope s__law_corners) := ⟨rfl, rfl, rfl, by decide +kernel, rfl, by decide +kernel, by decide +kernel⟩
theorem sc__law_is_inside : FnScope ["hull", "x", "y", "k", "a", "b", "turn"] ["hull", "x", "y"] (defScope s__law_is_inside) := ⟨rfl, rfl, rfl, by decide +kernel, rfl, by decide +kernel, by decide +kernel⟩
theorem sc__law_mark : FnScope ["rows", "hull", "low", "high", "corner", "row", "y", "column"] ["rows", "hull"] (defScope s__law_mark) := ⟨rfl, rfl, rfl, by decide +kernel, rfl, by decide +kernel, by decide +kernel⟩
theorem sc__law_sums : FnScope ["points", "p", "q", "sums_v", "point"] ["points", "p", "q"] (defScope s__law_sums) := ⟨rfl, rfl, rfl, by decide +kernel, rfl, by decide +kernel, by decide +kernel⟩
theorem sc__law_place : FnScope ["stream", "mode"] ["stream", "mode"] (defScope s__law_place) := ⟨rfl, rfl, rfl, by decide +kernel, rfl, by decide +kernel, by decide +kernel⟩
theorem sc__law_count_line : FnScope ["rows", "a", "b", "sign", "row", "y", "column", "x"] ["rows", "a", "b"] (defScope s__law_count_line) := ⟨rfl, rfl, rfl, by decide +kernel, rfl, by decide +kernel, by decide +kernel⟩
theorem sc__law_moved : FnScope ["rows", "right", "up", "moved", "row", "column"] ["rows", "right", "up"] (defScope s__law_moved) := ⟨rfl, rfl, rfl, by decide +kernel, rfl, by decide +kernel, by decide +kernel⟩
theorem sc__law_filled : FnScope ["stream", "mode", "outline", "k", "expected"] ["stream"] (defScope s__law_filled) := ⟨rfl, rfl, rfl, by decide +kernel, rfl, by decide +kernel, by decide +kernel⟩
theorem sc__law_drawn : FnScope ["stream", "points", "k", "mode", "outline", "ends", "expected"] ["stream"] (defScope s__law_drawn) := ⟨rfl, rfl, rfl, by decide +kernel, rfl, by decide +kernel, by decide +kernel⟩
theorem sc__law_sparse : FnScope ["stream", "rows", "k", "row", "column", "most"] ["stream"] (defScope s__law_sparse) := ⟨rfl, rfl, rfl, by decide +kernel, rfl, by decide +kernel, by decide +kernel⟩
theorem sc__law_added : FnScope ["pictures", "models", "at", "passed", "due", "times", "expected", "is_done"] ["pictures", "models", "at", "passed", "due", "times"] (defScope s__law_added) := ⟨rfl, rfl, rfl, by decide +kernel, rfl, by decide +kernel, by decide +kernel⟩
theorem sc__law_combined : FnScope ["pictures", "models", "at", "times", "expected", "is_done"] ["pictures", "models", "at", "times"] (defScope s__law_combined) := ⟨rfl, rfl, rfl, by decide +kernel, rfl, by decide +kernel, by decide +kernel⟩
theorem sc__law_deed : FnScope ["pictures", "models", "stream", "at", "kind", "right", "up", "passed", "due"] ["pictures", "models", "stream"] (defScope s__law_deed) := ⟨rfl, rfl, rfl, by decide +kernel, rfl, by decide +kernel, by decide +kernel⟩
theorem sc__law_is_told : FnScope ["picture", "rows", "total", "pixels", "row", "column"] ["picture", "rows"] (defScope s__law_is_told) := ⟨rfl, rfl, rfl, by decide +kernel, rfl, by decide +kernel, by decide +kernel⟩
theorem sc_law : FnScope ["script", "pictures", "models", "cell", "k"] ["script"] (defScope s_law) := ⟨rfl, rfl, rfl, by decide +kernel, rfl, by decide +kernel, by decide +kernel⟩
structure Txt (K : PySem.W.Frag) (mg : Str → Option Value) (A : Nat → Addr) (D : Nat → FuncData) : Prop where
  F_lines : Fun K "lines" "lines" s_lines (A 3) (D 3)
  m_lines : mg "lines" = some (.ref (A 3))
  b_lines : Binds K (D 3) ["outline"] []
  F_blank_rows : Fun K "blank_rows" "blank_rows" s_blank_rows (A 4) (D 4)
  m_blank_rows : mg "blank_rows" = some (.ref (A 4))
  b_blank_rows : Binds K (D 4) [] []
  F_fill_rows : Fun K "fill_rows" "fill_rows" s_fill_rows (A 5) (D 5)
  m_fill_rows : mg "fill_rows" = some (.ref (A 5))
  b_fill_rows : Binds K (D 5) ["outline"] []
  F_changes_of : Fun K "changes_of" "changes_of" s_changes_of (A 6) (D 6)
  m_changes_of : mg "changes_of" = some (.ref (A 6))
  b_changes_of : Binds K (D 6) ["outline"] []
  F_changes_at_line : Fun K "changes_at_line" "changes_at_line" s_changes_at_line (A 7) (D 7)
  m_changes_at_line : mg "changes_at_line" = some (.ref (A 7))
  b_changes_at_line : Binds K (D 7) ["low", "high", "change"] []
  F_first_center : Fun K "first_center" "first_center" s_first_center (A 8) (D 8)
  m_first_center : mg "first_center" = some (.ref (A 8))
  b_first_center : Binds K (D 8) ["position"] []
  F_first_position : Fun K "first_position" "first_position" s_first_position (A 9) (D 9)
  m_first_position : mg "first_position" = some (.ref (A 9))
  b_first_position : Binds K (D 9) ["low", "high", "y"] []
  F_rows_of : Fun K "rows_of" "rows_of" s_rows_of (A 10) (D 10)
  m_rows_of : mg "rows_of" = some (.ref (A 10))
  b_rows_of : Binds K (D 10) ["changes"] []
  F_running_sums : Fun K "running_sums" "running_sums" s_running_sums (A 11) (D 11)
  m_running_sums : mg "running_sums" = some (.ref (A 11))
  b_running_sums : Binds K (D 11) ["row"] []
  F_Picture___init__ : Fun K "__init__" "Picture.__init__" s_Picture___init__ (A 12) (D 12)
  b_Picture___init__ : Binds K (D 12) ["self"] []
  F_Picture_rows : Fun K "rows" "Picture.rows" s_Picture_rows (A 13) (D 13)
  m_Picture_rows : Meth K (A 2) "rows" (A 13)
  b_Picture_rows : Binds K (D 13) ["self"] []
  F_Picture_add_rows : Fun K "add_rows" "Picture.add_rows" s_Picture_add_rows (A 14) (D 14)
  m_Picture_add_rows : Meth K (A 2) "add_rows" (A 14)
  b_Picture_add_rows : ∃ ds, Vals [.int 1] ds ∧ Binds K (D 14) ["self", "rows", "factor"] ds
  k_Picture_add_rows_factor : KBn K (D 14) ["self", "rows", "factor"] 2 ["factor"] (fun us ws => us ++ ws) (fun vs zs => vs ++ zs)
  F_Picture_wipe : Fun K "wipe" "Picture.wipe" s_Picture_wipe (A 15) (D 15)
  m_Picture_wipe : Meth K (A 2) "wipe" (A 15)
  b_Picture_wipe : Binds K (D 15) ["self"] []
  F_Picture_total : Fun K "total" "Picture.total" s_Picture_total (A 16) (D 16)
  m_Picture_total : Meth K (A 2) "total" (A 16)
  b_Picture_total : Binds K (D 16) ["self"] []
  F_Picture_on_pixels : Fun K "on_pixels" "Picture.on_pixels" s_Picture_on_pixels (A 17) (D 17)
  m_Picture_on_pixels : Meth K (A 2) "on_pixels" (A 17)
  b_Picture_on_pixels : Binds K (D 17) ["self"] []
  F_Picture_shifted : Fun K "shifted" "Picture.shifted" s_Picture_shifted (A 18) (D 18)
  m_Picture_shifted : Meth K (A 2) "shifted" (A 18)
  b_Picture_shifted : Binds K (D 18) ["self", "di", "dj"] []
  F_Picture___add__ : Fun K "__add__" "Picture.__add__" s_Picture___add__ (A 19) (D 19)
  m_Picture___add__ : Meth K (A 2) "__add__" (A 19)
  b_Picture___add__ : Binds K (D 19) ["self", "other"] []
  F_Picture___sub__ : Fun K "__sub__" "Picture.__sub__" s_Picture___sub__ (A 20) (D 20)
  m_Picture___sub__ : Meth K (A 2) "__sub__" (A 20)
  b_Picture___sub__ : Binds K (D 20) ["self", "other"] []
  F_Picture___neg__ : Fun K "__neg__" "Picture.__neg__" s_Picture___neg__ (A 21) (D 21)
  m_Picture___neg__ : Meth K (A 2) "__neg__" (A 21)
  b_Picture___neg__ : Binds K (D 21) ["self"] []
  F_is_inside : Fun K "is_inside" "is_inside" s_is_inside (A 22) (D 22)
  m_is_inside : mg "is_inside" = some (.ref (A 22))
  b_is_inside : Binds K (D 22) ["row", "column"] []
  F_sums : Fun K "sums" "sums" s_sums (A 23) (D 23)
  m_sums : mg "sums" = some (.ref (A 23))
  b_sums : Binds K (D 23) ["rows", "others", "factor"] []
  F_checked : Fun K "checked" "checked" s_checked (A 24) (D 24)
  m_checked : mg "checked" = some (.ref (A 24))
  b_checked : Binds K (D 24) ["weight"] []
  F_moved_rows : Fun K "moved_rows" "moved_rows" s_moved_rows (A 25) (D 25)
  m_moved_rows : mg "moved_rows" = some (.ref (A 25))
  b_moved_rows : Binds K (D 25) ["rows", "di", "dj"] []
  F_item_or_zero : Fun K "item_or_zero" "item_or_zero" s_item_or_zero (A 26) (D 26)
  m_item_or_zero : mg "item_or_zero" = some (.ref (A 26))
  b_item_or_zero : Binds K (D 26) ["rows", "row", "column"] []
  F_corners : Fun K "corners" "corners" s_corners (A 27) (D 27)
  m_corners : mg "corners" = some (.ref (A 27))
  b_corners : Binds K (D 27) ["points"] []
  F_side : Fun K "side" "side" s_side (A 28) (D 28)
  m_side : mg "side" = some (.ref (A 28))
  b_side : Binds K (D 28) ["points"] []
  F_turns_left : Fun K "turns_left" "turns_left" s_turns_left (A 29) (D 29)
  m_turns_left : mg "turns_left" = some (.ref (A 29))
  b_turns_left : Binds K (D 29) ["a", "b", "c"] []
  F_sweep : Fun K "sweep" "sweep" s_sweep (A 30) (D 30)
  m_sweep : mg "sweep" = some (.ref (A 30))
  b_sweep : Binds K (D 30) ["pen", "p", "q"] []
  F_moved_pen : Fun K "moved_pen" "moved_pen" s_moved_pen (A 31) (D 31)
  m_moved_pen : mg "moved_pen" = some (.ref (A 31))
  b_moved_pen : Binds K (D 31) ["pen", "p"] []
  F_cover_rows : Fun K "cover_rows" "cover_rows" s_cover_rows (A 32) (D 32)
  m_cover_rows : mg "cover_rows" = some (.ref (A 32))
  b_cover_rows : Binds K (D 32) ["pen", "outline"] []
  F_drawn_lines : Fun K "drawn_lines" "drawn_lines" s_drawn_lines (A 33) (D 33)
  m_drawn_lines : mg "drawn_lines" = some (.ref (A 33))
  b_drawn_lines : Binds K (D 33) ["outline"] []
  F__law_stream : Fun K "_law_stream" "_law_stream" s__law_stream (A 34) (D 34)
  m__law_stream : mg "_law_stream" = some (.ref (A 34))
  b__law_stream : Binds K (D 34) ["cell"] []
  F__law_draw : Fun K "_law_draw" "_law_draw" s__law_draw (A 35) (D 35)
  m__law_draw : mg "_law_draw" = some (.ref (A 35))
  b__law_draw : Binds K (D 35) ["stream", "size"] []
  F__law_blank : Fun K "_law_blank" "_law_blank" s__law_blank (A 36) (D 36)
  m__law_blank : mg "_law_blank" = some (.ref (A 36))
  b__law_blank : Binds K (D 36) [] []
  F__law_sum : Fun K "_law_sum" "_law_sum" s__law_sum (A 37) (D 37)
  m__law_sum : mg "_law_sum" = some (.ref (A 37))
  b__law_sum : Binds K (D 37) ["rows", "other", "times"] []
  F__law_fits : Fun K "_law_fits" "_law_fits" s__law_fits (A 38) (D 38)
  m__law_fits : mg "_law_fits" = some (.ref (A 38))
  b__law_fits : Binds K (D 38) ["rows"] []
  F__law_same_rows : Fun K "_law_same_rows" "_law_same_rows" s__law_same_rows (A 39) (D 39)
  m__law_same_rows : mg "_law_same_rows" = some (.ref (A 39))
  b__law_same_rows : Binds K (D 39) ["actual", "expected"] []
  F__law_turn : Fun K "_law_turn" "_law_turn" s__law_turn (A 40) (D 40)
  m__law_turn : mg "_law_turn" = some (.ref (A 40))
  b__law_turn : Binds K (D 40) ["a", "b", "c"] []
  F__law_is_next : Fun K "_law_is_next" "_law_is_next" s__law_is_next (A 41) (D 41)
  m__law_is_next : mg "_law_is_next" = some (.ref (A 41))
  b__law_is_next : Binds K (D 41) ["last", "best", "point"] []
  F__law_corners : Fun K "_law_corners" "_law_corners" s__law_corners (A 42) (D 42)
  m__law_corners : mg "_law_corners" = some (.ref (A 42))
  b__law_corners : Binds K (D 42) ["points"] []
  F__law_is_inside : Fun K "_law_is_inside" "_law_is_inside" s__law_is_inside (A 43) (D 43)
  m__law_is_inside : mg "_law_is_inside" = some (.ref (A 43))
  b__law_is_inside : Binds K (D 43) ["hull", "x", "y"] []
  F__law_mark : Fun K "_law_mark" "_law_mark" s__law_mark (A 44) (D 44)
  m__law_mark : mg "_law_mark" = some (.ref (A 44))
  b__law_mark : Binds K (D 44) ["rows", "hull"] []
  F__law_sums : Fun K "_law_sums" "_law_sums" s__law_sums (A 45) (D 45)
  m__law_sums : mg "_law_sums" = some (.ref (A 45))
  b__law_sums : Binds K (D 45) ["points", "p", "q"] []
  F__law_place : Fun K "_law_place" "_law_place" s__law_place (A 46) (D 46)
  m__law_place : mg "_law_place" = some (.ref (A 46))
  b__law_place : Binds K (D 46) ["stream", "mode"] []
  F__law_count_line : Fun K "_law_count_line" "_law_count_line" s__law_count_line (A 47) (D 47)
  m__law_count_line : mg "_law_count_line" = some (.ref (A 47))
  b__law_count_line : Binds K (D 47) ["rows", "a", "b"] []
  F__law_moved : Fun K "_law_moved" "_law_moved" s__law_moved (A 48) (D 48)
  m__law_moved : mg "_law_moved" = some (.ref (A 48))
  b__law_moved : Binds K (D 48) ["rows", "right", "up"] []
  F__law_filled : Fun K "_law_filled" "_law_filled" s__law_filled (A 49) (D 49)
  m__law_filled : mg "_law_filled" = some (.ref (A 49))
  b__law_filled : Binds K (D 49) ["stream"] []
  F__law_drawn : Fun K "_law_drawn" "_law_drawn" s__law_drawn (A 50) (D 50)
  m__law_drawn : mg "_law_drawn" = some (.ref (A 50))
  b__law_drawn : Binds K (D 50) ["stream"] []
  F__law_sparse : Fun K "_law_sparse" "_law_sparse" s__law_sparse (A 51) (D 51)
  m__law_sparse : mg "_law_sparse" = some (.ref (A 51))
  b__law_sparse : Binds K (D 51) ["stream"] []
  F__law_added : Fun K "_law_added" "_law_added" s__law_added (A 52) (D 52)
  m__law_added : mg "_law_added" = some (.ref (A 52))
  b__law_added : Binds K (D 52) ["pictures", "models", "at", "passed", "due", "times"] []
  F__law_combined : Fun K "_law_combined" "_law_combined" s__law_combined (A 53) (D 53)
  m__law_combined : mg "_law_combined" = some (.ref (A 53))
  b__law_combined : Binds K (D 53) ["pictures", "models", "at", "times"] []
  F__law_deed : Fun K "_law_deed" "_law_deed" s__law_deed (A 54) (D 54)
  m__law_deed : mg "_law_deed" = some (.ref (A 54))
  b__law_deed : Binds K (D 54) ["pictures", "models", "stream"] []
  F__law_is_told : Fun K "_law_is_told" "_law_is_told" s__law_is_told (A 55) (D 55)
  m__law_is_told : mg "_law_is_told" = some (.ref (A 55))
  b__law_is_told : Binds K (D 55) ["picture", "rows"] []
  F_law : Fun K "law" "law" s_law (A 56) (D 56)
  m_law : mg "law" = some (.ref (A 56))
  b_law : Binds K (D 56) ["script"] []
  q_Picture : Cls K (A 2)
  g_Picture : mg "Picture" = some (.ref (A 2))
  M_Picture : Mk K (A 2) (A 12)
  nf_Picture__weights : NoAttr K (A 2) "_weights"
  sf_Picture : PySem.W.selfFirst K (A 2) = true
  ic_Picture : PySem.W.findIn K (.ref (A 2)) "__class__" = some (some (.builtin "object.__class__"))
  im_Picture : PySem.W.mroIn K (A 2) (.type "object") = some true
  oc_g : PySem.W.specialIn K (.builtin "object.__class__") "__get__" = some (some (.builtin "getset_descriptor.__get__"))
  oc_t : PySem.W.takesIn K (.builtin "object.__class__") = some true
  x_FontError : Z.ExcX K mg "FontError" (A 0)
  x_TooGreat : Z.ExcX K mg "TooGreat" (A 1)
  e_FontError_FontError : PySem.W.subIn K (.ref (A 0)) (.ref (A 0)) = some true
  e_FontError_TooGreat : PySem.W.subIn K (.ref (A 0)) (.ref (A 1)) = some false
  e_TooGreat_FontError : PySem.W.subIn K (.ref (A 1)) (.ref (A 0)) = some true
  e_TooGreat_TooGreat : PySem.W.subIn K (.ref (A 1)) (.ref (A 1)) = some true
  z_abs : mg "abs" = none
  z_bool : mg "bool" = none
  z_enumerate : mg "enumerate" = none
  z_int : mg "int" = none
  z_isinstance : mg "isinstance" = none
  z_len : mg "len" = none
  z_list : mg "list" = none
  z_max : mg "max" = none
  z_min : mg "min" = none
  z_range : mg "range" = none
  z_sorted : mg "sorted" = none
  z_sum : mg "sum" = none
  z_zip : mg "zip" = none
  c_LEFT : ∃ u, mg "LEFT" = some u ∧ RelV (.int (-8)) u
  c_BOTTOM : ∃ u, mg "BOTTOM" = some u ∧ RelV (.int (-16)) u
  c_SIZE : ∃ u, mg "SIZE" = some u ∧ RelV (.int (48)) u
  c_PIXEL : ∃ u, mg "PIXEL" = some u ∧ RelV (.int (64)) u
  c_HALF_PIXEL : ∃ u, mg "HALF_PIXEL" = some u ∧ RelV (.int (32)) u
  c_GREATEST_WEIGHT : ∃ u, mg "GREATEST_WEIGHT" = some u ∧ RelV (.int (9999)) u
theorem nd_lines : (["outline", "a", "b"] : List Str).Nodup := by decide +kernel
theorem gt_lines {P : Program} {w : World} {K : PySem.W.Frag} {mg : Str → Option Value} {base : Heap} {A : Nat → Addr} {D : Nat → FuncData} (T : Txt K mg A D) :
    Gl.GT P w K mg base "lines" "lines" s_lines (A 3) (D 3) ["outline", "a", "b"] "outline" (Gl.bTg (defBody s_lines)) (Gl.bIt (defBody s_lines)) (Gl.bE (defBody s_lines)) (Gl.bYp (defBody s_lines)) (Gl.bYs (defBody s_lines)) (Gl.bFp (defBody s_lines))
      (gTup K 2 (gCons (gName 1) (gCons (gName 2) gNil))) (tTup (tCons (tVar 1) (tCons (tVar 2) tNil))) (iZip K (tCons (tVar 0) (tCons (tSl (rSlL K) (tVar 0) (tPart (tC (.int 1))) tNoPart) tNil))) where
  D := ⟨T.F_lines, rfl, rfl, rfl, nd_lines, rfl, rfl, by decide +kernel⟩
  body := rfl
  hs := fun _ _ => rfl
  int := fun _ _ => rfl
  hg := fun A' L cd outer s0 H0 => pg_tup (by rfl) (pgs_cons (pg_name (i := 1) nd_lines rfl (.inl rfl)) (pgs_cons (pg_name (i := 2) nd_lines rfl (.inl rfl)) pgs_nil))
  he := fun A' L cd outer s0 H0 => pe_tup (pa_cons (pv 1) (pa_cons (pv 2) pa_nil))
  hi := fun A' L cd outer s0 H0 => pi_zip (by rfl) T.z_zip (pa_cons (pv 0) (pa_cons (pe_slice sl_list (pv 0) (po_some pe_int) po_none) pa_nil))
  r1 := Gl.zip_r1
  r2 := Gl.zip_r2
local macro_rules | `(tactic| walk_at "z1") => `(tactic| first
  | with_reducible refine z_seq ?_
  | with_reducible refine z_asg ?_
  | with_reducible refine z_asgS ?_
  | with_reducible refine z_ifs ?_
  | ((with_reducible refine' z_var ?h ?_); case h => with_unfolding_all exact rfl)
  | with_reducible refine z_c ?_
  | with_reducible refine z_op ?_
  | with_reducible refine z_un ?_
  | with_reducible refine z_I0 ?_
  | ((with_reducible refine z_I ?h ?_); case h => first | (exact Or.inr ⟨by decide, by decide⟩) | (exact Or.inl ⟨by decide, by decide⟩) | (show (0 : Int) < _; first | assumption | omega))
  | with_reducible refine z_U ?_
  | with_reducible refine z_eqI ?_
  | with_reducible refine z_neI ?_
  | with_reducible refine z_test ?_
  | with_reducible refine z_tB ?_
  | with_reducible refine z_bl ?_
  | with_reducible refine z_notT ?_
  | with_reducible refine z_andT ?_
  | with_reducible refine z_orT ?_
  | with_reducible refine z_andV ?_
  | with_reducible refine z_orV ?_
  | with_reducible refine z_notV ?_
  | with_reducible refine z_ifE ?_
  | with_reducible refine z_ifT ?_
  | with_reducible refine z_ifF ?_
  | with_reducible refine z_ifNT ?_
  | with_reducible refine z_ifNF ?_
  | with_reducible refine z_chain ?_
  | with_reducible refine z_nil ?_
  | with_reducible refine z_cons ?_
  | with_reducible refine z_tup ?_
  | with_reducible refine z_lst ?_
  | with_reducible refine z_cb ?_
  | with_reducible refine z_call ?_
  | with_reducible refine z_callS ?_
  | with_reducible refine z_int1 ?_
  | with_reducible refine z_int1b ?_
  | with_reducible refine z_abs ?_
  | with_reducible refine z_gcd ?_
  | with_reducible refine z_ret ?_
  | with_reducible refine z_retN ?_
  | with_reducible refine z_drop ?_
  | with_reducible refine z_next ?_
  | with_reducible refine z_brk ?_
  | with_reducible refine z_cont ?_
  | with_reducible refine z_par ?_
  | with_reducible refine z_two ?_
  | with_reducible refine z_asgT ?_
  | with_reducible refine z_sl ?_
  | with_reducible refine z_noPart ?_
  | with_reducible refine z_part ?_
  | with_reducible refine z_partI ?_
  | with_reducible refine z_gName ?_
  | with_reducible refine z_gcons ?_
  | with_reducible refine z_gnil ?_
  | ((with_reducible refine' z_up ?h ?hm ?_); (case h => walk_at "sq"); (case hm => exact rfl))
  | ((with_reducible refine' z_gT ?h ?hm ?_); (case h => walk_at "sq"); (case hm => exact rfl))
  | with_reducible refine z_isII ?_
  | with_reducible refine z_isNN ?_
  | with_reducible refine z_isNR ?_
  | with_reducible refine z_notNN ?_
  | with_reducible refine z_notNR ?_
  | with_reducible refine z_isIB ?_
  | with_reducible refine z_isBB ?_
  | ((with_reducible refine' z_isT ?h ?_); (case h => walk_at "sq"))
  | ((with_reducible refine' z_isLL ?h ?_); case h => assumption)
  | ((with_reducible refine z_newT ?h ?_); case h => exact Nat.le_of_ble_eq_true rfl)
  | ((with_reducible refine z_newL ?h ?_); case h => exact Nat.le_of_ble_eq_true rfl)
  | ((with_reducible refine' z_ixL ?h ?h2 ?_); (case h => walk_at "sq"); (case h2 => exact rfl))
  | ((with_reducible refine' z_ixT ?h ?h2 ?_); (case h => walk_at "sq"); (case h2 => exact rfl))
  | ((with_reducible refine' z_lenL ?h ?_); case h => walk_at "sq")
  | ((with_reducible refine' z_lenT ?h ?_); case h => walk_at "sq")
  | ((with_reducible refine z_ifYes ?h ?_); (case h => exact rfl))
  | ((with_reducible refine z_ifNo ?h ?_); (case h => exact rfl)))
local macro_rules | `(tactic| walk_at "sq") => `(tactic| first | assumption | exact Or.inl (Or.inl (by assumption)) | exact Or.inl (Or.inl upd_same))
local macro_rules | `(tactic| walk_at "z") => `(tactic| repeat (walk_at "z1"))
/-! ### promises -/
def sp__law_cell (K : PySem.W.Frag) : Sp := fun vs H Q _ => ∃ (l : Addr) (ns : List Int) (j : Nat), vs = [.ref l, .int (j : Int)] ∧ SqL K H l (ns.map V.int) ∧ ∀ v, Q (.int v) H
/-- a stream: three ints, whatever they are -/
def IsStm (H : Hp) (p : Addr) : Prop := ∃ a b m : Int, H p = some (.lst [.int a, .int b, .int m])
def sp__law_stream : Sp := fun vs H Q _ => ∃ c : Int, vs = [.int c] ∧ ∀ p H' a b m, H p = none → Same H H' → H' p = some (.lst [.int a, .int b, .int m]) → Q (.ref p) H'
def sp__law_draw : Sp := fun vs H Q _ => ∃ (p : Addr) (z : Int), vs = [.ref p, .int z] ∧ IsStm H p ∧ 0 < z ∧ z.natAbs < 2 ^ 1000 ∧ ∀ v a b m, 0 ≤ v → v < z → Q (.int v) (upd H p (.lst [.int a, .int b, .int m]))
section
theorem ok__law_stream {P : Program} {w : World} {K : PySem.W.Frag} {mg : Str → Option Value} {base : Heap} {A : Nat → Addr} {D : Nat → FuncData} (T : Txt K mg A D) : FnOk P w K mg base (L2.CX P w) 1 (A 34) (D 34) ["cell"] sp__law_stream := by
  refine T.F__law_stream.okX sc__law_stream (fun vs H Q E h => ?_) (fun cdv A' outer s H vs Q E hr h => ?_)
  · obtain ⟨c, rfl, _⟩ := h
    rfl
  obtain ⟨c, rfl, q⟩ := h
  refine ⟨_, (pss_cons (ps_if (pt_cmpR op_ge (pv 0) (Z.pe_powc (v := 1000000000000000000) ⟨by decide, by decide, by decide⟩ (by decide)) (nomark _))
  (pss_one (ps_ret (pe_lst (pa_cons (pv 0) (pa_cons pe_int (pa_cons (pe_op op_mod (pe_callTy Z.c_int (by rfl) T.z_int (by decide +kernel) (pa_cons (pv 0) pa_nil)) pe_int) pa_nil))))))
  pss_nil)
  (pss_one (ps_ret (pe_lst (pa_cons pe_int (pa_cons pe_int (pa_cons (pe_op op_mod (pe_callTy Z.c_int (by rfl) T.z_int (by decide +kernel) (pa_cons (pv 0) pa_nil)) pe_int) pa_nil))))))), ?_⟩
  walk_at "z"
  refine z_if (fun hj => ?_) (fun _ => ?_)
  · walk_at "z"
    exact fun p H' hp s h => q p H' _ _ _ hp s h
  · walk_at "z"
    exact fun p H' hp s h => q p H' _ _ _ hp s h
theorem ok__law_draw {P : Program} {w : World} {K : PySem.W.Frag} {mg : Str → Option Value} {base : Heap} {A : Nat → Addr} {D : Nat → FuncData} (T : Txt K mg A D) : FnOk P w K mg base (L2.CX P w) 1 (A 35) (D 35) ["stream", "size"] sp__law_draw := by
  refine T.F__law_draw.okX sc__law_draw (fun vs H Q E h => ?_) (fun cdv A' outer s H vs Q E hr h => ?_)
  · obtain ⟨p, z, rfl, _⟩ := h
    rfl
  obtain ⟨p, z, rfl, ⟨a, b, m, hp⟩, hz, hz2, q⟩ := h
  refine ⟨_, (pss_cons (ps_if (pt_cmpR op_gt (pe_ix ix_list (pv 0) pe_int (fun _ _ => rfl)) pe_int (nomark _))
  (pss_cons (ps_set (i := 2) sc__law_draw.nd rfl (.inl rfl) (pe_op op_mod (pe_callTy Z.c_int (by rfl) T.z_int (by decide +kernel) (pa_cons (pe_ix ix_list (pv 0) pe_int (fun _ _ => rfl)) pa_nil)) (pv 1)))
  (pss_cons (ps_asg (pe_op op_fdivW (pe_ix ix_list (pv 0) pe_int (fun _ _ => rfl)) (pv 1)) (pg_sub (pv 0) pe_int set_list))
  (pss_one (ps_ret (pv 2)))))
  pss_nil)
  (pss_cons (ps_asg (pe_op op_add (pe_ix ix_list (pv 0) pe_int (fun _ _ => rfl)) pe_int) (pg_sub (pv 0) pe_int set_list))
  (pss_cons (ps_set (i := 3) sc__law_draw.nd rfl (.inl rfl) (pe_op op_mod (pe_callTy Z.c_int (by rfl) T.z_int (by decide +kernel) (pa_cons (pe_op op_add (pe_op op_mul (pe_op op_add (pe_ix ix_list (pv 0) pe_int (fun _ _ => rfl)) pe_int) pe_int) (pe_op op_mul (pe_ix ix_list (pv 0) pe_int (fun _ _ => rfl)) pe_int)) pa_nil)) pe_int))
  (pss_cons (ps_set (i := 3) sc__law_draw.nd rfl (.inl rfl) (pe_op op_mod (pe_callTy Z.c_int (by rfl) T.z_int (by decide +kernel) (pa_cons (pe_op op_add (pe_op op_mulW (pv 3) (pv 3)) (pe_op op_mul (pe_ix ix_list (pv 0) pe_int (fun _ _ => rfl)) pe_int)) pa_nil)) pe_int))
  (pss_cons (ps_set (i := 3) sc__law_draw.nd rfl (.inl rfl) (pe_op op_mod (pe_callTy Z.c_int (by rfl) T.z_int (by decide +kernel) (pa_cons (pe_op op_add (pe_op op_mulW (pv 3) (pv 3)) (pe_op op_mul (pe_ix ix_list (pv 0) pe_int (fun _ _ => rfl)) pe_int)) pa_nil)) pe_int))
  (pss_one (ps_ret (pe_op op_mod (pe_callTy Z.c_int (by rfl) T.z_int (by decide +kernel) (pa_cons (pv 3) pa_nil)) (pv 1))))))))), ?_⟩
  walk_at "z"
  refine z_if (fun hj => ?_) (fun _ => ?_)
  · walk_at "z"
    refine z_I (wide_div hz hz2 (by decide) (by decide)) ?_
    walk_at "z"
    refine z_setL hp rfl ?_
    walk_at "z"
    exact q _ _ _ _ (Int.emod_nonneg _ (by omega)) (Int.emod_lt_of_pos _ hz)
  · walk_at "z"
    refine z_setL hp rfl ?_
    have hp1 : (upd H p (HO.lst ([V.int a, V.int b, V.int m].set (Int.toNat 1) (V.int (b + 1))))) p = some (.lst [V.int a, V.int (b + 1), V.int m]) := upd_same
    walk_at "z"
    refine z_I ?_ ?_
    · exact wide_mul (a := 32) (b := 32) (by omega) (by omega) (by decide) (by decide) (by decide)
    walk_at "z"
    refine z_I ?_ ?_
    · exact wide_mul (a := 32) (b := 32) (by omega) (by omega) (by decide) (by decide) (by decide)
    walk_at "z"
    exact q _ _ _ _ (Int.emod_nonneg _ (by omega)) (Int.emod_lt_of_pos _ hz)
end

/-! ### numbers in lowest terms -/
theorem gd_pos {n d : Int} (h : d ≠ 0) : 0 < gd n d := by
  unfold gd
  have : 0 < Nat.gcd n.natAbs d.natAbs := Nat.gcd_pos_of_pos_right _ (by omega)
  omega
theorem gd_dvd_l (n d : Int) : gd n d ∣ n := by
  unfold gd
  exact Int.dvd_trans (Int.natCast_dvd_natCast.mpr (Nat.gcd_dvd_left _ _)) (Int.natAbs_dvd_self)
theorem gd_dvd_r (n d : Int) : gd n d ∣ d := by
  unfold gd
  exact Int.dvd_trans (Int.natCast_dvd_natCast.mpr (Nat.gcd_dvd_right _ _)) (Int.natAbs_dvd_self)
theorem rd_pos {n d : Int} (h : d ≠ 0) : 0 < rd n d := by
  have g := gd_pos (n := n) h
  obtain ⟨k, hk⟩ := gd_dvd_r n d
  unfold rd
  split
  · rename_i hd
    have e : -d = gd n d * (-k) := by rw [Int.mul_neg, ← hk]
    rw [e, Int.mul_ediv_cancel_left _ (by omega)]
    have : ¬ 0 ≤ k := fun z => by have := Int.mul_nonneg (Int.le_of_lt g) z; omega
    omega
  · rename_i hd
    have e : d / gd n d = k := Int.ediv_eq_of_eq_mul_right (by omega) hk
    rw [e]
    have : ¬ k ≤ 0 := fun z => by have := Int.mul_nonpos_of_nonneg_of_nonpos (Int.le_of_lt g) z; omega
    omega
/-- what the program divides: by the negative of the common divisor where d is negative -/
theorem fdiv_neg {n g : Int} (hg : 0 < g) (h : g ∣ n) : Int.fdiv n (-g) = -n / g := by
  obtain ⟨k, rfl⟩ := h
  rw [show g * k = (-g) * (-k) by rw [Int.neg_mul_neg], Int.mul_fdiv_cancel_left _ (by omega), Int.neg_mul_neg, show -(g * k) = g * (-k) by rw [Int.mul_neg], Int.mul_ediv_cancel_left _ (by omega)]
theorem fdiv_pos {n g : Int} (hg : 0 < g) : Int.fdiv n g = n / g := Int.fdiv_eq_ediv_of_nonneg _ (by omega)
theorem gd_log {n d : Int} {k : Nat} (h : d ≠ 0) (hd : d.natAbs < 2 ^ k) : (gd n d).natAbs < 2 ^ k := by
  have : Nat.gcd n.natAbs d.natAbs ≤ d.natAbs := Nat.gcd_le_right _ (by omega)
  unfold gd
  omega
theorem cfd {j : Int} (h : j ≠ 0) (hj : j.natAbs < 2 ^ 1000) : CFd 0 j := ⟨h, Nat.lt_of_lt_of_le (PySem.Flt.log2_lt_of (by decide) hj) (by decide)⟩
theorem lt4 {a : Nat} (h : a < 2 ^ 400) : a < 2 ^ 1000 := Nat.lt_of_lt_of_le h (Nat.pow_le_pow_right (by decide) (by decide))
theorem lt1000 {a : Nat} (h : a < 2 ^ 100) : a < 2 ^ 1000 := Nat.lt_of_lt_of_le h (Nat.pow_le_pow_right (by decide) (by decide))



/-! ### the draws of a law: the heap H0 stands, a stream stands at p -/
structure Sd (H0 H : Hp) (p : Addr) : Prop where
  same : Same H0 H
  fresh : H0 p = none
  stm : IsStm H p
theorem Sd.mk0 {H H' : Hp} {p : Addr} {a b m : Int} (h : H p = none) (s : Same H H') (e : H' p = some (.lst [.int a, .int b, .int m])) : Sd H H' p := ⟨s, h, a, b, m, e⟩
theorem Sd.mono {H0 H H' : Hp} {p : Addr} (S : Sd H0 H p) (s : Same H H') : Sd H0 H' p := by
  obtain ⟨a, b, m, e⟩ := S.stm
  exact ⟨S.same.trans s, S.fresh, a, b, m, s _ _ e⟩
theorem nx {H0 H : Hp} {p : Addr} {z : Int} {Q : VK} {E : XK} (S : Sd H0 H p) (hz : 0 < z) (hz2 : z.natAbs < 2 ^ 1000) (q : ∀ v H', 0 ≤ v → v < z → Sd H0 H' p → (∀ b, b ≠ p → H' b = H b) → Q (.int v) H') : sp__law_draw [.ref p, .int z] H Q E := by
  refine ⟨p, z, rfl, S.stm, hz, hz2, fun v a b m h0 h1 => q v _ h0 h1 ⟨fun c o e => ?_, S.fresh, a, b, m, upd_same⟩ fun b hb => upd_ne hb⟩
  rw [upd_ne (ne_of_none e S.fresh)]
  exact S.same c o e
theorem Sd.ext {H0 H : Hp} {p q : Addr} {o : HO} (S : Sd H0 H p) (h : H q = none) : Sd H0 (upd H q o) p := by
  obtain ⟨a, b, m, hp⟩ := S.stm
  exact ⟨S.same.trans (same_upd h), S.fresh, a, b, m, by rw [upd_ne (ne_of_none hp h)]; exact hp⟩
theorem kp_refl {p : Addr} {H : Hp} : Kp p H H := fun _ _ _ e => e
theorem _root_.Z.Kp.trans' {p : Addr} {H H1 H2 : Hp} (a : Kp p H H1) (b : Kp p H1 H2) : Kp p H H2 := fun c o h e => b c o h (a c o h e)
theorem kp_eq {p : Addr} {H H' : Hp} (k : ∀ b, b ≠ p → H' b = H b) : Kp p H H' := fun b o h e => by
  rw [k b h]
  exact e
theorem kp_of {p : Addr} {H H' : Hp} (s : Same H H') : Kp p H H' := fun b x _ e => s b x e
theorem Sd.ne {H0 H : Hp} {p q : Addr} {xs : List V} (S : Sd H0 H p) (h : H q = some (.tup xs)) : q ≠ p := by
  obtain ⟨_, _, _, e⟩ := S.stm
  exact ne_of h e (by intro z; cases z)
theorem Sd.ne0 {H0 H : Hp} {p q : Addr} (S : Sd H0 H p) (h : H q = none) : q ≠ p := by
  obtain ⟨_, _, _, e⟩ := S.stm
  exact Ne.symm (ne_of_none e h)
theorem lt400 {a : Nat} (h : a < 2 ^ 100) : a < 2 ^ 400 := Nat.lt_of_lt_of_le h (Nat.pow_le_pow_right (by decide) (by decide))
theorem kp_sd {H0 H H' : Hp} {p : Addr} {K : PySem.W.Frag} {v : V} {d : PyData} (S : Sd H0 H p) (k : Kp p H H') (t : tupOnly d = true) (h : Dp K H v d) : Dp K H' v d := by
  obtain ⟨a, b, m, e⟩ := S.stm
  exact dp_kp k e t h
/-! ### the four operations, and comparing -/






/-! ### [draw(stream, z) for k in range(m)] -/
theorem z_draws {H0 H : Hp} {p : Addr} {z : Int} {m k : Nat} {vs : List Nat} {te : TE} {σ : L2.St} {Q : VK} {v : Int} (S : Sd H0 H p) (hv : v = (m : Int)) (hm : m ≤ 500) (hz : 0 < z) (hz2 : z.natAbs < 2 ^ 1000) (hw : ∀ x, wipe ((wipe σ vs).set k (some x)) vs = wipe σ vs)
    (hte : ∀ (i : Nat) (H' : Hp) (R : VK), (∀ E, sp__law_draw [.ref p, .int z] H' R E) → te ((wipe σ vs).set k (some (.int (i : Int)))) H' R)
    (q : ∀ (D : Addr) (H' : Hp) (ns : List Int), H D = none → D ≠ p → Sd H0 H' p → Kp p H H' → H' D = some (.lst (ns.map V.int)) → ns.length = m → (∀ x ∈ ns, 0 ≤ x ∧ x < z) → Q (.ref D) H') : LcRE (gName k) tYes te vs σ Q [.int v] H := by
  subst hv
  refine z_lcRr m (by omega) hw (fun i D acc H' => Sd H0 H' p ∧ Kp p H H' ∧ D ≠ p ∧ H D = none ∧ ∃ ns : List Int, acc = ns.map V.int ∧ ∀ x ∈ ns, 0 ≤ x ∧ x < z)
    (fun D H' f s e => ⟨S.mono s, kp_of s, S.ne0 f, f, [], rfl, fun x hx => nomatch hx⟩) (fun i D acc H' hi hl hD ⟨S', k', ne, f, ns, ea, hb⟩ => ?_)
    (fun D acc H' f hl hD ⟨S', k', ne, _, ns, ea, hb⟩ => q D H' ns f ne S' k' (by rw [hD, ea]) (by rw [← hl, ea, List.length_map]) hb)
  refine hte i H' _ fun E => nx S' hz hz2 fun x H2 x0 x1 S2 e2 => ?_
  have hD2 : H2 D = some (.lst acc) := (e2 D ne).trans hD
  refine z_lcB hD2 hl (by omega) fun H3 hD3 k3 e3 => ⟨?_, ?_, ne, f, ns ++ [x], by rw [ea, List.map_append]; rfl, fun y hy => ?_⟩
  · obtain ⟨a, b, c, st⟩ := S2.stm
    refine ⟨fun b o h => ?_, S2.fresh, a, b, c, by rw [e3 p ne.symm]; exact st⟩
    have hne : b ≠ D := fun z => by
      have h1 := S.same _ _ h
      rw [z, f] at h1
      cases h1
    rw [e3 b hne]
    exact S2.same _ _ h
  · intro b o hb h
    have hne : b ≠ D := fun z => by
      rw [z, f] at h
      cases h
    rw [e3 b hne, e2 b hb]
    exact k' b o hb h
  · rcases List.mem_append.mp hy with h | h
    · exact hb y h
    · rw [List.mem_singleton.mp h]
      exact ⟨x0, x1⟩
theorem Sd.put {H0 H : Hp} {p l : Addr} {o : HO} (S : Sd H0 H p) (h : H0 l = none) (ne : l ≠ p) : Sd H0 (upd H l o) p := by
  obtain ⟨a, b, c, e⟩ := S.stm
  exact ⟨fun x y h' => by rw [upd_ne (ne_of_none h' h)]; exact S.same _ _ h', S.fresh, a, b, c, by rw [upd_ne ne.symm]; exact e⟩
theorem kp_put {p l : Addr} {H H' : Hp} {o : HO} (k : Kp p H H') (h : H l = none) : Kp p H (upd H' l o) := fun b x hb e => by
  rw [upd_ne (ne_of_none e h)]
  exact k b x hb e
theorem kp_none {p a : Addr} {H H' : Hp} (k : Kp p H H') (h : H' a = none) (ne : a ≠ p) : H a = none := by
  cases z : H a with
  | none => rfl
  | some o =>
    have := k _ _ ne z
    rw [h] at this
    cases this
theorem Sd.none0 {H0 H : Hp} {p l : Addr} (S : Sd H0 H p) (h : H l = none) : H0 l = none := by
  cases z : H0 l with
  | none => rfl
  | some o =>
    have := S.same _ _ z
    rw [h] at this
    cases this
/-! ### grid points -/
abbrev GP := Int × Int
def gD (z : GP) : PyData := .tuple [.int z.1, .int z.2]
/-- both parts within N -/
def Gb (N : Nat) (z : GP) : Prop := z.1.natAbs ≤ N ∧ z.2.natAbs ≤ N
theorem Gb.le {N M : Nat} {z : GP} (h : Gb N z) (l : N ≤ M) : Gb M z := ⟨Nat.le_trans h.1 l, Nat.le_trans h.2 l⟩
theorem dp_g {K : PySem.W.Frag} {H : Hp} {v : V} {z : GP} (h : Dp K H v (gD z)) : ∃ p, v = .ref p ∧ SqT K H p [.int z.1, .int z.2] := by
  obtain ⟨p, v1, v2, e, hS, h1, h2⟩ := dp_t2 h
  rw [dp_int h1, dp_int h2] at hS
  exact ⟨p, e, hS⟩
theorem dp_mkg {K : PySem.W.Frag} {H : Hp} {p : Addr} {x y : Int} (h : H p = some (.tup [.int x, .int y])) : Dp K H (.ref p) (gD (x, y)) := dp_mk h (.cons (.int _) (.cons (.int _) .nil))
theorem dp_seqg {K : PySem.W.Frag} {H : Hp} {p : Addr} {x y : Int} (h : SqT K H p [.int x, .int y]) : Dp K H (.ref p) (gD (x, y)) := .tup h (.cons (.int _) (.cons (.int _) .nil))
/-- values that stand for grid points -/
def Gs (K : PySem.W.Frag) (H : Hp) : List V → List GP → Prop
  | [], [] => True
  | v :: vs, z :: zs => Dp K H v (gD z) ∧ Gs K H vs zs
  | _, _ => False
section
variable {K : PySem.W.Frag} {H H' : Hp}
theorem Gs.len : ∀ {vs : List V} {zs : List GP}, Gs K H vs zs → vs.length = zs.length
  | [], [], _ => rfl
  | _ :: _, _ :: _, h => congrArg (· + 1) (Gs.len h.2)
theorem Gs.mono (s : Same H H') : ∀ {vs : List V} {zs : List GP}, Gs K H vs zs → Gs K H' vs zs
  | [], [], _ => trivial
  | _ :: _, _ :: _, h => ⟨dp_mono s h.1, Gs.mono s h.2⟩
theorem Gs.kp {p : Addr} {xs : List V} (k : Kp p H H') (hp : H p = some (.lst xs)) : ∀ {vs : List V} {zs : List GP}, Gs K H vs zs → Gs K H' vs zs
  | [], [], _ => trivial
  | _ :: _, _ :: _, h => ⟨dp_kp k hp rfl h.1, Gs.kp k hp h.2⟩
theorem Gs.app : ∀ {vs ws : List V} {zs us : List GP}, Gs K H vs zs → Gs K H ws us → Gs K H (vs ++ ws) (zs ++ us)
  | [], _, [], _, _, k => k
  | _ :: _, _, _ :: _, _, h, k => ⟨h.1, Gs.app h.2 k⟩
theorem Gs.get {vs : List V} {zs : List GP} {i : Nat} {z : GP} (h : Gs K H vs zs) (e : zs[i]? = some z) : ∃ v, vs[i]? = some v ∧ Dp K H v (gD z) := by
  induction vs generalizing zs i with
  | nil =>
    cases zs with
    | nil => simp at e
    | cons => exact h.elim
  | cons w ws ih =>
    cases zs with
    | nil => exact h.elim
    | cons u us =>
      cases i with
      | zero =>
        cases e
        exact ⟨w, rfl, h.1⟩
      | succ i => exact ih h.2 (by simpa using e)
theorem Gs.getv {vs : List V} {zs : List GP} {i : Nat} {v : V} (h : Gs K H vs zs) (e : vs[i]? = some v) : ∃ z, zs[i]? = some z ∧ Dp K H v (gD z) := by
  have hi : i < vs.length := (List.getElem?_eq_some_iff.mp e).1
  obtain ⟨w, hw, d⟩ := h.get (z := zs[i]'(by rw [← h.len]; exact hi)) (List.getElem?_eq_getElem _)
  rw [e] at hw
  cases hw
  exact ⟨_, List.getElem?_eq_getElem _, d⟩
theorem Gs.data : ∀ {vs : List V} {zs : List GP}, Gs K H vs zs → DpAll K H vs (zs.map gD)
  | [], [], _ => .nil
  | _ :: _, _ :: _, h => .cons h.1 (Gs.data h.2)
theorem gs_nil : Gs K H [] [] := trivial
theorem gs_one {v : V} {z : GP} (h : Dp K H v (gD z)) : Gs K H [v] [z] := ⟨h, trivial⟩
end
theorem nat_idx {xs : List V} {k : Nat} {v : V} (h : xs[k]? = some v) : atI xs (k : Int) = some v := atI_nat h
theorem idx_nat {xs : List V} {j : Int} (h0 : 0 ≤ j) (h1 : j < (xs.length : Int)) : ∃ v, xs[j.toNat]? = some v ∧ atI xs j = some v := by
  have hl : j.toNat < xs.length := by omega
  obtain ⟨v, hv⟩ : ∃ v, xs[j.toNat]? = some v := ⟨_, List.getElem?_eq_getElem hl⟩
  refine ⟨v, hv, ?_⟩
  have := nat_idx hv
  rwa [Int.toNat_of_nonneg h0] at this
/-- all but p -/
def hide (p : Addr) (H : Hp) : Hp := fun b => if b = p then none else H b
theorem same_hide {p : Addr} {H : Hp} : Same (hide p H) H := fun b o e => by
  unfold hide at e
  split at e
  · cases e
  · exact e
theorem hide_at {p b : Addr} {H : Hp} (h : b ≠ p) : hide p H b = H b := if_neg h
theorem Sd.hid {H0 H : Hp} {p : Addr} (S : Sd H0 H p) : Sd (hide p H) H p := ⟨same_hide, if_pos rfl, S.stm⟩
/-! ### crossings -/
def left (a b : GP) (x y : Int) : Prop := (b.1 - a.1) * (y - a.2) ≤ (x - a.1) * (b.2 - a.2)
instance {a b : GP} {x y : Int} : Decidable (left a b x y) := by unfold left; infer_instance
def crs (a b : GP) (x y : Int) : Int := if a.2 ≤ y ∧ y < b.2 ∧ left a b x y then -1 else if b.2 ≤ y ∧ y < a.2 ∧ left b a x y then 1 else 0
/-- a grid point within 10 ^ 13 -/
abbrev Gm (z : GP) : Prop := Gb 10000000000000 z
theorem gm_sub {a b : Int} (h : a.natAbs ≤ 10000000000000) (k : b.natAbs ≤ 10000000000000) : (a - b).natAbs < 2 ^ 60 := Nat.lt_of_le_of_lt (show (a - b).natAbs ≤ 20000000000000 by omega) (by decide)
theorem gm_mul {a b : Int} (h : a.natAbs < 2 ^ 60) (k : b.natAbs < 2 ^ 60) : CMulW a b := wide_mul h k (by decide) (by decide) (by decide)

theorem nep' {Ha Hb : Hp} {p q : Addr} (h : Hb q = none) (S : Sd Ha Hb p) : q ≠ p := fun z => by
  obtain ⟨_, _, _, e⟩ := S.stm
  rw [← z, h] at e
  cases e
theorem shaped_g (z : GP) : SeqAt.shaped (gD z) = true := rfl
theorem dp_gs {K : PySem.W.Frag} {H : Hp} {p : Addr} {ws : List V} {zs : List GP} (h : H p = some (.lst ws)) (g : Gs K H ws zs) : Dp K H (.ref p) (.list (zs.map gD)) := .lst (.inl (.inl h)) g.data
theorem shaped_gs (zs : List GP) : SeqAt.shaped (.list (zs.map gD)) = true := by
  have h1 : PyData.canLayAll0 (zs.map gD) = true := by
    induction zs with
    | nil => rfl
    | cons z zs ih =>
      show (PyData.canLay0 (gD z) && PyData.canLayAll0 (zs.map gD)) = true
      rw [ih]
      rfl
  have h2 : PyData.depthAll (zs.map gD) ≤ 1 := by
    induction zs with
    | nil => exact Nat.zero_le 1
    | cons z zs ih =>
      have h1' : PyData.canLayAll0 (zs.map gD) = true := by
        have h1 : (PyData.canLay0 (gD z) && PyData.canLayAll0 (zs.map gD)) = true := h1
        exact ((Bool.and_eq_true _ _).mp h1).2
      have := ih h1'
      show max (PyData.depth (gD z)) (PyData.depthAll (zs.map gD)) ≤ 1
      have e : PyData.depth (gD z) = 1 := rfl
      omega
  unfold SeqAt.shaped
  rw [Bool.and_eq_true]
  refine ⟨h1, decide_eq_true ?_⟩
  show PyData.depthAll (zs.map gD) + 1 ≤ 64
  omega
/-! ### winding numbers -/
/-- the sum over the first i lines -/
def psum (f : GP → GP → Int) (zs : List GP) : Nat → Int
  | 0 => 0
  | i + 1 => psum f zs i + (match zs[i]?, zs[i + 1]? with | some a, some b => f a b | _, _ => 0)
theorem psum_s {f : GP → GP → Int} {zs : List GP} {i : Nat} {a b : GP} (ha : zs[i]? = some a) (hb : zs[i + 1]? = some b) : psum f zs (i + 1) = psum f zs i + f a b := by
  show psum f zs i + _ = _
  rw [ha, hb]
def wn (zs : List GP) (x y : Int) : Int := psum (fun a b => crs a b x y) zs (zs.length - 1)

section
variable {K : PySem.W.Frag} {H : Hp}
theorem Gs.take : ∀ {vs : List V} {zs : List GP} (n : Nat), Gs K H vs zs → Gs K H (vs.take n) (zs.take n)
  | _, _, 0, _ => trivial
  | [], [], _ + 1, _ => trivial
  | _ :: _, _ :: _, n + 1, h => ⟨h.1, Gs.take n h.2⟩
theorem Gs.drop : ∀ {vs : List V} {zs : List GP} (n : Nat), Gs K H vs zs → Gs K H (vs.drop n) (zs.drop n)
  | _, _, 0, h => h
  | [], [], _ + 1, _ => trivial
  | _ :: _, _ :: _, n + 1, h => Gs.drop n h.2
theorem Gs.rev : ∀ {vs : List V} {zs : List GP}, Gs K H vs zs → Gs K H vs.reverse zs.reverse
  | [], [], _ => trivial
  | _ :: _, _ :: _, h => by
    rw [List.reverse_cons, List.reverse_cons]
    exact (Gs.rev h.2).app (gs_one h.1)
end
theorem cut_to {xs : List V} {k : Nat} (h : k ≤ xs.length) : cutV xs none (some (k : Int)) = xs.take k := by
  unfold cutV
  rw [HT.sIx_nat, HT.sIx_none, Nat.min_eq_left h]
  rfl
theorem cut_from {xs : List V} {k : Nat} (h : k ≤ xs.length) : cutV xs (some (k : Int)) none = xs.drop k := by
  unfold cutV
  rw [HT.sIx_nat, HT.sIx_none, Nat.min_eq_left h, List.take_of_length_le (by rw [List.length_drop]; omega)]
theorem cut_mid {xs : List V} {j k : Nat} (hj : j ≤ xs.length) (h : k ≤ xs.length) : cutV xs (some (j : Int)) (some (k : Int)) = (xs.drop j).take (k - j) := by
  unfold cutV
  rw [HT.sIx_nat, HT.sIx_nat, Nat.min_eq_left h, Nat.min_eq_left hj]
/-! ### sums along a list of points -/
def wlh (f : GP → GP → Int) : GP → List GP → Int
  | _, [] => 0
  | a, b :: r => f a b + wlh f b r
def wl (f : GP → GP → Int) : List GP → Int
  | [] => 0
  | a :: r => wlh f a r
theorem wlh_app (f : GP → GP → Int) : ∀ (xs : List GP) (x p : GP) (B : List GP), wlh f x (xs ++ p :: B) = wlh f x (xs ++ [p]) + wlh f p B
  | [], x, p, B => by
    show f x p + wlh f p B = f x p + 0 + wlh f p B
    omega
  | y :: xs, x, p, B => by
    show f x y + wlh f y (xs ++ p :: B) = f x y + wlh f y (xs ++ [p]) + _
    rw [wlh_app f xs y p B]
    omega
theorem wl_app (f : GP → GP → Int) (A : List GP) (p : GP) (B : List GP) : wl f (A ++ p :: B) = wl f (A ++ [p]) + wl f (p :: B) := by
  cases A with
  | nil =>
    show wlh f p B = 0 + wlh f p B
    omega
  | cons a A => exact wlh_app f A a p B
theorem wl_two (f : GP → GP → Int) (p q : GP) (B : List GP) : wl f (p :: q :: B) = f p q + wl f (q :: B) := rfl
theorem take_at {zs : List GP} {i : Nat} {z : GP} (h : zs[i]? = some z) : zs.take (i + 1) = zs.take i ++ [z] := by
  rw [List.take_add_one, h]
  rfl
theorem drop_at {zs : List GP} {i : Nat} {z : GP} (h : zs[i]? = some z) : zs.drop i = z :: zs.drop (i + 1) := by
  obtain ⟨hi, e⟩ := List.getElem?_eq_some_iff.mp h
  rw [List.drop_eq_getElem_cons hi, e]
theorem psum_take (f : GP → GP → Int) {zs : List GP} : ∀ i, i < zs.length → psum f zs i = wl f (zs.take (i + 1))
  | 0, h => by
    have h0 : zs[0]? = some (zs[0]'h) := List.getElem?_eq_getElem h
    rw [take_at h0]
    rfl
  | i + 1, h => by
    have h0 : zs[i]? = some (zs[i]'(by omega)) := List.getElem?_eq_getElem _
    have h1 : zs[i + 1]? = some (zs[i + 1]'h) := List.getElem?_eq_getElem h
    rw [psum_s h0 h1, psum_take f i (by omega), take_at h1, take_at h0, List.append_assoc]
    show _ = wl f (zs.take i ++ zs[i] :: [zs[i + 1]])
    rw [wl_app f (zs.take i) _ [_], wl_two]
    show _ = _ + (_ + 0)
    omega
theorem psum_wl (f : GP → GP → Int) {zs : List GP} (h : 0 < zs.length) : psum f zs (zs.length - 1) = wl f zs := by
  rw [psum_take f _ (by omega), Nat.sub_add_cancel h, List.take_length]
theorem wlh_rev (f : GP → GP → Int) (hf : ∀ a b, f b a = - f a b) : ∀ (r : List GP) (a : GP), wl f ((a :: r).reverse) = - wlh f a r
  | [], a => rfl
  | b :: r, a => by
    rw [List.reverse_cons, List.reverse_cons, List.append_assoc]
    show wl f (r.reverse ++ b :: [a]) = _
    rw [wl_app f r.reverse b [a], ← List.reverse_cons, wlh_rev f hf r b, wl_two, hf]
    show - wlh f b r + (- f a b + 0) = - (f a b + wlh f b r)
    omega
theorem wl_rev (f : GP → GP → Int) (hf : ∀ a b, f b a = - f a b) (zs : List GP) : wl f zs.reverse = - wl f zs := by
  cases zs with
  | nil => rfl
  | cons a r => exact wlh_rev f hf r a
theorem wl_grow (f : GP → GP → Int) {zs : List GP} {i : Nat} {p q : GP} (m : GP) (hp : zs[i]? = some p) (hq : zs[i + 1]? = some q) :
    wl f (zs.take (i + 1) ++ [m] ++ zs.drop (i + 1)) = wl f zs + (f p m + f m q - f p q) := by
  have e : wl f zs = wl f (zs.take i ++ [p]) + wl f (p :: q :: zs.drop (i + 2)) := by
    rw [← wl_app, ← drop_at hq, ← drop_at hp, List.take_append_drop]
  rw [take_at hp, drop_at hq, e, List.append_assoc, List.append_assoc]
  show wl f (zs.take i ++ p :: m :: q :: zs.drop (i + 2)) = _
  rw [wl_app f (zs.take i) p (m :: q :: _), wl_two, wl_two, wl_two]
  omega
theorem wl_part (f : GP → GP → Int) (hf : ∀ a b, f b a = - f a b) {zs : List GP} {j k : Nat} {p q : GP} (hjk : j ≤ k) (hp : zs[j]? = some p) (hq : zs[k]? = some q) :
    wl f ((zs.drop j).take (k + 1 - j) ++ [p]) + wl f (zs.take (j + 1) ++ zs.drop k) = wl f zs := by
  have hD : (zs.drop j)[k - j]? = some q := by
    rw [List.getElem?_drop, show j + (k - j) = k by omega]
    exact hq
  have e : wl f zs = wl f (zs.take j ++ [p]) + wl f (zs.drop j) := by
    have := wl_app f (zs.take j) p (zs.drop (j + 1))
    rwa [← drop_at hp, List.take_append_drop] at this
  have e2 : wl f (zs.drop j) = wl f ((zs.drop j).take (k - j) ++ [q]) + wl f (zs.drop k) := by
    have := wl_app f ((zs.drop j).take (k - j)) q ((zs.drop j).drop (k - j + 1))
    rw [← drop_at hD, List.take_append_drop] at this
    rw [this, List.drop_drop, show j + (k - j) = k by omega]
  rw [show k + 1 - j = k - j + 1 by omega, take_at hD, take_at hp, drop_at hq, List.append_assoc]
  show wl f ((zs.drop j).take (k - j) ++ q :: [p]) + wl f (zs.take j ++ p :: []  ++ q :: zs.drop (k + 1)) = _
  rw [List.append_assoc]
  show _ + wl f (zs.take j ++ p :: q :: zs.drop (k + 1)) = _
  rw [wl_app f _ q [p], wl_app f (zs.take j) p (q :: _), wl_two, wl_two, hf p q, e, e2, ← drop_at hq]
  show _ + (_ + 0) + _ = _
  omega
/-- a drawn outline: count points, then the first one again -/
def Drawn (zs : List GP) (n : Nat) : Prop := zs.length = n + 1 ∧ (∀ z ∈ zs, Gb 500000000000 z) ∧ zs[n]? = zs[0]?
/-- counted from the right -/
def rcn (a b : GP) (x y : Int) : Int := if b.2 < a.2 then (if b.2 ≤ y ∧ y < a.2 ∧ ¬ left b a x y then -1 else 0) else (if a.2 ≤ y ∧ y < b.2 ∧ ¬ left a b x y then 1 else 0)
def up1 (z : GP) (y : Int) : Int := if y < z.2 then 1 else 0
theorem rc_crs (a b : GP) (x y : Int) : rcn a b x y = crs a b x y + (up1 b y - up1 a y) := by
  unfold rcn crs up1
  by_cases h1 : left a b x y <;> by_cases h2 : left b a x y <;> simp only [h1, h2, not_true_eq_false, not_false_eq_true, and_true, and_false, if_false] <;> repeat' split
  all_goals omega
theorem rc_psum {zs : List GP} {x y : Int} : ∀ (i : Nat) (z0 z : GP), zs[0]? = some z0 → zs[i]? = some z → psum (fun a b => rcn a b x y) zs i = psum (fun a b => crs a b x y) zs i + (up1 z y - up1 z0 y)
  | 0, z0, z, h0, h => by
    rw [h0] at h
    cases h
    show (0 : Int) = 0 + _
    omega
  | i + 1, z0, z, h0, h => by
    have hi : i < zs.length := by
      have := (List.getElem?_eq_some_iff.mp h).1
      omega
    obtain ⟨za, hza⟩ : ∃ za, zs[i]? = some za := ⟨_, List.getElem?_eq_getElem hi⟩
    rw [psum_s hza h, psum_s hza h, rc_psum i z0 za h0 hza, rc_crs]
    omega
theorem rc_wn {zs : List GP} {n : Nat} (D : Drawn zs n) (x y : Int) : psum (fun a b => rcn a b x y) zs n = wn zs x y := by
  obtain ⟨hl, _, hc⟩ := D
  obtain ⟨z, hz⟩ : ∃ z, zs[0]? = some z := ⟨_, List.getElem?_eq_getElem (by omega)⟩
  have := rc_psum (x := x) (y := y) n z z hz (hc.trans hz)
  rw [this]
  unfold wn
  rw [hl, Nat.add_sub_cancel]
  omega
/-! ### convex hulls: directions, turns, chains -/
def d2 (a b : GP) : GP := (b.1 - a.1, b.2 - a.2)
def cr (u v : GP) : Int := u.1 * v.2 - u.2 * v.1
def ori (a b c : GP) : Int := (b.1 - a.1) * (c.2 - b.2) - (b.2 - a.2) * (c.1 - b.1)
/-- by the height, then by the position -/
def lx (a b : GP) : Prop := a.2 < b.2 ∨ (a.2 = b.2 ∧ a.1 < b.1)
instance (a b : GP) : Decidable (lx a b) := inferInstanceAs (Decidable (_ ∨ _))
def hp (u : GP) : Prop := 0 < u.2 ∨ (u.2 = 0 ∧ 0 < u.1)
theorem lx_hp {a b : GP} (h : lx a b) : hp (d2 a b) := by
  rcases h with h | ⟨h1, h2⟩
  · exact .inl (show 0 < b.2 - a.2 by omega)
  · exact .inr ⟨show b.2 - a.2 = 0 by omega, show 0 < b.1 - a.1 by omega⟩
theorem lx_trans {a b c : GP} (h : lx a b) (k : lx b c) : lx a c := by
  unfold lx at *
  omega
theorem lx_irr {a : GP} (h : lx a a) : False := by
  unfold lx at h
  omega
theorem lx_tri (a b : GP) : lx a b ∨ a = b ∨ lx b a := by
  unfold lx
  rcases Int.lt_trichotomy a.2 b.2 with h | h | h
  · exact .inl (.inl h)
  · rcases Int.lt_trichotomy a.1 b.1 with k | k | k
    · exact .inl (.inr ⟨h, k⟩)
    · exact .inr (.inl (Prod.ext k h))
    · exact .inr (.inr (.inr ⟨h.symm, k⟩))
  · exact .inr (.inr (.inl h))
theorem ori_cr (a b c : GP) : ori a b c = cr (d2 a b) (d2 b c) := rfl
theorem ori_cr2 (a b c : GP) : ori a b c = cr (d2 a b) (d2 a c) := by
  unfold ori cr d2
  grind
theorem ori_cr3 (a b c : GP) : ori a b c = cr (d2 c b) (d2 a b) := by
  unfold ori cr d2
  grind
theorem cr_anti (u v : GP) : cr v u = - cr u v := by
  unfold cr
  grind
theorem ori_add (a b c p : GP) : ori a b p = ori a b c + cr (d2 a b) (d2 c p) := by
  unfold ori cr d2
  grind
theorem cr_id2 (u v w : GP) : v.2 * cr u w = w.2 * cr u v + u.2 * cr v w := by
  unfold cr
  grind
theorem pos_of {a b : Int} (ha : 0 < a) (h : 0 ≤ a * b) : 0 ≤ b := by
  rcases Int.lt_or_le b 0 with z | z
  · have := Int.mul_neg_of_pos_of_neg ha z
    omega
  · exact z
theorem pos_of' {a b : Int} (ha : 0 < a) (h : 0 < a * b) : 0 < b := by
  rcases Int.lt_or_le 0 b with z | z
  · exact z
  · have := Int.mul_nonpos_of_nonneg_of_nonpos (Int.le_of_lt ha) z
    omega
theorem hp_w {v w : GP} (hv : hp v) (hw : hp w) (h : 0 ≤ cr v w) (k : 0 < v.2) : 0 < w.2 := by
  rcases hw with z | ⟨z1, z2⟩
  · exact z
  · unfold cr at h
    rw [z1, Int.mul_zero] at h
    have := Int.mul_pos k z2
    omega
theorem hp_flat {u v : GP} (hu : hp u) (hv : hp v) (h : 0 ≤ cr u v) (k : v.2 = 0) : u.2 = 0 ∧ 0 < u.1 ∧ 0 < v.1 := by
  have v1 : 0 < v.1 := by
    rcases hv with z | z
    · omega
    · exact z.2
  rcases hu with z | z
  · unfold cr at h
    rw [k, Int.mul_zero] at h
    have := Int.mul_pos z v1
    omega
  · exact ⟨z.1, z.2, v1⟩
theorem hp_up {v : GP} (h : hp v) : 0 ≤ v.2 := by
  rcases h with z | z <;> omega
/-- angles below a half turn are compared transitively -/
theorem cr_tr {u v w : GP} (hu : hp u) (hv : hp v) (hw : hp w) (h : 0 ≤ cr u v) (k : 0 ≤ cr v w) : 0 ≤ cr u w := by
  by_cases c : 0 < v.2
  · refine pos_of c ?_
    rw [cr_id2]
    have := Int.mul_nonneg (hp_up hw) h
    have := Int.mul_nonneg (hp_up hu) k
    omega
  · have c0 : v.2 = 0 := by have := hp_up hv; omega
    obtain ⟨u2, u1, v1⟩ := hp_flat hu hv h c0
    unfold cr
    rw [u2, Int.zero_mul, Int.sub_zero]
    exact Int.mul_nonneg (Int.le_of_lt u1) (hp_up hw)
theorem cr_tr1 {u v w : GP} (hu : hp u) (hv : hp v) (hw : hp w) (h : 0 < cr u v) (k : 0 ≤ cr v w) : 0 < cr u w := by
  by_cases c : 0 < v.2
  · refine pos_of' c ?_
    rw [cr_id2]
    have := Int.mul_pos (hp_w hv hw k c) h
    have := Int.mul_nonneg (hp_up hu) k
    omega
  · have c0 : v.2 = 0 := by have := hp_up hv; omega
    obtain ⟨u2, u1, v1⟩ := hp_flat hu hv (Int.le_of_lt h) c0
    unfold cr at h
    rw [u2, c0] at h
    omega
theorem cr_tr2 {u v w : GP} (hu : hp u) (hv : hp v) (hw : hp w) (h : 0 ≤ cr u v) (k : 0 < cr v w) : 0 < cr u w := by
  by_cases c : 0 < v.2
  · have w2 := hp_w hv hw (Int.le_of_lt k) c
    by_cases cu : 0 < u.2
    · refine pos_of' c ?_
      rw [cr_id2]
      have := Int.mul_nonneg (hp_up hw) h
      have := Int.mul_pos cu k
      omega
    · have u2 : u.2 = 0 := by have := hp_up hu; omega
      have u1 : 0 < u.1 := by
        rcases hu with z | z
        · omega
        · exact z.2
      unfold cr
      rw [u2, Int.zero_mul, Int.sub_zero]
      exact Int.mul_pos u1 w2
  · have c0 : v.2 = 0 := by have := hp_up hv; omega
    obtain ⟨u2, u1, v1⟩ := hp_flat hu hv h c0
    have w2 : 0 < w.2 := by
      unfold cr at k
      rw [c0, Int.zero_mul, Int.sub_zero] at k
      exact pos_of' v1 k
    unfold cr
    rw [u2, Int.zero_mul, Int.sub_zero]
    exact Int.mul_pos u1 w2
/-- a chain, its last point first: it goes up, and turns left strictly -/
def Conv : List GP → Prop
  | c :: b :: a :: r => lx b c ∧ 0 < ori a b c ∧ Conv (b :: a :: r)
  | [c, b] => lx b c
  | _ => True
/-- q is on the left of each line of the chain, or on it -/
def LA (q : GP) : List GP → Prop
  | c :: b :: r => 0 ≤ ori b c q ∧ LA q (b :: r)
  | _ => True
def bot : GP → List GP → GP
  | c, [] => c
  | _, b :: r => bot b r
theorem Conv.tail {c b : GP} {r : List GP} (h : Conv (c :: b :: r)) : lx b c ∧ Conv (b :: r) := by
  cases r with
  | nil => exact ⟨h, trivial⟩
  | cons a r => exact ⟨h.1, h.2.2⟩
theorem Conv.turn {c b a : GP} {r : List GP} (h : Conv (c :: b :: a :: r)) : 0 < ori a b c := h.2.1
theorem Conv.bot : ∀ {r : List GP} {c : GP}, Conv (c :: r) → ∀ x ∈ c :: r, x = bot c r ∨ lx (bot c r) x
  | [], c, _, x, hx => .inl (List.mem_singleton.mp hx)
  | b :: r, c, h, x, hx => by
    obtain ⟨h1, h2⟩ := h.tail
    have ih := Conv.bot h2
    rcases List.mem_cons.mp hx with rfl | hx
    · rcases ih b (.head _) with e | e
      · exact .inr (by rw [show G.bot x (b :: r) = b from e.symm]; exact h1)
      · exact .inr (lx_trans e h1)
    · exact ih x hx
theorem Conv.le : ∀ {r : List GP} {c : GP}, Conv (c :: r) → ∀ x ∈ r, lx x c
  | b :: r, c, h, x, hx => by
    obtain ⟨h1, h2⟩ := h.tail
    rcases List.mem_cons.mp hx with rfl | hx
    · exact h1
    · exact lx_trans (Conv.le h2 x hx) h1
theorem bot_mem : ∀ (r : List GP) (c : GP), bot c r ∈ c :: r
  | [], c => .head _
  | b :: r, c => .tail _ (bot_mem r b)
theorem LA.tail {q c b : GP} {r : List GP} (h : LA q (c :: b :: r)) : LA q (b :: r) := h.2
theorem LA.of_edge {q : GP} {r : List GP} {c : GP} (h : LA q (c :: r)) : LA q r := by
  cases r with
  | nil => trivial
  | cons b r => exact h.2
def popB : List GP → GP → List GP
  | b :: a :: r, p => if 0 < ori a b p then b :: a :: r else popB (a :: r) p
  | st, _ => st
/-- what holds when the popping ends -/
structure Popped (P : List GP) (p : GP) (c0 : GP) (r0 : List GP) (c : GP) (r : List GP) : Prop where
  conv : Conv (c :: r)
  la : ∀ q ∈ P, LA q (c :: r)
  bot : bot c r = bot c0 r0
  sub : ∀ x ∈ c :: r, x ∈ c0 :: r0
  inv : ∀ q ∈ P, lx c q → 0 ≤ cr (d2 c p) (d2 c q)
  stop : ∀ a ∈ r.head?, 0 < ori a c p
theorem pop_ok {P : List GP} {p : GP} : ∀ (r0 : List GP) (c0 : GP), Conv (c0 :: r0) → (∀ q ∈ P, LA q (c0 :: r0)) → (∀ x ∈ c0 :: r0, lx x p) → (∀ q ∈ P, lx c0 q → 0 ≤ cr (d2 c0 p) (d2 c0 q)) → ∃ c r, popB (c0 :: r0) p = c :: r ∧ Popped P p c0 r0 c r
  | [], c0, h1, h2, h3, h4 => ⟨c0, [], rfl, h1, h2, rfl, fun x hx => hx, h4, fun a ha => by cases ha⟩
  | a :: r0, b, h1, h2, h3, h4 => by
    by_cases k : 0 < ori a b p
    · exact ⟨b, a :: r0, if_pos k, h1, h2, rfl, fun x hx => hx, h4, fun x hx => by cases hx; exact k⟩
    · obtain ⟨l1, l2⟩ := h1.tail
      have lap := h3 a (.tail _ (.head _))
      obtain ⟨c, r, e, z⟩ := pop_ok (P := P) (p := p) r0 a l2 (fun q hq => (h2 q hq).2) (fun x hx => h3 x (.tail _ hx)) fun q hq hl => by
        have k1 : 0 ≤ cr (d2 a p) (d2 a b) := by
          rw [ori_cr2] at k
          rw [cr_anti]
          omega
        have k2 := (h2 q hq).1
        rw [ori_cr2] at k2
        exact cr_tr (lx_hp lap) (lx_hp l1) (lx_hp hl) k1 k2
      refine ⟨c, r, ?_, z.conv, z.la, z.bot, fun x hx => .tail _ (z.sub x hx), z.inv, z.stop⟩
      show (if 0 < ori a b p then _ else popB (a :: r0) p) = _
      rw [if_neg k]
      exact e
theorem la_new {p : GP} : ∀ (r : List GP) (c : GP), Conv (c :: r) → lx c p → (∀ a ∈ r.head?, 0 < ori a c p) → LA p (c :: r)
  | [], c, _, _, _ => trivial
  | [a], c, h, hp', h1 => ⟨Int.le_of_lt (h1 a rfl), trivial⟩
  | a :: b :: r, c, h, hcp, h1 => by
    obtain ⟨l1, l2⟩ := h.tail
    have k := h1 a rfl
    have t := h.turn
    refine ⟨Int.le_of_lt k, la_new (b :: r) a l2 (lx_trans l1 hcp) fun x hx => ?_⟩
    cases hx
    have l3 := l2.tail.1
    have s : 0 < cr (d2 b a) (d2 c p) := cr_tr1 (lx_hp l3) (lx_hp l1) (lx_hp hcp) t (Int.le_of_lt k)
    rw [ori_add b a c p]
    omega
/-- a chain of P from its least to its greatest point -/
structure Ch (P : List GP) (m : GP) (c : GP) (r : List GP) : Prop where
  conv : Conv (c :: r)
  la : ∀ q ∈ P, LA q (c :: r)
  bot : bot c r = m
  sub : ∀ x ∈ c :: r, x ∈ P
theorem ch_push {P : List GP} {m c0 p : GP} {r0 : List GP} (h : Ch P m c0 r0) (hm : ∀ q ∈ P, q = m ∨ lx m q) (hmax : ∀ q ∈ P, q = c0 ∨ lx q c0) (hp' : ∀ q ∈ P, lx q p) : ∃ r, p :: popB (c0 :: r0) p = p :: r ∧ Ch (P ++ [p]) m p r := by
  obtain ⟨c, r, e, z⟩ := pop_ok (P := P) (p := p) r0 c0 h.conv h.la (fun x hx => hp' x (h.sub x hx)) fun q hq hl => by
    rcases hmax q hq with rfl | k
    · exact (lx_irr hl).elim
    · exact (lx_irr (lx_trans hl k)).elim
  have cP : c ∈ P := h.sub c (z.sub c (.head _))
  have lcp := hp' c cP
  refine ⟨c :: r, by rw [e], ?_, fun q hq => ?_, ?_, fun x hx => ?_⟩
  · cases r with
    | nil => exact lcp
    | cons a r => exact ⟨lcp, z.stop a rfl, z.conv⟩
  · rcases List.mem_append.mp hq with hq | hq
    · refine ⟨?_, z.la q hq⟩
      rcases lx_tri q c with k | rfl | k
      · cases r with
        | nil =>
          exfalso
          have hb : c = m := by rw [← h.bot, ← z.bot]; rfl
          rcases hm q hq with e | e
          · rw [e, hb] at k
            exact lx_irr k
          · rw [hb] at k
            exact lx_irr (lx_trans k e)
        | cons a r =>
          have k1 := (z.la q hq).1
          rw [ori_cr3] at k1
          have k2 := z.stop a rfl
          have la := z.conv.tail.1
          have := cr_tr (lx_hp k) (lx_hp la) (lx_hp lcp) k1 (Int.le_of_lt k2)
          rw [ori_cr2, cr_anti]
          unfold cr d2 at *
          grind
      · rw [ori_cr2]
        unfold cr d2
        grind
      · rw [ori_cr2]
        exact z.inv q hq k
    · rw [List.mem_singleton.mp hq]
      refine ⟨?_, la_new r c z.conv lcp z.stop⟩
      unfold ori
      grind
  · show G.bot c r = m
    rw [z.bot, h.bot]
  · rcases List.mem_cons.mp hx with rfl | hx
    · exact List.mem_append.mpr (.inr (.head _))
    · exact List.mem_append.mpr (.inl (h.sub x (z.sub x hx)))
def scan : List GP → List GP → List GP
  | st, [] => st
  | st, p :: ps => scan (p :: popB st p) ps
def Up (us : List GP) : Prop := us.Pairwise lx
theorem scan_ok {m : GP} : ∀ (ps P : List GP) (c0 : GP) (r0 : List GP), Ch P m c0 r0 → (∀ q ∈ P, q = m ∨ lx m q) → (∀ q ∈ P, q = c0 ∨ lx q c0) → (∀ q ∈ P, ∀ p ∈ ps, lx q p) → Up ps →
    ∃ c r, scan (c0 :: r0) ps = c :: r ∧ Ch (P ++ ps) m c r ∧ ∀ q ∈ P ++ ps, q = c ∨ lx q c
  | [], P, c0, r0, h, _, hmax, _, _ => ⟨c0, r0, rfl, by rw [List.append_nil]; exact h, by rw [List.append_nil]; exact hmax⟩
  | p :: ps, P, c0, r0, h, hm, hmax, hps, hu => by
    have hu' := List.pairwise_cons.mp hu
    obtain ⟨r, e, z⟩ := ch_push h hm hmax fun q hq => hps q hq p (.head _)
    have hm' : ∀ q ∈ P ++ [p], q = m ∨ lx m q := fun q hq => by
      rcases List.mem_append.mp hq with hq | hq
      · exact hm q hq
      · rw [List.mem_singleton.mp hq]
        have hc0 := h.sub c0 (.head _)
        rcases hm c0 hc0 with e | e
        · exact .inr (by rw [← e]; exact hps c0 hc0 p (.head _))
        · exact .inr (lx_trans e (hps c0 hc0 p (.head _)))
    have hmax' : ∀ q ∈ P ++ [p], q = p ∨ lx q p := fun q hq => by
      rcases List.mem_append.mp hq with hq | hq
      · exact .inr (hps q hq p (.head _))
      · exact .inl (List.mem_singleton.mp hq)
    have hps' : ∀ q ∈ P ++ [p], ∀ x ∈ ps, lx q x := fun q hq x hx => by
      rcases List.mem_append.mp hq with hq | hq
      · exact hps q hq x (.tail _ hx)
      · rw [List.mem_singleton.mp hq]
        exact hu'.1 x hx
    obtain ⟨c, r', e2, z2, z3⟩ := scan_ok ps (P ++ [p]) p r z hm' hmax' hps' hu'.2
    rw [List.append_assoc] at z2 z3
    refine ⟨c, r', ?_, z2, z3⟩
    show scan (p :: popB (c0 :: r0) p) ps = _
    rw [e]
    exact e2
theorem scan_ch {m : GP} {us : List GP} (hu : Up (m :: us)) : ∃ c r, scan [] (m :: us) = c :: r ∧ Ch (m :: us) m c r ∧ ∀ q ∈ m :: us, q = c ∨ lx q c := by
  have hu' := List.pairwise_cons.mp hu
  exact scan_ok us [m] m [] ⟨trivial, fun q _ => trivial, rfl, fun x hx => hx⟩ (fun q hq => .inl (List.mem_singleton.mp hq)) (fun q hq => .inl (List.mem_singleton.mp hq)) (fun q hq p hp => by rw [List.mem_singleton.mp hq]; exact hu'.1 p hp) hu'.2
/-! the other way around -/
def ng (a : GP) : GP := (-a.1, -a.2)
theorem ng_ng (a : GP) : ng (ng a) = a := by
  unfold ng
  simp
theorem ori_ng (a b c : GP) : ori (ng a) (ng b) (ng c) = ori a b c := by
  unfold ori ng
  grind
theorem lx_ng {a b : GP} : lx (ng a) (ng b) ↔ lx b a := by
  unfold lx ng
  simp only []
  omega
theorem popB_ng : ∀ (st : List GP) (p : GP), popB (st.map ng) (ng p) = (popB st p).map ng
  | [], p => rfl
  | [a], p => rfl
  | b :: a :: r, p => by
    show (if 0 < ori (ng a) (ng b) (ng p) then ng b :: ng a :: r.map ng else popB ((a :: r).map ng) (ng p)) = (if 0 < ori a b p then b :: a :: r else popB (a :: r) p).map ng
    rw [ori_ng, popB_ng (a :: r) p]
    split <;> rfl
theorem scan_ng : ∀ (ps st : List GP), scan (st.map ng) (ps.map ng) = (scan st ps).map ng
  | [], st => rfl
  | p :: ps, st => by
    show scan (ng p :: popB (st.map ng) (ng p)) (ps.map ng) = (scan (p :: popB st p) ps).map ng
    rw [popB_ng, ← scan_ng ps]
    rfl
/-- as side does it: all but the last -/
def sideF (ps : List GP) : List GP := (scan [] ps).tail.reverse
def hull (us : List GP) : List GP := if us.length = 1 then us else sideF us ++ sideF us.reverse
/-! how far a chain reaches -/
theorem edge_x {b c q : GP} (h1 : lx b q) (h2 : lx q c) (h : 0 ≤ ori b c q) : q.1 ≤ b.1 ∨ q.1 ≤ c.1 := by
  rcases Int.lt_or_le b.1 q.1 with k1 | k1
  · rcases Int.lt_or_le c.1 q.1 with k2 | k2
    · exfalso
      have hy : 0 ≤ c.2 - b.2 := by unfold lx at *; omega
      have hcy : b.2 = c.2 → False := fun e => by unfold lx at *; omega
      have hpos : 0 < c.2 - b.2 := by
        rcases Int.lt_or_le 0 (c.2 - b.2) with z | z
        · exact z
        · exact (hcy (by omega)).elim
      rcases Int.lt_or_le c.1 b.1 with k3 | k3
      · have e := ori_cr2 b c q
        rw [e] at h
        unfold cr d2 at h
        have m1 := Int.mul_nonpos_of_nonpos_of_nonneg (show c.1 - b.1 ≤ 0 by omega) (show 0 ≤ q.2 - b.2 by unfold lx at h1; omega)
        have m2 := Int.mul_pos hpos (show 0 < q.1 - b.1 by omega)
        simp only [] at h
        omega
      · unfold ori at h
        have m1 := Int.mul_nonpos_of_nonneg_of_nonpos (show 0 ≤ c.1 - b.1 by omega) (show q.2 - c.2 ≤ 0 by unfold lx at h2; omega)
        have m2 := Int.mul_pos hpos (show 0 < q.1 - c.1 by omega)
        omega
    · exact .inr k2
  · exact .inl k1
theorem chain_x {q : GP} : ∀ (r : List GP) (c : GP), Conv (c :: r) → LA q (c :: r) → (q = bot c r ∨ lx (bot c r) q) → (q = c ∨ lx q c) → ∃ t ∈ c :: r, q.1 ≤ t.1
  | [], c, _, _, h1, h2 => ⟨c, .head _, by
      rcases h2 with rfl | h2
      · exact Int.le_refl _
      · rcases h1 with e | e
        · have e : q = c := e
          rw [e]
          exact Int.le_refl _
        · have e : lx c q := e
          exact (lx_irr (lx_trans e h2)).elim⟩
  | b :: r, c, hc, hl, h1, h2 => by
    rcases h2 with rfl | h2
    · exact ⟨q, .head _, Int.le_refl _⟩
    rcases lx_tri q b with k | rfl | k
    · obtain ⟨t, ht, hx⟩ := chain_x r b hc.tail.2 hl.2 h1 (.inr k)
      exact ⟨t, .tail _ ht, hx⟩
    · exact ⟨q, .tail _ (.head _), Int.le_refl _⟩
    · rcases edge_x k h2 hl.1 with e | e
      · exact ⟨b, .tail _ (.head _), e⟩
      · exact ⟨c, .head _, e⟩
/-- the two chains of the hull -/
structure Two (us : List GP) (m M : GP) (rS rT : List GP) : Prop where
  s : scan [] us = M :: rS
  t : scan [] us.reverse = m :: rT
  cs : Ch us m M rS
  ct : Ch (us.map ng) (ng M) (ng m) (rT.map ng)
  lo : ∀ q ∈ us, q = m ∨ lx m q
  hi : ∀ q ∈ us, q = M ∨ lx q M
theorem Ch.congr {P P' : List GP} {m c : GP} {r : List GP} (h : Ch P m c r) (e : ∀ q, q ∈ P' ↔ q ∈ P) : Ch P' m c r := ⟨h.conv, fun q hq => h.la q ((e q).mp hq), h.bot, fun x hx => (e x).mpr (h.sub x hx)⟩
theorem two_of {us : List GP} (hu : Up us) (hne : us ≠ []) : ∃ m M rS rT, Two us m M rS rT := by
  obtain ⟨m, us', rfl⟩ : ∃ m us', us = m :: us' := by
    cases us with
    | nil => exact absurd rfl hne
    | cons m us' => exact ⟨m, us', rfl⟩
  obtain ⟨M, rS, e1, c1, h1⟩ := scan_ch hu
  have hr : Up ((m :: us').reverse.map ng) := by
    show List.Pairwise lx _
    rw [List.pairwise_map, List.pairwise_reverse]
    exact hu.imp fun h => lx_ng.mpr h
  obtain ⟨x, xs, hx⟩ : ∃ x xs, (m :: us').reverse = x :: xs := by
    cases z : (m :: us').reverse with
    | nil => simp at z
    | cons x xs => exact ⟨x, xs, rfl⟩
  rw [hx, List.map_cons] at hr
  obtain ⟨n, rT, e2, c2, h2⟩ := scan_ch hr
  have e3 : scan [] (m :: us').reverse = ng n :: rT.map ng := by
    have e4 := scan_ng (x :: xs) []
    rw [List.map_nil, List.map_cons, e2] at e4
    rw [hx]
    have e5 := congrArg (List.map ng) e4
    rw [List.map_map, List.map_cons] at e5
    rw [e5]
    refine (List.map_id'' (fun a => ng_ng a) _).symm.trans ?_
    rfl
  have hmem : ∀ q, q ∈ m :: us' ↔ q ∈ x :: xs := fun q => by rw [← hx, List.mem_reverse]
  have lo : ∀ q ∈ m :: us', q = m ∨ lx m q := fun q hq => by
    rcases List.mem_cons.mp hq with e | e
    · exact .inl e
    · exact .inr ((List.pairwise_cons.mp hu).1 q e)
  have hn : ng n = m := by
    have k1 : ng n ∈ m :: us' := by
      have : n ∈ (x :: xs).map ng := c2.sub n (.head _)
      obtain ⟨y, hy, rfl⟩ := List.mem_map.mp this
      rw [ng_ng]
      exact (hmem y).mpr hy
    have k2 : ng m ∈ ng x :: xs.map ng := List.mem_map.mpr ⟨m, (hmem m).mp (.head _), rfl⟩
    rcases h2 _ k2 with e | e
    · rw [← e, ng_ng]
    · rcases lo _ k1 with e' | e'
      · exact e'
      · exfalso
        have e6 : lx (ng n) m := by
          rw [← ng_ng m]
          have := lx_ng.mpr e
          rw [ng_ng] at this
          rw [ng_ng]
          exact this
        exact lx_irr (lx_trans e' e6)
  have hxM : x = M := by
    have k1 : x ∈ m :: us' := (hmem x).mpr (.head _)
    have k2 : M ∈ m :: us' := c1.sub M (.head _)
    rcases h1 x k1 with e | e
    · exact e
    · exfalso
      rcases List.mem_cons.mp ((hmem M).mp k2) with z | z
      · rw [z] at e
        exact lx_irr e
      · have := (List.pairwise_cons.mp hr).1 (ng M) (List.mem_map.mpr ⟨M, z, rfl⟩)
        exact lx_irr (lx_trans e (lx_ng.mp this))
  refine ⟨m, M, rS, rT.map ng, ⟨e1, by rw [e3, hn], c1, ?_, lo, h1⟩⟩
  have e7 : (rT.map ng).map ng = rT := by
    rw [List.map_map]
    exact List.map_id'' (fun a => ng_ng a) _
  have en : ng m = n := by rw [← hn, ng_ng]
  rw [e7, en, ← hxM]
  refine c2.congr fun q => ?_
  rw [show ng x :: xs.map ng = (x :: xs).map ng from rfl]
  constructor
  · intro h
    obtain ⟨y, hy, rfl⟩ := List.mem_map.mp h
    exact List.mem_map.mpr ⟨y, (hmem y).mp hy, rfl⟩
  · intro h
    obtain ⟨y, hy, rfl⟩ := List.mem_map.mp h
    exact List.mem_map.mpr ⟨y, (hmem y).mpr hy, rfl⟩
theorem Two.eq {us : List GP} {m M : GP} {rS rT : List GP} (h : Two us m M rS rT) (hl : us.length ≠ 1) : hull us = rS.reverse ++ rT.reverse := by
  unfold hull sideF
  rw [if_neg hl, h.s, h.t]
  rfl
theorem Two.mM {us : List GP} {m M : GP} {rS rT : List GP} (h : Two us m M rS rT) (hu : Up us) (hl : 2 ≤ us.length) : lx m M := by
  have hm : m ∈ us := by
    have := h.ct.sub (ng m) (.head _)
    obtain ⟨y, hy, e⟩ := List.mem_map.mp this
    rw [← ng_ng m, ← e, ng_ng]
    exact hy
  have hM : M ∈ us := h.cs.sub M (.head _)
  rcases h.hi m hm with e | e
  · exfalso
    cases us with
    | nil => simp at hl
    | cons a us =>
      cases us with
      | nil => simp at hl
      | cons b us =>
        have hab := (List.pairwise_cons.mp hu).1 b (.head _)
        have h1 := h.lo a (.head _)
        have h2 := h.hi a (.head _)
        have h3 := h.lo b (.tail _ (.head _))
        have h4 := h.hi b (.tail _ (.head _))
        rw [e] at h1 h3
        rcases h4 with e4 | e4
        · rcases h1 with e1 | e1
          · rw [e1, e4] at hab
            exact lx_irr hab
          · rw [e4] at hab
            exact lx_irr (lx_trans e1 hab)
        · rcases h3 with e3 | e3
          · rw [e3] at e4
            exact lx_irr e4
          · exact lx_irr (lx_trans e3 e4)
  · exact e
/-- both chains lie in the hull -/
theorem Two.mem {us : List GP} {m M : GP} {rS rT : List GP} (h : Two us m M rS rT) (hu : Up us) (hl : 2 ≤ us.length) : (∀ x ∈ M :: rS, x ∈ hull us) ∧ (∀ x ∈ m :: rT, x ∈ hull us) ∧ m ∈ rS ∧ M ∈ rT := by
  have hmM := h.mM hu hl
  have hne : m ≠ M := fun e => by rw [e] at hmM; exact lx_irr hmM
  have e := h.eq (by omega)
  have mS : m ∈ rS := by
    have := bot_mem rS M
    rw [h.cs.bot] at this
    rcases List.mem_cons.mp this with z | z
    · exact absurd z hne
    · exact z
  have MT : M ∈ rT := by
    have := bot_mem (rT.map ng) (ng m)
    rw [h.ct.bot] at this
    rcases List.mem_cons.mp this with z | z
    · exfalso
      have := congrArg ng z
      rw [ng_ng, ng_ng] at this
      exact hne this.symm
    · obtain ⟨y, hy, e2⟩ := List.mem_map.mp z
      rw [← ng_ng M, ← e2, ng_ng]
      exact hy
  refine ⟨fun x hx => ?_, fun x hx => ?_, mS, MT⟩
  · rw [e, List.mem_append, List.mem_reverse, List.mem_reverse]
    rcases List.mem_cons.mp hx with rfl | hx
    · exact .inr MT
    · exact .inl hx
  · rw [e, List.mem_append, List.mem_reverse, List.mem_reverse]
    rcases List.mem_cons.mp hx with rfl | hx
    · exact .inl mS
    · exact .inr hx
theorem Two.sub {us : List GP} {m M : GP} {rS rT : List GP} (h : Two us m M rS rT) (hl : us.length ≠ 1) : ∀ x ∈ hull us, x ∈ us := by
  intro x hx
  rw [h.eq hl, List.mem_append, List.mem_reverse, List.mem_reverse] at hx
  rcases hx with hx | hx
  · exact h.cs.sub x (.tail _ hx)
  · have := h.ct.sub (ng x) (.tail _ (List.mem_map.mpr ⟨x, hx, rfl⟩))
    obtain ⟨y, hy, e⟩ := List.mem_map.mp this
    rw [← ng_ng x, ← e, ng_ng]
    exact hy
theorem hull_sub {us : List GP} (hu : Up us) (hne : us ≠ []) : ∀ x ∈ hull us, x ∈ us := by
  by_cases hl : us.length = 1
  · intro x hx
    unfold hull at hx
    rw [if_pos hl] at hx
    exact hx
  · obtain ⟨m, M, rS, rT, h⟩ := two_of hu hne
    exact h.sub hl
/-- how far the hull reaches -/
theorem hull_ext {us : List GP} (hu : Up us) (hne : us ≠ []) {q : GP} (hq : q ∈ us) : (∃ t ∈ hull us, q.1 ≤ t.1) ∧ (∃ t ∈ hull us, t.1 ≤ q.1) ∧ (∃ t ∈ hull us, t.2 ≤ q.2) ∧ ∃ t ∈ hull us, q.2 ≤ t.2 := by
  by_cases hl : us.length = 1
  · have e : hull us = us := if_pos hl
    rw [e]
    exact ⟨⟨q, hq, Int.le_refl _⟩, ⟨q, hq, Int.le_refl _⟩, ⟨q, hq, Int.le_refl _⟩, ⟨q, hq, Int.le_refl _⟩⟩
  · have hl2 : 2 ≤ us.length := by
      have : us.length ≠ 0 := fun z => hne (List.length_eq_zero_iff.mp z)
      omega
    obtain ⟨m, M, rS, rT, h⟩ := two_of hu hne
    obtain ⟨k1, k2, k3, k4⟩ := h.mem hu hl2
    refine ⟨?_, ?_, ⟨m, k2 m (.head _), ?_⟩, ⟨M, k1 M (.head _), ?_⟩⟩
    · obtain ⟨t, ht, hx⟩ := chain_x rS M h.cs.conv (h.cs.la q hq) (by rw [h.cs.bot]; exact h.lo q hq) (h.hi q hq)
      exact ⟨t, k1 t ht, hx⟩
    · have hq' : ng q ∈ us.map ng := List.mem_map.mpr ⟨q, hq, rfl⟩
      obtain ⟨t, ht, hx⟩ := chain_x (q := ng q) (rT.map ng) (ng m) h.ct.conv (h.ct.la _ hq') (by
        rw [h.ct.bot]
        rcases h.hi q hq with e | e
        · exact .inl (by rw [e])
        · exact .inr (lx_ng.mpr e)) (by
        rcases h.lo q hq with e | e
        · exact .inl (by rw [e])
        · exact .inr (lx_ng.mpr e))
      have ht' : t ∈ (m :: rT).map ng := ht
      obtain ⟨y, hy, rfl⟩ := List.mem_map.mp ht'
      refine ⟨y, k2 y hy, ?_⟩
      unfold ng at hx
      simp only [] at hx
      omega
    · rcases h.lo q hq with e | e
      · rw [e]
        exact Int.le_refl _
      · unfold lx at e
        omega
    · rcases h.hi q hq with e | e
      · rw [e]
        exact Int.le_refl _
      · unfold lx at e
        omega
theorem hull_ne {us : List GP} (hu : Up us) (hne : us ≠ []) : hull us ≠ [] := by
  intro e
  obtain ⟨q, hq⟩ : ∃ q, q ∈ us := by
    cases us with
    | nil => exact absurd rfl hne
    | cons a us => exact ⟨a, .head _⟩
  obtain ⟨⟨t, ht, _⟩, _⟩ := hull_ext hu hne hq
  rw [e] at ht
  cases ht
local macro_rules | `(tactic| walk_at "z1") => `(tactic| first
  | with_reducible refine z_max2 ?_
  | with_reducible refine z_min2 ?_
  | with_reducible refine z_tru ?_)
def sp_turns_left (K : PySem.W.Frag) : Sp := fun vs H Q _ => ∃ (u v w : V) (a b c : GP), vs = [u, v, w] ∧ Dp K H u (gD a) ∧ Dp K H v (gD b) ∧ Dp K H w (gD c) ∧ Gm a ∧ Gm b ∧ Gm c ∧ Q (.bl (decide (0 < ori a b c))) H
section
theorem ok_turns_left {P : Program} {w : World} {K : PySem.W.Frag} {mg : Str → Option Value} {base : Heap} {A : Nat → Addr} {D : Nat → FuncData} (T : Txt K mg A D) : FnOk P w K mg base (L2.CX P w) 1 (A 29) (D 29) ["a", "b", "c"] (sp_turns_left K) := by
  refine T.F_turns_left.okX sc_turns_left (fun vs H Q E h => ?_) (fun cdv A' outer s H vs Q E hr h => ?_)
  · obtain ⟨u, v, w', a, b, c, rfl, _⟩ := h
    rfl
  obtain ⟨u, v, w', a, b, c, rfl, d1, d2, d3, ga, gb, gc, q⟩ := h
  refine ⟨_, (pss_one (ps_ret (pe_cmpR op_gt (pe_op op_mulW (pe_op op_sub (pe_ix ix_tup (pv 1) pe_int (fun _ _ => rfl)) (pe_ix ix_tup (pv 0) pe_int (fun _ _ => rfl))) (pe_op op_sub (pe_ix ix_tup (pv 2) pe_int (fun _ _ => rfl)) (pe_ix ix_tup (pv 1) pe_int (fun _ _ => rfl)))) (pe_op op_mulW (pe_op op_sub (pe_ix ix_tup (pv 1) pe_int (fun _ _ => rfl)) (pe_ix ix_tup (pv 0) pe_int (fun _ _ => rfl))) (pe_op op_sub (pe_ix ix_tup (pv 2) pe_int (fun _ _ => rfl)) (pe_ix ix_tup (pv 1) pe_int (fun _ _ => rfl)))) (nomark _)))), ?_⟩
  obtain ⟨p1, rfl, h1⟩ := dp_g d1
  obtain ⟨p2, rfl, h2⟩ := dp_g d2
  obtain ⟨p3, rfl, h3⟩ := dp_g d3
  walk_at "z"
  refine z_I (gm_mul (gm_sub gb.1 ga.1) (gm_sub gc.2 gb.2)) ?_
  walk_at "z"
  refine z_I (gm_mul (gm_sub gb.2 ga.2) (gm_sub gc.1 gb.1)) ?_
  walk_at "z"
  rw [show decide (0 < ori a b c) = decide ((b.2 - a.2) * (c.1 - b.1) < (b.1 - a.1) * (c.2 - b.2)) from decide_eq_decide.mpr (by unfold ori; omega)] at q
  exact q
end
section
variable {K : PySem.W.Frag} {H : Hp}
theorem Gs.unapp : ∀ {ws : List V} {zs : List GP} {c : GP}, Gs K H ws (zs ++ [c]) → ∃ wd w, ws = wd ++ [w] ∧ Gs K H wd zs ∧ Dp K H w (gD c)
  | [], [], _, h => h.elim
  | [], _ :: _, _, h => h.elim
  | [w], [], c, h => ⟨[], w, rfl, trivial, h.1⟩
  | w :: w2 :: ws, [], c, h => h.2.elim
  | w :: ws, z :: zs, c, h => by
    obtain ⟨wd, w2, e, h1, h2⟩ := Gs.unapp h.2
    exact ⟨w :: wd, w2, by rw [e]; rfl, ⟨h.1, h1⟩, h2⟩
end
theorem at_last (wd : List V) (w : V) : atI (wd ++ [w]) (-1) = some w := atI_last wd w
theorem at_last2 (wd : List V) (v w : V) : atI (wd ++ [v] ++ [w]) (-2) = some v := by
  have e : ixN (wd ++ [v] ++ [w]).length (-2) = some wd.length := by
    rw [List.length_append, List.length_append, List.length_singleton, List.length_singleton]
    unfold ixN
    simp
    omega
  unfold atI
  rw [e]
  simp
theorem scan_app : ∀ (ps st : List GP) (p : GP), scan st (ps ++ [p]) = p :: popB (scan st ps) p
  | [], st, p => rfl
  | a :: ps, st, p => scan_app ps (a :: popB st a) p
theorem popB_short {st : List GP} {p : GP} (h : st.length < 2) : popB st p = st := by
  cases st with
  | nil => rfl
  | cons b st =>
    cases st with
    | nil => rfl
    | cons a st =>
      simp only [List.length_cons] at h
      omega
theorem popB_sub : ∀ (st : List GP) (p : GP), ∀ x ∈ popB st p, x ∈ st
  | [], p, x, hx => hx
  | [a], p, x, hx => hx
  | b :: a :: r, p, x, hx => by
    have hx : x ∈ (if 0 < ori a b p then b :: a :: r else popB (a :: r) p) := hx
    split at hx
    · exact hx
    · exact .tail _ (popB_sub (a :: r) p x hx)
theorem popB_len : ∀ (st : List GP) (p : GP), (popB st p).length ≤ st.length
  | [], p => Nat.le_refl _
  | [a], p => Nat.le_refl _
  | b :: a :: r, p => by
    show (if 0 < ori a b p then b :: a :: r else popB (a :: r) p).length ≤ _
    split
    · exact Nat.le_refl _
    · exact Nat.le_succ_of_le (popB_len (a :: r) p)
theorem scan_len : ∀ (ps st : List GP), (scan st ps).length ≤ st.length + ps.length
  | [], st => Nat.le_refl _
  | p :: ps, st => by
    have h1 := scan_len ps (p :: popB st p)
    have h2 := popB_len st p
    show (scan (p :: popB st p) ps).length ≤ _
    simp only [List.length_cons] at *
    omega
theorem scan_sub : ∀ (ps st : List GP), ∀ x ∈ scan st ps, x ∈ st ∨ x ∈ ps
  | [], st, x, hx => .inl hx
  | p :: ps, st, x, hx => by
    rcases scan_sub ps (p :: popB st p) x hx with h | h
    · rcases List.mem_cons.mp h with rfl | h
      · exact .inr (.head _)
      · exact .inl (popB_sub st p x h)
    · exact .inr (.tail _ h)
def lenAt (l : Addr) : L2.St → Hp → Nat := fun _ H => match H l with
  | some (.lst xs) => xs.length
  | _ => 0
theorem lenAt_of {l : Addr} {σ : L2.St} {H : Hp} {xs : List V} (h : H l = some (.lst xs)) : lenAt l σ H = xs.length := by
  unfold lenAt
  rw [h]
theorem cut_init (wd : List V) (w : V) : cutV (wd ++ [w]) none (some (-1)) = wd := by
  unfold cutV
  have e : HT.sIx (wd ++ [w]).length (wd ++ [w]).length (some (-1)) = wd.length := by
    show (if (-1 : Int) < 0 then ((-1 : Int) + ((wd ++ [w]).length : Int)).toNat else min (-1 : Int).toNat (wd ++ [w]).length) = _
    rw [if_pos (by decide), List.length_append, List.length_singleton]
    omega
  rw [e, HT.sIx_none]
  simp
def sp_side (K : PySem.W.Frag) : Sp := fun vs H Q _ => ∃ (p : Addr) (ws : List V) (ps : List GP), vs = [.ref p] ∧ H p = some (.lst ws) ∧ Gs K H ws ps ∧ (∀ z ∈ ps, Gm z) ∧ ps.length ≤ 100 ∧ ps ≠ [] ∧
  ∀ a H' us, H a = none → Same H H' → H' a = some (.lst us) → Gs K H' us (sideF ps) → Q (.ref a) H'
section
theorem ok_side {P : Program} {w : World} {K : PySem.W.Frag} {mg : Str → Option Value} {base : Heap} {A : Nat → Addr} {D : Nat → FuncData} (T : Txt K mg A D) : FnOk P w K mg base (L2.CX P w) 2 (A 28) (D 28) ["points"] (sp_side K) := by
  refine T.F_side.okX sc_side (fun vs H Q E h => ?_) (fun cdv A' outer s H vs Q E hr h => ?_)
  · obtain ⟨p, ws, ps, rfl, _⟩ := h
    rfl
  obtain ⟨p, ws, ps, rfl, hp, g, gm, hl, hne, q⟩ := h
  refine ⟨_, (pss_cons (ps_set (i := 1) sc_side.nd rfl (.inl rfl) (pe_lst pa_nil))
  (pss_cons (ps_for (passes_of rfl) rfl (pi_list (pv 0)) (pg_name (i := 2) sc_side.nd rfl (.inl rfl))
  (pss_cons (ps_while (passes_of rfl) (PW.pt (pw_and (pt_cmpR op_ge (pe_callB Z.c_len (by rfl) T.z_len (by decide +kernel) (pa_cons (pv 1) pa_nil)) pe_int (nomark _)) (pw_and1 (pt_not (pt_val (pe_call (ok_turns_left T) (hr.mono (by decide)) (by rfl) T.m_turns_left T.F_turns_left.kp T.b_turns_left .nil (passes_call (takes_of rfl rfl rfl rfl) (fun _ _ _ _ h => h)) (pa_cons (pe_ix ix_list (pv 1) (pe_un un_neg pe_int) (fun _ _ => rfl)) (pa_cons (pe_ix ix_list (pv 1) (pe_un un_neg pe_int) (fun _ _ => rfl)) (pa_cons (pv 2) pa_nil)))))))))
  (pss_one (ps_expr (pe_bm0 PySem.F.plainAttrs_list PySem.F.slot_list_pop PySem.F.type_list_pop mt_pop (pv 1)))))
  (pss_one (ps_expr (pe_bm PySem.F.plainAttrs_list PySem.F.slot_list_append PySem.F.type_list_append mt_append (pv 1) (pa_cons (pv 2) pa_nil))))))
  (pss_one (ps_ret (pe_slice sl_list (pv 1) po_none (po_some (pe_un un_neg pe_int))))))), ?_⟩
  have lw := g.len
  walk_at "z"
  intro l H1 f1 s1 e1
  walk_at "z"
  refine z_forL (fun R q => by walk_at "z"; exact q) (.inl (.inl (s1 _ _ hp))) (fun i σ' H' => Same H H' ∧ ∃ (u : Option V) (vs : List V) (zs : List GP), σ' = [some (.ref p), some (.ref l), u] ∧ H' l = some (.lst vs) ∧ Gs K H' vs zs ∧ zs = (scan [] (ps.take i)).reverse) ⟨s1, _, [], [], rfl, e1, trivial, rfl⟩
    (fun i σ' H' _ h => .inl (.inl (h.1 _ _ hp))) ?_ ?_
  · rintro i x σ' H2 hx ⟨s2, u, vs, zs, rfl, e2, g2, hz⟩
    obtain ⟨c, hc, dc⟩ := g.getv hx
    have hil := (List.getElem?_eq_some_iff.mp hc).1
    have tk : ps.take (i + 1) = ps.take i ++ [c] := by rw [List.take_add_one, hc]; rfl
    have gc := gm c (List.mem_of_getElem? hc)
    have hsub : ∀ x ∈ scan [] (ps.take i), Gm x := fun x hx => by
      rcases scan_sub _ _ x hx with h | h
      · cases h
      · exact gm x (List.mem_of_mem_take h)
    have hsl : (scan [] (ps.take i)).length ≤ 100 := by
      have := scan_len (ps.take i) []
      rw [List.length_take] at this
      simp at this
      omega
    generalize hst : scan [] (ps.take i) = st0 at hz hsub hsl
    walk_at "z"
    refine z_while (fun σ' H' => Same H H' ∧ ∃ (vs : List V) (st : List GP), σ' = [some (.ref p), some (.ref l), some x] ∧ H' l = some (.lst vs) ∧ Gs K H' vs st.reverse ∧ popB st c = popB st0 c ∧ (∀ x ∈ st, Gm x) ∧ st.length ≤ 100) (lenAt l) ⟨s2, vs, st0, rfl, e2, by rw [← hz]; exact g2, rfl, hsub, hsl⟩ ?_
    rintro σ' H3 ⟨s3, vs3, st, rfl, e3, g3, hpop, hgm, hl3⟩
    have lv := g3.len
    rw [List.length_reverse] at lv
    rw [lenAt_of e3]
    refine z_known (decide (¬ popB st c = st)) (fun R h => ?_) ?_
    · walk_at "z"
      cases st with
      | nil =>
        have : vs3 = [] := List.length_eq_zero_iff.mp lv
        subst this
        refine z_if (fun k => absurd k (by decide)) (fun _ => ?_)
        exact h
      | cons b st =>
        cases st with
        | nil =>
          refine z_if (fun k => absurd k (by rw [lv]; show ¬ (2 : Int) ≤ ((1 : Nat) : Int); omega)) (fun _ => ?_)
          rw [show decide (¬ popB [b] c = [b]) = false from decide_eq_false (fun z => z rfl)] at h
          exact h
        | cons a r =>
          refine z_if (fun k => ?_) (fun k => absurd (show (2 : Int) ≤ (vs3.length : Int) by rw [lv]; simp only [List.length_cons]; omega) k)
          have g3' := g3
          rw [List.reverse_cons, List.reverse_cons] at g3'
          obtain ⟨wd, wb, rfl, g4, db⟩ := g3'.unapp
          obtain ⟨we, wa, rfl, g5, da⟩ := g4.unapp
          walk_at "z"
          refine z_ixL (.inl (.inl e3)) (at_last2 we wa wb) ?_
          walk_at "z"
          refine z_ixL (.inl (.inl e3)) (at_last _ wb) ?_
          walk_at "z"
          refine ⟨wa, wb, x, a, b, c, rfl, da, db, dp_mono s3 dc, hgm a (.tail _ (.head _)), hgm b (.head _), gc, ?_⟩
          walk_at "z"
          have e : (!decide (0 < ori a b c)) = decide (¬ popB (b :: a :: r) c = b :: a :: r) := by
            have ep : popB (b :: a :: r) c = if 0 < ori a b c then b :: a :: r else popB (a :: r) c := rfl
            by_cases k2 : 0 < ori a b c
            · rw [ep, if_pos k2]
              simp [k2]
            · have hne : popB (a :: r) c ≠ b :: a :: r := fun z => by
                have := congrArg List.length z
                have h2 := popB_len (a :: r) c
                rw [this] at h2
                simp only [List.length_cons] at h2
                omega
              rw [ep, if_neg k2]
              simp [k2, hne]
          rw [e]
          exact h
    · refine z_wb (fun k => ?_) (fun k => ?_)
      · cases st with
        | nil => exact absurd rfl k
        | cons b st =>
          cases st with
          | nil => exact absurd rfl k
          | cons a r =>
            have ep : popB (b :: a :: r) c = if 0 < ori a b c then b :: a :: r else popB (a :: r) c := rfl
            have k2 : ¬ 0 < ori a b c := fun z => k (by rw [ep, if_pos z])
            rw [ep, if_neg k2] at hpop
            rw [List.reverse_cons] at g3
            obtain ⟨wd, wb, rfl, g4, db⟩ := g3.unapp
            walk_at "z"
            refine z_bm0L (fun R q => by walk_at "z"; exact q) e3 ?_
            refine z_pop e3 ?_
            refine ⟨⟨fun y o h => ?_, wd, a :: r, rfl, upd_same, ?_, hpop, fun y hy => hgm y (.tail _ hy), by simp only [List.length_cons] at hl3 ⊢; omega⟩, ?_⟩
            · rw [upd_ne (ne_of_none h f1)]
              exact s3 _ _ h
            · have kk : Kp l H3 (upd H3 l (.lst wd)) := fun y o hy h => by
                rw [upd_ne hy]
                exact h
              exact g4.kp kk e3
            · rw [lenAt_of upd_same, List.length_append, List.length_singleton]
              omega
      · have hst2 : popB st c = st := Decidable.not_not.mp k
        walk_at "z"
        refine z_bmL (fun R q => by walk_at "z"; exact q) e3 ?_
        walk_at "z"
        refine z_append e3 (by omega) ?_
        refine ⟨fun y o h => ?_, _, vs3 ++ [x], st.reverse ++ [c], rfl, upd_same, ?_, ?_⟩
        · rw [upd_ne (ne_of_none h f1)]
          exact s3 _ _ h
        · have kk : Kp l H3 (upd H3 l (.lst (vs3 ++ [x]))) := fun y o hy h => by
            rw [upd_ne hy]
            exact h
          exact Gs.kp kk e3 (g3.app (gs_one (dp_mono s3 dc)))
        · rw [tk, scan_app, hst, ← hpop, hst2, List.reverse_cons]
  · rintro σ' H2 ⟨s2, u, vs, zs, rfl, e2, g2, hz⟩
    rw [lw, List.take_length] at hz
    walk_at "z"
    refine ⟨_, rfl, ?_⟩
    have hn : (scan [] ps).length ≤ 100 := by
      have := scan_len ps []
      simp at this
      omega
    generalize hst0 : scan [] ps = st at hz hn
    subst hz
    have lv := g2.len
    cases st with
    | nil =>
      -- there is at least one point
      exfalso
      obtain ⟨pz, hpz⟩ : ∃ z, ps.getLast? = some z := by
        cases h : ps.getLast? with
        | none => exact absurd (List.getLast?_eq_none_iff.mp h) hne
        | some z => exact ⟨z, rfl⟩
      obtain ⟨pi, e⟩ := List.getLast?_eq_some_iff.mp hpz
      rw [e, scan_app] at hst0
      cases hst0
    | cons c r =>
      rw [List.reverse_cons] at g2
      obtain ⟨wd, w, rfl, g3, _⟩ := g2.unapp
      walk_at "z"
      refine z_slL (.inl (.inl e2)) (ys := wd) (cut_init wd w) fun a H3 f3 s3 e3 => ?_
      refine q a H3 wd (fresh_of s2 f3) (s2.trans s3) e3 ?_
      unfold sideF
      rw [hst0]
      exact g3.mono s3
end
/-- the points of zs, once each, in the order of the program -/
structure Set (zs us : List GP) : Prop where
  up : Up us
  mem : ∀ q, q ∈ us ↔ q ∈ zs
def sp_corners (K : PySem.W.Frag) : Sp := fun vs H Q _ => ∃ (p : Addr) (ws : List V) (zs bs : List GP), vs = [.ref p] ∧ H p = some (.lst ws) ∧ Gs K H ws zs ∧ (∀ z ∈ zs, Gm z) ∧ zs ≠ [] ∧ bs.length ≤ 60 ∧ (∀ z ∈ zs, z ∈ bs) ∧
  ∀ a H' vs us, H a = none → Same H H' → H' a = some (.lst vs) → Gs K H' vs (hull us) → Set zs us → us.length ≤ 60 → Q (.ref a) H'
theorem plt_lx {a b : Int × Int} (h : Sc.plt a b) : lx (a.2, a.1) (b.2, b.1) := h
section
theorem ok_corners {P : Program} {w : World} {K : PySem.W.Frag} {mg : Str → Option Value} {base : Heap} {A : Nat → Addr} {D : Nat → FuncData} (T : Txt K mg A D) : FnOk P w K mg base (L2.CX P w) 3 (A 27) (D 27) ["points"] (sp_corners K) := by
  refine T.F_corners.okX sc_corners (fun vs H Q E h => ?_) (fun cdv A' outer s H vs Q E hr h => ?_)
  · obtain ⟨p, ws, zs, bs, rfl, _⟩ := h
    rfl
  obtain ⟨p, ws, zs, bs, rfl, hp, g, gm, hne, hbl, hbs, q⟩ := h
  refine ⟨_, (pss_cons (ps_set (i := 1) sc_corners.nd rfl (.inl rfl) (pe_callB (Sc.cr_sortedP2 rfl) (by rfl) T.z_sorted (by decide +kernel) (pa_cons (Sc.pe_setT hr.units (own := [("point", 2)]) (g := gName 2) (tt := tYes) rfl sc_corners.nd (pi_list (pv 0)) (blkOk_by (N := ["points", "heights_first", "point", "upwards", "y", "x"]) (sc := defScope s_corners) (by decide +kernel)) (fun _ _ _ _ _ => pg_name (i := 2) sc_corners.nd rfl (Or.inl rfl)) (fun _ _ _ _ _ => pts_nil) (fun _ _ _ _ _ => (pe_tup (pa_cons (pe_ix (show IxR _ (rIxT K) from ix_tup) (pv 2) pe_int (fun _ _ => rfl)) (pa_cons (pe_ix (show IxR _ (rIxT K) from ix_tup) (pv 2) pe_int (fun _ _ => rfl)) pa_nil))))) pa_nil)))
  (pss_cons (ps_setLc (i := 3) (own := [("y", 4), ("x", 5)]) (g := gTup K 2 (gCons (gName 4) (gCons (gName 5) gNil))) (tt := tYes) rfl sc_corners.nd rfl rfl (sw_true rfl rfl rfl (by decide +kernel)) (pi_list (pv 1)) (blkOk_by (N := ["points", "heights_first", "point", "upwards", "y", "x"]) (sc := defScope s_corners) (by decide +kernel)) (fun _ _ _ _ _ => pg_tup (by rfl) (pgs_cons (pg_name (i := 4) sc_corners.nd rfl (Or.inl rfl)) (pgs_cons (pg_name (i := 5) sc_corners.nd rfl (Or.inl rfl)) pgs_nil))) (fun _ _ _ _ _ => pts_nil) (fun _ _ _ _ _ => (pe_tup (pa_cons (pv 5) (pa_cons (pv 4) pa_nil)))))
  (pss_cons (ps_if (pt_cmpR op_eq (pe_callB Z.c_len (by rfl) T.z_len (by decide +kernel) (pa_cons (pv 3) pa_nil)) pe_int (nomark _))
  (pss_one (ps_ret (pv 3)))
  pss_nil)
  (pss_one (ps_ret (pe_op op_cat (pe_call (ok_side T) (hr.mono (by decide)) (by rfl) T.m_side T.F_side.kp T.b_side .nil (passes_call (takes_of rfl rfl rfl rfl) (fun _ _ _ _ h => h)) (pa_cons (pv 3) pa_nil)) (pe_call (ok_side T) (hr.mono (by decide)) (by rfl) T.m_side T.F_side.kp T.b_side .nil (passes_call (takes_of rfl rfl rfl rfl) (fun _ _ _ _ h => h)) (pa_cons (pe_revL (pv 3)) pa_nil)))))))), ?_⟩
  walk_at "z"
  refine Sc.z_setE ?_
  walk_at "z"
  have lw := g.len
  refine Sc.z_setPr (zs.map fun z => (z.2, z.1)) (by rw [List.length_map, lw]) (bs.map fun z => [z.2, z.1]) (by rw [List.length_map]; omega) (fun z hz => ?_) hp (fun _ => rfl) (fun i x z H' hx hz s' R k => ?_) fun D H1 L f1 s1 e1 nd hL hz => ?_
  · obtain ⟨y, hy, rfl⟩ := List.mem_map.mp hz
    exact List.mem_map.mpr ⟨y, hbs y hy, rfl⟩
  · obtain ⟨c, hc, dc⟩ := g.getv hx
    rw [List.getElem?_map, hc] at hz
    cases hz
    obtain ⟨pc, rfl, hpc⟩ := dp_g (dp_mono s' dc)
    walk_at "z"
    exact fun t H'' f s h => k t H'' f s h
  walk_at "z"
  refine Sc.z_sortedPr e1 hL hz fun ts us0 a H2 hlen hts hpw hmem hle f2 s2 e2 => ?_
  -- the points, lowest first
  have hus : Set zs (us0.map fun z => (z.2, z.1)) := by
    refine ⟨?_, fun q => ?_⟩
    · show List.Pairwise lx _
      rw [List.pairwise_map]
      exact hpw.imp plt_lx
    · constructor
      · intro h
        obtain ⟨y, hy, rfl⟩ := List.mem_map.mp h
        obtain ⟨x, hx, rfl⟩ := List.mem_map.mp ((hmem y).mp hy)
        exact hx
      · intro h
        exact List.mem_map.mpr ⟨(q.2, q.1), (hmem _).mpr (List.mem_map.mpr ⟨q, h, rfl⟩), rfl⟩
  have hlt : ts.length ≤ 60 := by
    have := Sc.nodup_len nd (m := bs.map fun z => [z.2, z.1]) fun k hk => by
      obtain ⟨r, hr, rfl⟩ := List.mem_map.mp hk
      obtain ⟨_, z', hz', e⟩ := hL r hr
      obtain ⟨y, hy, rfl⟩ := List.mem_map.mp hz'
      rw [e]
      exact List.mem_map.mpr ⟨y, hbs y hy, rfl⟩
    rw [List.length_map, List.length_map] at this
    omega
  walk_at "z"
  refine z_lcE ?_
  walk_at "z"
  refine z_lcG (by rw [List.length_map]; omega) (.inl (.inl e2)) (fun i D acc H' => Same H2 H' ∧ H2 D = none ∧ Gs K H' acc ((us0.map fun z => (z.2, z.1)).take i)) (fun D H' f s _ => ⟨s, f, trivial⟩) (fun i D acc H' h => .inl (.inl (h.1 _ _ e2)))
    (fun i x D acc H' hx hl hD ⟨s', fD, ga⟩ => ?_) (fun D acc H3 f3 hl e3 ⟨s3, _, ga⟩ => ?_)
  · rw [List.getElem?_map] at hx
    cases hj : ts[i]? with
    | none => rw [hj] at hx; cases hx
    | some t =>
    rw [hj] at hx
    cases hx
    obtain ⟨u, hu⟩ : ∃ u, us0[i]? = some u := ⟨_, List.getElem?_eq_getElem (by rw [← hlen]; exact (List.getElem?_eq_some_iff.mp hj).1)⟩
    have ht := s' _ _ (hts i t u hj hu)
    walk_at "z"
    refine ⟨rfl, ?_⟩
    walk_at "z"
    intro t2 H4 f4 s4 h4
    have hD4 := s4 _ _ hD
    refine z_lcB hD4 hl (by have := (List.getElem?_eq_some_iff.mp hj).1; omega) fun H5 hD5 k5 e5 => ⟨fun b o h => ?_, fD, ?_⟩
    · rw [e5 b (ne_of_none h fD)]
      exact s4 _ _ (s' _ _ h)
    · rw [List.take_add_one, List.getElem?_map, hu]
      exact Gs.kp k5 hD4 ((ga.mono s4).app (gs_one (dp_mkg h4)))
  rw [show (ts.map V.ref).length = (us0.map fun z => (z.2, z.1)).length by rw [List.length_map, List.length_map, hlen], List.take_length] at ga
  generalize hU : us0.map (fun z => (z.2, z.1)) = us at hus ga
  have lu : us.length ≤ 60 := by rw [← hU, List.length_map, ← hlen]; exact hlt
  have la := ga.len
  have sH3 : Same H H3 := (s1.trans s2).trans s3
  have gmu : ∀ z ∈ us, Gm z := fun z hz => gm z ((hus.mem z).mp hz)
  have hneu : us ≠ [] := fun e => by
    subst e
    cases zs with
    | nil => exact hne rfl
    | cons z zs => exact absurd ((hus.mem z).mpr (.head _)) (by simp)
  walk_at "z"
  refine z_if (fun c => ?_) (fun c => ?_)
  · walk_at "z"
    refine q D H3 acc us (fresh_of (s1.trans s2) f3) sH3 e3 ?_ hus lu
    unfold hull
    rw [if_pos (by omega)]
    exact ga
  · walk_at "z"
    refine ⟨D, acc, us, rfl, e3, ga, gmu, by omega, hneu, fun a1 H4 v1 f4 s4 e4 g4 => ?_⟩
    walk_at "z"
    refine z_revL ?_
    walk_at "z"
    refine z_revE (.inl (.inl (s4 _ _ e3))) fun a2 H5 f5 s5 e5 => ?_
    refine ⟨a2, acc.reverse, us.reverse, rfl, e5, (ga.mono (s4.trans s5)).rev, fun z hz => gmu z (List.mem_reverse.mp hz), by rw [List.length_reverse]; omega, by simpa using hneu, fun a3 H6 v3 f6 s6 e6 g6 => ?_⟩
    have s46 := s5.trans s6
    have l1 := g4.len
    have l3 := g6.len
    have lsc := fun (ps : List GP) (h : ps.length ≤ 60) => show (sideF ps).length ≤ 60 by
      have := scan_len ps []
      unfold sideF
      rw [List.length_reverse, List.length_tail]
      simp at this
      omega
    have k1 := lsc us lu
    have k2 := lsc us.reverse (by rw [List.length_reverse]; exact lu)
    refine z_cat (s46 _ _ e4) e6 (by omega) fun a4 H7 f7 s7 e7 => ?_
    refine q a4 H7 (v1 ++ v3) us (fresh_of ((sH3.trans s4).trans s46) f7) (((sH3.trans s4).trans s46).trans s7) e7 ?_ hus lu
    unfold hull
    rw [if_neg (by omega)]
    exact ((g4.mono s46).mono s7).app (g6.mono s7)
end
/-! ### the hull goes around -/
theorem cr_id1 (u v w : GP) : v.1 * cr u w = w.1 * cr u v + u.1 * cr v w := by
  unfold cr
  grind
/-- parallel directions -/
theorem par_sign {u v w : GP} (hu : hp u) (hv : hp v) (h : cr u v = 0) (k : 0 ≤ cr u w) : 0 ≤ cr v w := by
  by_cases c : 0 < u.2
  · refine pos_of c ?_
    have e := cr_id2 u v w
    rw [h, Int.mul_zero, Int.zero_add] at e
    rw [← e]
    exact Int.mul_nonneg (hp_up hv) k
  · have c0 : u.2 = 0 := by have := hp_up hu; omega
    have u1 : 0 < u.1 := by
      rcases hu with z | z
      · omega
      · exact z.2
    have v2 : v.2 = 0 := by
      unfold cr at h
      rw [c0, Int.zero_mul, Int.sub_zero] at h
      rcases Int.mul_eq_zero.mp h with z | z
      · omega
      · exact z
    have v1 : 0 < v.1 := by
      rcases hv with z | z
      · omega
      · exact z.2
    refine pos_of u1 ?_
    have e := cr_id1 u v w
    rw [h, Int.mul_zero, Int.zero_add] at e
    rw [← e]
    exact Int.mul_nonneg (Int.le_of_lt v1) k
theorem ori_cyc (a b c : GP) : ori a b c = ori b c a := by
  unfold ori
  grind
theorem ori_rev (a b c : GP) : ori c b a = - ori a b c := by
  unfold ori
  grind
/-- the chain by places, from below -/
theorem rev_last {c : GP} {r : List GP} {i : Nat} {a : GP} (h : (c :: r).reverse[i]? = some a) : r.reverse[i]? = some a ∨ (i = r.length ∧ a = c) := by
  rw [List.reverse_cons] at h
  rcases Nat.lt_or_ge i r.reverse.length with k | k
  · rw [List.getElem?_append_left k] at h
    exact .inl h
  · rw [List.getElem?_append_right k] at h
    have : i - r.reverse.length = 0 := by
      have := (List.getElem?_eq_some_iff.mp h).1
      simp at this
      rw [List.length_reverse] at *
      omega
    rw [this] at h
    cases h
    rw [List.length_reverse] at *
    exact .inr ⟨by omega, rfl⟩
theorem rev_len {r : List GP} {i : Nat} {a : GP} (h : r.reverse[i]? = some a) : i < r.length := by
  have := (List.getElem?_eq_some_iff.mp h).1
  rwa [List.length_reverse] at this
theorem LA.at {q : GP} : ∀ {st : List GP} {i : Nat} {a b : GP}, LA q st → st.reverse[i]? = some a → st.reverse[i + 1]? = some b → 0 ≤ ori a b q
  | [], i, a, b, _, h, _ => by simp at h
  | [c], i, a, b, _, h1, h2 => by
    have := rev_len h2
    simp at this
  | c :: b' :: r, i, a, b, h, h1, h2 => by
    rcases rev_last h2 with k | ⟨k1, k2⟩
    · rcases rev_last h1 with k' | ⟨k1, k2⟩
      · exact LA.at h.2 k' k
      · have := rev_len k
        simp at this k1
        omega
    · rcases rev_last h1 with k' | ⟨k3, k4⟩
      · rcases rev_last k' with k5 | ⟨_, k6⟩
        · have := rev_len k5
          simp at k1
          omega
        · rw [k2, k6]
          exact h.1
      · omega
theorem Conv.at : ∀ {st : List GP} {i : Nat} {a b c : GP}, Conv st → st.reverse[i]? = some a → st.reverse[i + 1]? = some b → st.reverse[i + 2]? = some c → 0 < ori a b c
  | [], i, a, b, c, _, h, _, _ => by simp at h
  | [x], i, a, b, c, _, h1, h2, _ => by
    have := rev_len h2
    simp at this
  | [x, y], i, a, b, c, _, h1, h2, h3 => by
    have := rev_len h3
    simp at this
    omega
  | z :: y :: x :: r, i, a, b, c, h, h1, h2, h3 => by
    rcases rev_last h3 with k | ⟨k1, k2⟩
    · have := rev_len k
      simp only [List.length_cons] at this
      rcases rev_last h2 with l | ⟨l1, _⟩
      · rcases rev_last h1 with l' | ⟨l1, _⟩
        · exact Conv.at h.2.2 l' l k
        · simp only [List.length_cons] at *; omega
      · simp only [List.length_cons] at *; omega
    · rcases rev_last h2 with l | ⟨l1, _⟩
      · rcases rev_last h1 with l' | ⟨m1, _⟩
        · rcases rev_last l with n | ⟨n1, n2⟩
          · have := rev_len n
            simp only [List.length_cons] at *
            omega
          · rcases rev_last l' with o | ⟨o1, _⟩
            · rcases rev_last o with p | ⟨_, p2⟩
              · have := rev_len p
                simp only [List.length_cons] at *
                omega
              · rw [k2, n2, p2]
                exact h.2.1
            · omega
        · omega
      · omega
theorem Conv.up : ∀ {st : List GP}, Conv st → Up st.reverse
  | [], _ => .nil
  | c :: r, h => by
    rw [List.reverse_cons]
    refine List.pairwise_append.mpr ⟨?_, List.pairwise_singleton _ _, fun a ha b hb => ?_⟩
    · cases r with
      | nil => exact .nil
      | cons b r => exact Conv.up h.tail.2
    · rw [List.mem_singleton.mp hb]
      exact Conv.le h a (List.mem_reverse.mp ha)
theorem rev_0 : ∀ (r : List GP) (c : GP), (c :: r).reverse[0]? = some (bot c r)
  | [], c => rfl
  | b :: r, c => by
    rw [List.reverse_cons, List.getElem?_append_left (by simp)]
    exact rev_0 r b
theorem rev_top (r : List GP) (c : GP) : (c :: r).reverse[r.length]? = some c := by
  rw [List.reverse_cons, List.getElem?_append_right (by simp)]
  simp
/-- where the right chain meets the left one -/
theorem join_top {P : List GP} {m M : GP} {rS rT : List GP} {a c : GP} (hS : Ch P m M rS) (hT : Ch (P.map ng) (ng M) (ng m) rT) (hmM : lx m M) (hn : 3 ≤ rS.length + rT.length)
    (ha : (M :: rS).reverse[rS.length - 1]? = some a) (hl : 1 ≤ rS.length) (hc : (ng m :: rT).reverse[1]? = some (ng c)) : 0 < ori a M c := by
  have hM0 : (ng m :: rT).reverse[0]? = some (ng M) := by rw [rev_0, hT.bot]
  have hMt := rev_top rS M
  have hMt' : (M :: rS).reverse[rS.length - 1 + 1]? = some M := by rw [Nat.sub_add_cancel hl]; exact hMt
  have back : ∀ {q : GP}, ng q ∈ P.map ng → q ∈ P := fun {q} h => by
    obtain ⟨y, hy, e⟩ := List.mem_map.mp h
    rw [← ng_ng q, ← e, ng_ng]
    exact hy
  have laS : ∀ q ∈ P, 0 ≤ ori a M q := fun q hq => (hS.la q hq).at ha hMt'
  have laT : ∀ q ∈ P, 0 ≤ ori M c q := fun q hq => by
    have := (hT.la (ng q) (List.mem_map.mpr ⟨q, hq, rfl⟩)).at hM0 hc
    rwa [ori_ng] at this
  have cP : c ∈ P := back (hT.sub _ (List.mem_reverse.mp (List.mem_of_getElem? hc)))
  have laM : lx a M := by
    have := hS.conv.up
    obtain ⟨i1, e1⟩ := List.getElem?_eq_some_iff.mp ha
    obtain ⟨i2, e2⟩ := List.getElem?_eq_some_iff.mp hMt
    have := (List.pairwise_iff_getElem.mp this) _ _ i1 i2 (by omega)
    rwa [e1, e2] at this
  have lcM : lx c M := by
    have := hT.conv.up
    obtain ⟨i1, e1⟩ := List.getElem?_eq_some_iff.mp hM0
    obtain ⟨i2, e2⟩ := List.getElem?_eq_some_iff.mp hc
    have := (List.pairwise_iff_getElem.mp this) _ _ i1 i2 (by omega)
    rw [e1, e2] at this
    exact lx_ng.mp this
  rcases Int.lt_or_le 0 (ori a M c) with z | z
  · exact z
  exfalso
  have h0 : ori a M c = 0 := Int.le_antisymm z (laS c cP)
  have par : cr (d2 a M) (d2 c M) = 0 := by
    rw [ori_cr] at h0
    unfold cr d2 at *
    grind
  have par' : cr (d2 c M) (d2 a M) = 0 := by rw [cr_anti, par]; rfl
  -- all points lie on one line
  have flat : ∀ q ∈ P, ori a M q = 0 ∧ ori M c q = 0 := fun q hq => by
    have h1 := laS q hq
    have h2 := laT q hq
    have h3 : 0 ≤ cr (d2 c M) (d2 M q) := par_sign (lx_hp laM) (lx_hp lcM) par h1
    have h4 : ori M c q = - cr (d2 c M) (d2 M q) := by
      unfold ori cr d2
      grind
    have h5 : ori M c q = 0 := by omega
    have h6 : 0 ≤ - ori a M q := by
      have h7 : cr (d2 c M) (d2 q M) = 0 := by
        unfold cr d2 at *
        unfold ori at h5
        grind
      have h8 := par_sign (w := d2 q M) (lx_hp lcM) (lx_hp laM) par' (by omega)
      rw [ori_cr]
      have e : cr (d2 a M) (d2 q M) = - cr (d2 a M) (d2 M q) := by
        unfold cr d2
        grind
      omega
    exact ⟨by omega, h5⟩
  rcases Nat.lt_or_ge rS.length 2 with k | k
  · -- the left chain turns
    obtain ⟨c', hc'⟩ : ∃ c', (ng m :: rT).reverse[2]? = some c' := ⟨_, List.getElem?_eq_getElem (by simp; omega)⟩
    have := hT.conv.at hM0 hc hc'
    rw [← ng_ng c', ori_ng] at this
    have := (flat (ng c') (back (by rw [ng_ng]; exact hT.sub _ (List.mem_reverse.mp (List.mem_of_getElem? hc'))))).2
    omega
  · obtain ⟨a', ha'⟩ : ∃ a', (M :: rS).reverse[rS.length - 2]? = some a' := ⟨_, List.getElem?_eq_getElem (by simp; omega)⟩
    have := hS.conv.at ha' (show (M :: rS).reverse[rS.length - 2 + 1]? = some a by rw [show rS.length - 2 + 1 = rS.length - 1 by omega]; exact ha) (show (M :: rS).reverse[rS.length - 2 + 2]? = some M by rw [show rS.length - 2 + 2 = rS.length by omega]; exact hMt)
    have e := (flat a' (hS.sub _ (List.mem_reverse.mp (List.mem_of_getElem? ha')))).1
    rw [ori_cyc] at this
    omega
/-- a point between lies on one chain only -/
theorem apart {P : List GP} {m M x s t u : GP} {rS rT : List GP} {i j : Nat} (hS : Ch P m M rS) (hT : Ch (P.map ng) (ng M) (ng m) rT)
    (h1 : (M :: rS).reverse[i]? = some s) (h2 : (M :: rS).reverse[i + 1]? = some x) (h3 : (M :: rS).reverse[i + 2]? = some u)
    (h4 : (ng m :: rT).reverse[j]? = some (ng x)) (h5 : (ng m :: rT).reverse[j + 1]? = some (ng t)) : False := by
  have sP : s ∈ P := hS.sub _ (List.mem_reverse.mp (List.mem_of_getElem? h1))
  have uP : u ∈ P := hS.sub _ (List.mem_reverse.mp (List.mem_of_getElem? h3))
  have turn := hS.conv.at h1 h2 h3
  have la : ∀ q ∈ P, 0 ≤ ori x t q := fun q hq => by
    have := (hT.la (ng q) (List.mem_map.mpr ⟨q, hq, rfl⟩)).at h4 h5
    rwa [ori_ng] at this
  have up := hS.conv.up
  obtain ⟨i1, e1⟩ := List.getElem?_eq_some_iff.mp h1
  obtain ⟨i2, e2⟩ := List.getElem?_eq_some_iff.mp h2
  obtain ⟨i3, e3⟩ := List.getElem?_eq_some_iff.mp h3
  have l1 := (List.pairwise_iff_getElem.mp up) _ _ i1 i2 (by omega)
  have l2 := (List.pairwise_iff_getElem.mp up) _ _ i2 i3 (by omega)
  rw [e1, e2] at l1
  rw [e2, e3] at l2
  obtain ⟨j1, f1⟩ := List.getElem?_eq_some_iff.mp h4
  obtain ⟨j2, f2⟩ := List.getElem?_eq_some_iff.mp h5
  have l3 := (List.pairwise_iff_getElem.mp hT.conv.up) _ _ j1 j2 (by omega)
  rw [f1, f2] at l3
  have l3 := lx_ng.mp l3
  have k1 := la s sP
  have k2 := la u uP
  have a1 : 0 ≤ cr (d2 x u) (d2 t x) := by
    unfold ori at k2
    unfold cr d2
    grind
  have a2 : 0 ≤ cr (d2 t x) (d2 s x) := by
    unfold ori at k1
    unfold cr d2
    grind
  have a3 := cr_tr (lx_hp l2) (lx_hp l3) (lx_hp l1) a1 a2
  rw [cr_anti] at a3
  rw [ori_cr] at turn
  omega
/-- there is one chain only -/
theorem ch_one : ∀ (r r' : List GP) (c : GP), Conv (c :: r) → Conv (c :: r') → bot c r = bot c r' → (∀ x ∈ c :: r', LA x (c :: r)) → (∀ x ∈ c :: r, LA x (c :: r')) → r = r'
  | [], [], _, _, _, _, _, _ => rfl
  | [], b :: r', c, _, h', e, _, _ => by
    exfalso
    have e : c = bot b r' := e
    have := Conv.le h' (bot b r') (bot_mem r' b)
    rw [← e] at this
    exact lx_irr this
  | b :: r, [], c, h, _, e, _, _ => by
    exfalso
    have e : bot b r = c := e
    have := Conv.le h (bot b r) (bot_mem r b)
    rw [e] at this
    exact lx_irr this
  | b :: r, b' :: r', c, h, h', e, l, l' => by
    have lb := h.tail.1
    have lb' := h'.tail.1
    have e1 : 0 ≤ ori b c b' := (l b' (.tail _ (.head _))).1
    have e2 : 0 ≤ ori b' c b := (l' b (.tail _ (.head _))).1
    have e3 : ori b' c b = - ori b c b' := by
      unfold ori
      grind
    have e4 : ori b c b' = 0 := by omega
    have main : ∀ {b b' : GP} {r r' : List GP}, Conv (c :: b :: r) → Conv (c :: b' :: r') → bot b r = bot b' r' → (∀ x ∈ c :: b :: r, LA x (c :: b' :: r')) → ori b c b' = 0 → lx b b' → False := by
      intro b b' r r' h h' e l' e4 k
      have lb' := h'.tail.1
      cases r' with
      | nil =>
        have e : bot b r = b' := e
        rcases Conv.bot h.tail.2 b (.head _) with z | z
        · rw [← z] at e
          rw [e] at k
          exact lx_irr k
        · rw [e] at z
          exact lx_irr (lx_trans k z)
      | cons a' r' =>
        have t := h'.turn
        have k1 := (l' b (.tail _ (.head _))).2.1
        have la' := h'.tail.2.tail.1
        have a1 : 0 ≤ cr (d2 b b') (d2 a' b') := by
          unfold ori at k1
          unfold cr d2
          grind
        have a2 := cr_tr2 (lx_hp k) (lx_hp la') (lx_hp lb') a1 t
        unfold ori at e4
        unfold cr d2 at a2
        grind
    rcases lx_tri b b' with k | rfl | k
    · exact (main h h' e l' e4 k).elim
    · refine congrArg (b :: ·) (ch_one r r' b h.tail.2 h'.tail.2 e (fun x hx => (l x (.tail _ hx)).2) fun x hx => (l' x (.tail _ hx)).2)
    · exact (main h' h e.symm l (by rw [e3, e4]; rfl) k).elim
theorem cyc_at {A B : List GP} {m M a b : GP} {k : Nat} (hA : A[0]? = some m) (hB : B[0]? = some M) (hk : k < (A ++ B).length) (ha : (A ++ B)[k]? = some a) (hb : (A ++ B)[(k + 1) % (A ++ B).length]? = some b) :
    (k < A.length ∧ (A ++ [M])[k]? = some a ∧ (A ++ [M])[k + 1]? = some b) ∨ (A.length ≤ k ∧ (B ++ [m])[k - A.length]? = some a ∧ (B ++ [m])[k - A.length + 1]? = some b) := by
  have lA : 0 < A.length := (List.getElem?_eq_some_iff.mp hA).1
  have lB : 0 < B.length := (List.getElem?_eq_some_iff.mp hB).1
  rw [List.length_append] at hk hb
  rcases Nat.lt_or_ge k A.length with c | c
  · refine .inl ⟨c, ?_, ?_⟩
    · rw [List.getElem?_append_left c] at ha ⊢
      exact ha
    · rw [Nat.mod_eq_of_lt (by omega)] at hb
      rcases Nat.lt_or_ge (k + 1) A.length with d | d
      · rw [List.getElem?_append_left d] at hb ⊢
        exact hb
      · rw [List.getElem?_append_right d] at hb ⊢
        have e : k + 1 - A.length = 0 := by omega
        rw [e] at hb ⊢
        rw [hB] at hb
        exact hb
  · refine .inr ⟨c, ?_, ?_⟩
    · rw [List.getElem?_append_right c] at ha
      rw [List.getElem?_append_left (by omega)]
      exact ha
    · rcases Nat.lt_or_ge (k + 1) (A.length + B.length) with d | d
      · rw [Nat.mod_eq_of_lt d, List.getElem?_append_right (by omega)] at hb
        rw [List.getElem?_append_left (by omega), ← hb]
        congr 1
        omega
      · have e : k + 1 = A.length + B.length := by omega
        rw [e, Nat.mod_self, List.getElem?_append_left lA, hA] at hb
        rw [List.getElem?_append_right (by omega), show k - A.length + 1 - B.length = 0 by omega, ← hb]
        rfl
/-- found goes around the points us -/
structure Around (us h : List GP) : Prop where
  ne : h ≠ []
  nodup : h.Nodup
  sub : ∀ x ∈ h, x ∈ us
  first : ∀ a, h[0]? = some a → ∀ q ∈ us, q = a ∨ lx a q
  last : h.length < 3 → ∀ a, h[h.length - 1]? = some a → ∀ q ∈ us, q = a ∨ lx q a
  turn : ∀ k a b c, 2 < h.length → k < h.length → h[k]? = some a → h[(k + 1) % h.length]? = some b → h[(k + 2) % h.length]? = some c → 0 < ori a b c
  edge : ∀ k a b, k < h.length → h[k]? = some a → h[(k + 1) % h.length]? = some b → ∀ q ∈ us, 0 ≤ ori a b q
theorem Two.flip {us : List GP} {m M : GP} {rS rT : List GP} (h : Two us m M rS rT) : Ch ((us.map ng).map ng) (ng (ng m)) (ng (ng M)) rS := by
  rw [ng_ng, ng_ng, show (us.map ng).map ng = us by rw [List.map_map]; exact List.map_id'' (fun a => ng_ng a) _]
  exact h.cs
theorem ngv {B : List GP} {m a : GP} {j : Nat} : ((m :: B).reverse)[j]? = some a ↔ ((ng m :: B.map ng).reverse)[j]? = some (ng a) := by
  rw [← List.map_cons, ← List.map_reverse, List.getElem?_map]
  constructor
  · intro h
    rw [h]
    rfl
  · intro h
    cases z : (m :: B).reverse[j]? with
    | none => rw [z] at h; cases h
    | some x =>
      rw [z] at h
      have h : ng x = ng a := Option.some.inj h
      rw [← ng_ng x, h, ng_ng]
theorem hull_around {us : List GP} (hu : Up us) (hne : us ≠ []) : Around us (hull us) := by
  by_cases hl : us.length = 1
  · have e : hull us = us := if_pos hl
    obtain ⟨m, rfl⟩ := List.length_eq_one_iff.mp hl
    rw [e]
    refine ⟨hne, (List.pairwise_singleton _ _ : List.Nodup [m]), fun x hx => hx, fun a ha q hq => ?_, fun _ a ha q hq => ?_, fun k a b c h => absurd h (by simp), fun k a b hk ha hb q hq => ?_⟩
    · cases ha
      exact .inl (List.mem_singleton.mp hq)
    · cases ha
      exact .inl (List.mem_singleton.mp hq)
    · have hk : k = 0 := by simpa using hk
      subst hk
      cases ha
      have hb : some m = some b := by simpa using hb
      cases hb
      rw [List.mem_singleton.mp hq]
      unfold ori
      grind
  · have hl2 : 2 ≤ us.length := by
      have : us.length ≠ 0 := fun z => hne (List.length_eq_zero_iff.mp z)
      omega
    obtain ⟨m, M, rS, rT, h⟩ := two_of hu hne
    obtain ⟨_, _, mS, MT⟩ := h.mem hu hl2
    have hmM := h.mM hu hl2
    have hsub := h.sub hl
    have lS : 0 < rS.length := List.length_pos_of_mem mS
    have lT : 0 < rT.length := List.length_pos_of_mem MT
    have c10 : (M :: rS).reverse[0]? = some m := by rw [rev_0, h.cs.bot]
    have c20 : (m :: rT).reverse[0]? = some M := ngv.mpr (by rw [rev_0, h.ct.bot])
    have hA : rS.reverse[0]? = some m := by
      rw [List.reverse_cons, List.getElem?_append_left (by simpa using lS)] at c10
      exact c10
    have hB : rT.reverse[0]? = some M := by
      rw [List.reverse_cons, List.getElem?_append_left (by simpa using lT)] at c20
      exact c20
    have eS := List.reverse_cons (a := M) (as := rS)
    have eT := List.reverse_cons (a := m) (as := rT)
    have at1 : ∀ {k : Nat} {a b : GP}, k < (rS.reverse ++ rT.reverse).length → (rS.reverse ++ rT.reverse)[k]? = some a → (rS.reverse ++ rT.reverse)[(k + 1) % (rS.reverse ++ rT.reverse).length]? = some b →
        (k < rS.length ∧ (M :: rS).reverse[k]? = some a ∧ (M :: rS).reverse[k + 1]? = some b) ∨ (rS.length ≤ k ∧ (m :: rT).reverse[k - rS.length]? = some a ∧ (m :: rT).reverse[k - rS.length + 1]? = some b) := fun hk ha hb => by
      have := cyc_at hA hB hk ha hb
      rw [← eS, ← eT, List.length_reverse] at this
      exact this
    have len : (rS.reverse ++ rT.reverse).length = rS.length + rT.length := by rw [List.length_append, List.length_reverse, List.length_reverse]
    have back : ∀ {q : GP}, q ∈ us → ng q ∈ us.map ng := fun {q} hq => List.mem_map.mpr ⟨q, hq, rfl⟩
    have upT : ∀ {i j : Nat} {a b : GP}, (m :: rT).reverse[i]? = some a → (m :: rT).reverse[j]? = some b → i < j → lx b a := fun {i j a b} hi hj c => by
      obtain ⟨i1, e1⟩ := List.getElem?_eq_some_iff.mp (ngv.mp hi)
      obtain ⟨i2, e2⟩ := List.getElem?_eq_some_iff.mp (ngv.mp hj)
      have := (List.pairwise_iff_getElem.mp h.ct.conv.up) _ _ i1 i2 c
      rw [e1, e2] at this
      exact lx_ng.mp this
    have topT : (m :: rT).reverse[rT.length]? = some m := rev_top rT m
    rw [h.eq hl]
    rw [h.eq hl] at hsub
    refine ⟨?_, ?_, hsub, fun a ha q hq => ?_, fun hn a ha q hq => ?_, fun k a b c hn hk ha hb hc => ?_, fun k a b hk ha hb q hq => ?_⟩
    · intro z
      have := congrArg List.length z
      rw [len, List.length_nil] at this
      omega
    · refine List.nodup_append.mpr ⟨?_, ?_, ?_⟩
      · have := h.cs.conv.up
        rw [eS] at this
        exact (List.pairwise_append.mp this).1.imp fun {a b} (h : _) (e : a = b) => by subst e; exact lx_irr h
      · have := h.ct.conv.up
        rw [← List.map_cons, ← List.map_reverse, eT] at this
        have := List.pairwise_map.mp this
        exact (List.pairwise_append.mp this).1.imp fun {a b} (h : _) (e : a = b) => by subst e; exact lx_irr h
      · intro x hx y hy e
        subst e
        obtain ⟨i, hi⟩ := List.mem_iff_getElem?.mp hx
        obtain ⟨j, hj⟩ := List.mem_iff_getElem?.mp hy
        have li := (List.getElem?_eq_some_iff.mp hi).1
        have lj := (List.getElem?_eq_some_iff.mp hj).1
        rw [List.length_reverse] at li lj
        have hi' : (M :: rS).reverse[i]? = some x := by
          rw [eS, List.getElem?_append_left (by simpa using li)]
          exact hi
        have hj' : (m :: rT).reverse[j]? = some x := by
          rw [eT, List.getElem?_append_left (by simpa using lj)]
          exact hj
        cases i with
        | zero =>
          rw [hA] at hi
          cases hi
          exact lx_irr (upT hj' topT lj)
        | succ i =>
          obtain ⟨s, hs⟩ : ∃ s, (M :: rS).reverse[i]? = some s := ⟨_, List.getElem?_eq_getElem (by simp; omega)⟩
          obtain ⟨u, hu⟩ : ∃ s, (M :: rS).reverse[i + 2]? = some s := ⟨_, List.getElem?_eq_getElem (by simp; omega)⟩
          obtain ⟨t, ht⟩ : ∃ s, (m :: rT).reverse[j + 1]? = some s := ⟨_, List.getElem?_eq_getElem (by simp; omega)⟩
          exact apart h.cs h.ct hs hi' hu (ngv.mp hj') (ngv.mp ht)
    · rw [List.getElem?_append_left (by simpa using lS), hA] at ha
      cases ha
      exact h.lo q hq
    · rw [len] at hn ha
      rw [List.getElem?_append_right (by rw [List.length_reverse]; omega), List.length_reverse, show rS.length + rT.length - 1 - rS.length = 0 by omega, hB] at ha
      cases ha
      exact h.hi q hq
    · have hc' : (rS.reverse ++ rT.reverse)[((k + 1) % (rS.reverse ++ rT.reverse).length + 1) % (rS.reverse ++ rT.reverse).length]? = some c := by
        rw [Nat.mod_add_mod]
        exact hc
      have hk' : (k + 1) % (rS.reverse ++ rT.reverse).length < (rS.reverse ++ rT.reverse).length := Nat.mod_lt _ (by omega)
      rcases at1 hk ha hb with ⟨k1, a1, b1⟩ | ⟨k1, a1, b1⟩
      · have ek : (k + 1) % (rS.reverse ++ rT.reverse).length = k + 1 := Nat.mod_eq_of_lt (by rw [len]; omega)
        rw [ek] at hk' hb hc'
        rcases at1 hk' hb hc' with ⟨k2, a2, b2⟩ | ⟨k2, a2, b2⟩
        · exact h.cs.conv.at a1 b1 b2
        · have ek2 : k + 1 - rS.length = 0 := by omega
          rw [ek2] at a2 b2
          rw [c20] at a2
          cases a2
          refine join_top h.cs h.ct hmM ?_ (a := a) (c := c) ?_ lS (ngv.mp b2)
          · rw [List.length_map]
            rw [len] at hn
            omega
          · rw [show rS.length - 1 = k by omega]
            exact a1
      · rcases Nat.lt_or_ge (k + 1) (rS.reverse ++ rT.reverse).length with d | d
        · have ek : (k + 1) % (rS.reverse ++ rT.reverse).length = k + 1 := Nat.mod_eq_of_lt d
          rw [ek] at hk' hb hc'
          rcases at1 hk' hb hc' with ⟨k2, a2, b2⟩ | ⟨k2, a2, b2⟩
          · omega
          · rw [show k + 1 - rS.length = k - rS.length + 1 by omega] at a2 b2
            have := h.ct.conv.at (ngv.mp a1) (ngv.mp a2) (ngv.mp b2)
            rwa [ori_ng] at this
        · have ek : (k + 1) % (rS.reverse ++ rT.reverse).length = 0 := by
            rw [show k + 1 = (rS.reverse ++ rT.reverse).length by omega, Nat.mod_self]
          rw [ek] at hk' hb hc'
          rcases at1 hk' hb hc' with ⟨k2, a2, b2⟩ | ⟨k2, a2, b2⟩
          · rw [c10] at a2
            cases a2
            have := join_top h.ct h.flip (lx_ng.mpr hmM) (a := ng a) (c := ng c) ?_ ?_ ?_ ?_
            · rwa [ori_ng] at this
            · rw [List.length_map]
              rw [len] at hn
              omega
            · rw [List.length_map]
              refine ngv.mp ?_
              rw [show rT.length - 1 = k - rS.length by rw [len] at *; omega]
              exact a1
            · rw [List.length_map]
              exact lT
            · rw [ng_ng, ng_ng]
              exact b2
          · omega
    · rcases at1 hk ha hb with ⟨k1, a1, b1⟩ | ⟨k1, a1, b1⟩
      · exact (h.cs.la q hq).at a1 b1
      · have := (h.ct.la (ng q) (back hq)).at (ngv.mp a1) (ngv.mp b1)
        rwa [ori_ng] at this
theorem up_one : ∀ {us us' : List GP}, Up us → Up us' → (∀ q, q ∈ us ↔ q ∈ us') → us = us'
  | [], [], _, _, _ => rfl
  | [], b :: us', _, _, e => by
    have := (e b).mpr (.head _)
    cases this
  | a :: us, [], _, _, e => by
    have := (e a).mp (.head _)
    cases this
  | a :: us, b :: us', h, h', e => by
    have k := List.pairwise_cons.mp h
    have k' := List.pairwise_cons.mp h'
    have hab : a = b := by
      rcases List.mem_cons.mp ((e a).mp (.head _)) with z | z
      · exact z
      · rcases List.mem_cons.mp ((e b).mpr (.head _)) with y | y
        · exact y.symm
        · exact (lx_irr (lx_trans (k.1 _ y) (k'.1 _ z))).elim
    subst hab
    refine congrArg (a :: ·) (up_one k.2 k'.2 fun q => ?_)
    constructor
    · intro hq
      rcases List.mem_cons.mp ((e q).mp (.tail _ hq)) with z | z
      · rw [z] at hq
        exact (lx_irr (k.1 _ hq)).elim
      · exact z
    · intro hq
      rcases List.mem_cons.mp ((e q).mpr (.tail _ hq)) with z | z
      · rw [z] at hq
        exact (lx_irr (k'.1 _ hq)).elim
      · exact z
/-- the corners of points that hold the corners, and only points of the first -/
theorem hull_again {us us' : List GP} (hu : Up us) (hne : us ≠ []) (hu' : Up us') (h1 : ∀ q ∈ hull us, q ∈ us') (h2 : ∀ q ∈ us', q ∈ us) : hull us' = hull us := by
  by_cases hl : us.length = 1
  · have e : hull us = us := if_pos hl
    rw [e] at h1
    rw [up_one hu' hu fun q => ⟨h2 q, h1 q⟩]
  · have hl2 : 2 ≤ us.length := by
      have : us.length ≠ 0 := fun z => hne (List.length_eq_zero_iff.mp z)
      omega
    obtain ⟨m, M, rS, rT, h⟩ := two_of hu hne
    obtain ⟨k1, k2, mS, MT⟩ := h.mem hu hl2
    have hmM := h.mM hu hl2
    have mh := h1 m (k1 m (.tail _ mS))
    have Mh := h1 M (k1 M (.head _))
    have hne' : us' ≠ [] := fun e => by rw [e] at mh; cases mh
    have hl' : us'.length ≠ 1 := fun z => by
      obtain ⟨x, rfl⟩ := List.length_eq_one_iff.mp z
      rw [List.mem_singleton] at mh Mh
      rw [mh, Mh] at hmM
      exact lx_irr hmM
    obtain ⟨m', M', rS', rT', h'⟩ := two_of hu' hne'
    have hm' : m' ∈ us' := by
      have := h'.ct.sub (ng m') (.head _)
      obtain ⟨y, hy, e⟩ := List.mem_map.mp this
      rw [← ng_ng m', ← e, ng_ng]
      exact hy
    have hM' : M' ∈ us' := h'.cs.sub M' (.head _)
    have em : m' = m := by
      rcases h.lo m' (h2 _ hm') with e | e
      · exact e
      · rcases h'.lo m mh with e' | e'
        · exact e'.symm
        · exact (lx_irr (lx_trans e e')).elim
    have eM : M' = M := by
      rcases h.hi M' (h2 _ hM') with e | e
      · exact e
      · rcases h'.hi M Mh with e' | e'
        · exact e'.symm
        · exact (lx_irr (lx_trans e e')).elim
    subst em
    subst eM
    have c1 := ch_one rS' rS M' h'.cs.conv h.cs.conv (by rw [h.cs.bot, h'.cs.bot]) (fun x hx => h'.cs.la x (h1 x (k1 x hx))) fun x hx => h.cs.la x (h2 x (h'.cs.sub x hx))
    have c2 := ch_one (rT'.map ng) (rT.map ng) (ng m') h'.ct.conv h.ct.conv (by rw [h.ct.bot, h'.ct.bot]) (fun x hx => by
        have hx : x ∈ (m' :: rT).map ng := hx
        obtain ⟨y, hy, rfl⟩ := List.mem_map.mp hx
        exact h'.ct.la _ (List.mem_map.mpr ⟨y, h1 y (k2 y hy), rfl⟩)) fun x hx => by
        have := h'.ct.sub x hx
        obtain ⟨y, hy, rfl⟩ := List.mem_map.mp this
        exact h.ct.la _ (List.mem_map.mpr ⟨y, h2 y hy, rfl⟩)
    have c3 : rT' = rT := by
      have := congrArg (List.map ng) c2
      rw [List.map_map, List.map_map] at this
      exact (List.map_id'' (fun a => ng_ng a) rT').symm.trans (this.trans (List.map_id'' (fun a => ng_ng a) rT))
    rw [h.eq hl, h'.eq hl', c1, c3]
/-! ### what holds at the corners holds at the points -/
theorem edge_lin {b c q : GP} {u v w : Int} (hu : u ≤ 0) (h1 : lx b q) (h2 : lx q c) (h : 0 ≤ ori b c q) (fb : 0 ≤ u * b.1 + v * b.2 + w) (fc : 0 ≤ u * c.1 + v * c.2 + w) : 0 ≤ u * q.1 + v * q.2 + w := by
  have hb : 0 ≤ q.2 - b.2 := by unfold lx at h1; omega
  have hc : 0 ≤ c.2 - q.2 := by unfold lx at h2; omega
  rcases Int.lt_or_le 0 (c.2 - b.2) with k | k
  · refine pos_of k ?_
    have e : (c.2 - b.2) * (u * q.1 + v * q.2 + w) = (c.2 - q.2) * (u * b.1 + v * b.2 + w) + (q.2 - b.2) * (u * c.1 + v * c.2 + w) + (-u) * ori b c q := by
      unfold ori
      grind
    rw [e]
    have m1 := Int.mul_nonneg hc fb
    have m2 := Int.mul_nonneg hb fc
    have m3 := Int.mul_nonneg (show 0 ≤ -u by omega) h
    omega
  · have e1 : q.2 = b.2 := by omega
    have e2 : c.2 = b.2 := by omega
    have k1 : 0 < q.1 - b.1 := by unfold lx at h1; omega
    have k2 : 0 < c.1 - q.1 := by unfold lx at h2; omega
    refine pos_of (show 0 < c.1 - b.1 by omega) ?_
    have e : (c.1 - b.1) * (u * q.1 + v * q.2 + w) = (c.1 - q.1) * (u * b.1 + v * b.2 + w) + (q.1 - b.1) * (u * c.1 + v * c.2 + w) := by
      rw [e1, e2]
      grind
    rw [e]
    have m1 := Int.mul_nonneg (Int.le_of_lt k2) fb
    have m2 := Int.mul_nonneg (Int.le_of_lt k1) fc
    omega
theorem chain_lin {q : GP} {u v w : Int} (hu : u ≤ 0) : ∀ (r : List GP) (c : GP), Conv (c :: r) → LA q (c :: r) → (q = bot c r ∨ lx (bot c r) q) → (q = c ∨ lx q c) → (∀ t ∈ c :: r, 0 ≤ u * t.1 + v * t.2 + w) → 0 ≤ u * q.1 + v * q.2 + w
  | [], c, _, _, h1, h2, f => by
    rcases h2 with rfl | h2
    · exact f _ (.head _)
    · rcases h1 with e | e
      · have e : q = c := e
        rw [e]
        exact f c (.head _)
      · have e : lx c q := e
        exact (lx_irr (lx_trans e h2)).elim
  | b :: r, c, hc, hl, h1, h2, f => by
    rcases h2 with rfl | h2
    · exact f _ (.head _)
    rcases lx_tri q b with k | rfl | k
    · exact chain_lin hu r b hc.tail.2 hl.2 h1 (.inr k) fun t ht => f t (.tail _ ht)
    · exact f _ (.tail _ (.head _))
    · exact edge_lin hu k h2 hl.1 (f b (.tail _ (.head _))) (f c (.head _))
theorem hull_lin {us : List GP} (hu : Up us) (hne : us ≠ []) {u v w : Int} (f : ∀ t ∈ hull us, 0 ≤ u * t.1 + v * t.2 + w) : ∀ q ∈ us, 0 ≤ u * q.1 + v * q.2 + w := by
  intro q hq
  by_cases hl : us.length = 1
  · have e : hull us = us := if_pos hl
    rw [e] at f
    exact f q hq
  · have hl2 : 2 ≤ us.length := by
      have : us.length ≠ 0 := fun z => hne (List.length_eq_zero_iff.mp z)
      omega
    obtain ⟨m, M, rS, rT, h⟩ := two_of hu hne
    obtain ⟨k1, k2, _, _⟩ := h.mem hu hl2
    rcases Int.le_total u 0 with c | c
    · exact chain_lin c rS M h.cs.conv (h.cs.la q hq) (by rw [h.cs.bot]; exact h.lo q hq) (h.hi q hq) fun t ht => f t (k1 t ht)
    · have hq' : ng q ∈ us.map ng := List.mem_map.mpr ⟨q, hq, rfl⟩
      have := chain_lin (q := ng q) (u := -u) (v := -v) (w := w) (by omega) (rT.map ng) (ng m) h.ct.conv (h.ct.la _ hq') (by
        rw [h.ct.bot]
        rcases h.hi q hq with e | e
        · exact .inl (by rw [e])
        · exact .inr (lx_ng.mpr e)) (by
        rcases h.lo q hq with e | e
        · exact .inl (by rw [e])
        · exact .inr (lx_ng.mpr e)) (fun t ht => by
        have ht' : t ∈ (m :: rT).map ng := ht
        obtain ⟨y, hy, rfl⟩ := List.mem_map.mp ht'
        have := f y (k2 y hy)
        unfold ng
        simp only [Int.neg_mul_neg]
        exact this)
      unfold ng at this
      simp only [Int.neg_mul_neg] at this
      exact this
theorem hull_lohi {us : List GP} (hu : Up us) (hne : us ≠ []) : (∃ m ∈ hull us, ∀ q ∈ us, q = m ∨ lx m q) ∧ ∃ M ∈ hull us, ∀ q ∈ us, q = M ∨ lx q M := by
  by_cases hl : us.length = 1
  · have e : hull us = us := if_pos hl
    obtain ⟨m, rfl⟩ := List.length_eq_one_iff.mp hl
    rw [e]
    exact ⟨⟨m, .head _, fun q hq => .inl (List.mem_singleton.mp hq)⟩, ⟨m, .head _, fun q hq => .inl (List.mem_singleton.mp hq)⟩⟩
  · have hl2 : 2 ≤ us.length := by
      have : us.length ≠ 0 := fun z => hne (List.length_eq_zero_iff.mp z)
      omega
    obtain ⟨m, M, rS, rT, h⟩ := two_of hu hne
    obtain ⟨k1, k2, _, _⟩ := h.mem hu hl2
    exact ⟨⟨m, k2 m (.head _), h.lo⟩, ⟨M, k1 M (.head _), h.hi⟩⟩
def add (a z : GP) : GP := (a.1 + z.1, a.2 + z.2)
theorem lx_add {a x y : GP} (h : lx x y) : lx (add a x) (add a y) := by
  unfold lx add at *
  simp only []
  omega
theorem lx_le {a b c : GP} (h : b = a ∨ lx a b) (k : c = b ∨ lx b c) : c = a ∨ lx a c := by
  rcases h with rfl | h
  · exact k
  · rcases k with rfl | k
    · exact .inr h
    · exact .inr (lx_trans h k)
theorem lx_ge {a b c : GP} (h : b = a ∨ lx b a) (k : c = b ∨ lx c b) : c = a ∨ lx c a := by
  rcases h with rfl | h
  · exact k
  · rcases k with rfl | k
    · exact .inr h
    · exact .inr (lx_trans k h)
/-- around the sums of the corners: around the sums of the points -/
theorem around_up {us U us' h : List GP} {p q : GP} (hU : Up U) (hne : U ≠ []) (ar : Around us h) (h1 : ∀ t ∈ hull U, add p t ∈ us ∧ add q t ∈ us) (h2 : ∀ y ∈ us', ∃ x ∈ U, y = add p x ∨ y = add q x) (h3 : ∀ y ∈ us, y ∈ us') : Around us' h := by
  obtain ⟨⟨m, mh, hm⟩, ⟨M, Mh, hM⟩⟩ := hull_lohi hU hne
  refine ⟨ar.ne, ar.nodup, fun x hx => h3 x (ar.sub x hx), fun a ha y hy => ?_, fun hn a ha y hy => ?_, ar.turn, fun k a b hk ha hb y hy => ?_⟩
  · obtain ⟨x, hx, e⟩ := h2 y hy
    rcases e with rfl | rfl
    · refine lx_le (ar.first a ha _ (h1 m mh).1) ?_
      rcases hm x hx with rfl | e
      · exact .inl rfl
      · exact .inr (lx_add e)
    · refine lx_le (ar.first a ha _ (h1 m mh).2) ?_
      rcases hm x hx with rfl | e
      · exact .inl rfl
      · exact .inr (lx_add e)
  · obtain ⟨x, hx, e⟩ := h2 y hy
    rcases e with rfl | rfl
    · refine lx_ge (ar.last hn a ha _ (h1 M Mh).1) ?_
      rcases hM x hx with rfl | e
      · exact .inl rfl
      · exact .inr (lx_add e)
    · refine lx_ge (ar.last hn a ha _ (h1 M Mh).2) ?_
      rcases hM x hx with rfl | e
      · exact .inl rfl
      · exact .inr (lx_add e)
  · have lin : ∀ s : GP, (∀ t ∈ hull U, add s t ∈ us) → ∀ x ∈ U, 0 ≤ ori a b (add s x) := fun s hs x hx => by
      have := hull_lin (u := -(b.2 - a.2)) (v := b.1 - a.1) (w := (b.1 - a.1) * (s.2 - b.2) - (b.2 - a.2) * (s.1 - b.1)) hU hne (fun t ht => by
        have := ar.edge k a b hk ha hb _ (hs t ht)
        unfold ori add at this
        grind) x hx
      unfold ori add
      grind
    obtain ⟨x, hx, e⟩ := h2 y hy
    rcases e with rfl | rfl
    · exact lin p (fun t ht => (h1 t ht).1) x hx
    · exact lin q (fun t ht => (h1 t ht).2) x hx
def Bq (z : GP) : Prop := Gb 1000 z
def Br (z : GP) : Prop := Gb 2000000 z
def sp__law_place (K : PySem.W.Frag) : Sp := fun vs H Q _ => ∃ (p : Addr) (H0 : Hp) (m : Int), vs = [.ref p, .int m] ∧ Sd H0 H p ∧
  ∀ (t : Addr) (x y : Int) (H' : Hp), H t = none → t ≠ p → H' t = some (.tup [.int x, .int y]) → Gb 1000000 (x, y) → Sd H0 H' p → Kp p H H' → Q (.ref t) H'
section
theorem ok__law_place {P : Program} {w : World} {K : PySem.W.Frag} {mg : Str → Option Value} {base : Heap} {A : Nat → Addr} {D : Nat → FuncData} (T : Txt K mg A D) : FnOk P w K mg base (L2.CX P w) 2 (A 46) (D 46) ["stream", "mode"] (sp__law_place K) := by
  refine T.F__law_place.okX sc__law_place (fun vs H Q E h => ?_) (fun cdv A' outer s H vs Q E hr h => ?_)
  · obtain ⟨p, H0, m, rfl, _⟩ := h
    rfl
  obtain ⟨p, H0, m, rfl, S, q⟩ := h
  refine ⟨_, (pss_cons (ps_if (pt_cmpR op_eq (pv 1) pe_int (nomark _))
  (pss_one (ps_ret (pe_tup (pa_cons (pe_op op_sub (pe_op op_mul pe_int (pe_call (ok__law_draw T) (hr.mono (by decide)) (by rfl) T.m__law_draw T.F__law_draw.kp T.b__law_draw .nil (passes_call (takes_of rfl rfl rfl rfl) (fun _ _ _ _ h => h)) (pa_cons (pv 0) (pa_cons pe_int pa_nil)))) pe_int) (pa_cons (pe_op op_sub (pe_op op_mul pe_int (pe_call (ok__law_draw T) (hr.mono (by decide)) (by rfl) T.m__law_draw T.F__law_draw.kp T.b__law_draw .nil (passes_call (takes_of rfl rfl rfl rfl) (fun _ _ _ _ h => h)) (pa_cons (pv 0) (pa_cons pe_int pa_nil)))) pe_int) pa_nil)))))
  pss_nil)
  (pss_cons (ps_if (pt_cmpR op_eq (pv 1) pe_int (nomark _))
  (pss_one (ps_ret (pe_tup (pa_cons (pe_op op_sub (pe_call (ok__law_draw T) (hr.mono (by decide)) (by rfl) T.m__law_draw T.F__law_draw.kp T.b__law_draw .nil (passes_call (takes_of rfl rfl rfl rfl) (fun _ _ _ _ h => h)) (pa_cons (pv 0) (pa_cons pe_int pa_nil))) pe_int) (pa_cons (pe_op op_sub (pe_call (ok__law_draw T) (hr.mono (by decide)) (by rfl) T.m__law_draw T.F__law_draw.kp T.b__law_draw .nil (passes_call (takes_of rfl rfl rfl rfl) (fun _ _ _ _ h => h)) (pa_cons (pv 0) (pa_cons pe_int pa_nil))) pe_int) pa_nil)))))
  pss_nil)
  (pss_cons (ps_if (pt_cmpR op_eq (pv 1) pe_int (nomark _))
  (pss_one (ps_ret (pe_tup (pa_cons (pe_op op_sub (pe_op op_mul pe_int (pe_call (ok__law_draw T) (hr.mono (by decide)) (by rfl) T.m__law_draw T.F__law_draw.kp T.b__law_draw .nil (passes_call (takes_of rfl rfl rfl rfl) (fun _ _ _ _ h => h)) (pa_cons (pv 0) (pa_cons pe_int pa_nil)))) pe_int) (pa_cons (pe_op op_sub (pe_op op_mul pe_int (pe_call (ok__law_draw T) (hr.mono (by decide)) (by rfl) T.m__law_draw T.F__law_draw.kp T.b__law_draw .nil (passes_call (takes_of rfl rfl rfl rfl) (fun _ _ _ _ h => h)) (pa_cons (pv 0) (pa_cons pe_int pa_nil)))) pe_int) pa_nil)))))
  pss_nil)
  (pss_one (ps_ret (pe_tup (pa_cons (pe_op op_sub (pe_call (ok__law_draw T) (hr.mono (by decide)) (by rfl) T.m__law_draw T.F__law_draw.kp T.b__law_draw .nil (passes_call (takes_of rfl rfl rfl rfl) (fun _ _ _ _ h => h)) (pa_cons (pv 0) (pa_cons pe_int pa_nil))) pe_int) (pa_cons (pe_op op_sub (pe_call (ok__law_draw T) (hr.mono (by decide)) (by rfl) T.m__law_draw T.F__law_draw.kp T.b__law_draw .nil (passes_call (takes_of rfl rfl rfl rfl) (fun _ _ _ _ h => h)) (pa_cons (pv 0) (pa_cons pe_int pa_nil))) pe_int) pa_nil)))))))), ?_⟩
  walk_at "z"
  refine z_if (fun _ => ?_) (fun _ => ?_)
  · walk_at "z"
    refine nx S (by decide) (lt1000 (by decide)) fun x H1 _ _ S1 e1 => ?_
    walk_at "z"
    refine nx S1 (by decide) (lt1000 (by decide)) fun y H2 _ _ S2 e2 => ?_
    walk_at "z"
    intro t H3 f3 s3 h3
    have k2 := (kp_eq e1).trans' (kp_eq e2)
    exact q t _ _ H3 (kp_none k2 f3 (S2.ne0 f3)) (S2.ne0 f3) h3 ⟨by omega, by omega⟩ (S2.mono s3) (k2.trans' (kp_of s3))
  walk_at "z"
  refine z_if (fun _ => ?_) (fun _ => ?_)
  · walk_at "z"
    refine nx S (by decide) (lt1000 (by decide)) fun x H1 _ _ S1 e1 => ?_
    walk_at "z"
    refine nx S1 (by decide) (lt1000 (by decide)) fun y H2 _ _ S2 e2 => ?_
    walk_at "z"
    intro t H3 f3 s3 h3
    have k2 := (kp_eq e1).trans' (kp_eq e2)
    exact q t _ _ H3 (kp_none k2 f3 (S2.ne0 f3)) (S2.ne0 f3) h3 ⟨by omega, by omega⟩ (S2.mono s3) (k2.trans' (kp_of s3))
  walk_at "z"
  refine z_if (fun _ => ?_) (fun _ => ?_)
  · walk_at "z"
    refine nx S (by decide) (lt1000 (by decide)) fun x H1 _ _ S1 e1 => ?_
    walk_at "z"
    refine nx S1 (by decide) (lt1000 (by decide)) fun y H2 _ _ S2 e2 => ?_
    walk_at "z"
    intro t H3 f3 s3 h3
    have k2 := (kp_eq e1).trans' (kp_eq e2)
    exact q t _ _ H3 (kp_none k2 f3 (S2.ne0 f3)) (S2.ne0 f3) h3 ⟨by omega, by omega⟩ (S2.mono s3) (k2.trans' (kp_of s3))
  walk_at "z"
  refine nx S (by decide) (lt1000 (by decide)) fun x H1 _ _ S1 e1 => ?_
  walk_at "z"
  refine nx S1 (by decide) (lt1000 (by decide)) fun y H2 _ _ S2 e2 => ?_
  walk_at "z"
  intro t H3 f3 s3 h3
  have k2 := (kp_eq e1).trans' (kp_eq e2)
  exact q t _ _ H3 (kp_none k2 f3 (S2.ne0 f3)) (S2.ne0 f3) h3 ⟨by omega, by omega⟩ (S2.mono s3) (k2.trans' (kp_of s3))
end
/-! ### a pen set down at two places -/
theorem gm_add {a z : GP} (h : Br a) (k : Bq z) : Gm (add a z) := by
  unfold Br Bq Gm Gb add at *
  simp only []
  omega
def sp_moved_pen (K : PySem.W.Frag) : Sp := fun vs H Q _ => ∃ (f : Addr) (v : V) (ws : List V) (zs : List GP) (a : GP), vs = [.ref f, v] ∧ H f = some (.lst ws) ∧ Gs K H ws zs ∧ Dp K H v (gD a) ∧ zs.length ≤ 60 ∧
  ∀ q H' us, H q = none → Same H H' → H' q = some (.lst us) → Gs K H' us (zs.map (add a)) → Q (.ref q) H'
section
theorem ok_moved_pen {P : Program} {w : World} {K : PySem.W.Frag} {mg : Str → Option Value} {base : Heap} {A : Nat → Addr} {D : Nat → FuncData} (T : Txt K mg A D) : FnOk P w K mg base (L2.CX P w) 1 (A 31) (D 31) ["pen", "p"] (sp_moved_pen K) := by
  refine T.F_moved_pen.okX sc_moved_pen (fun vs H Q E h => ?_) (fun cdv A' outer s H vs Q E hr h => ?_)
  · obtain ⟨f, v, ws, zs, a, rfl, _⟩ := h
    rfl
  obtain ⟨f, v, ws, zs, a, rfl, hf, g, dv, hl, q⟩ := h
  refine ⟨_, (pss_one (ps_ret (pe_lc (own := [("x", 2), ("y", 3)]) (g := gTup K 2 (gCons (gName 2) (gCons (gName 3) gNil))) (tt := tYes) rfl sc_moved_pen.nd (pi_list (pv 0)) (blkOk_by (N := ["pen", "p", "x", "y"]) (sc := defScope s_moved_pen) (by decide +kernel)) (fun _ _ _ _ _ => pg_tup (by rfl) (pgs_cons (pg_name (i := 2) sc_moved_pen.nd rfl (Or.inl rfl)) (pgs_cons (pg_name (i := 3) sc_moved_pen.nd rfl (Or.inl rfl)) pgs_nil))) (fun _ _ _ _ _ => pts_nil) (fun _ _ _ _ _ => (pe_tup (pa_cons (pe_op op_add (pe_ix (show IxR _ (rIxT K) from ix_tup) (pv 1) pe_int (fun _ _ => rfl)) (pv 2)) (pa_cons (pe_op op_add (pe_ix (show IxR _ (rIxT K) from ix_tup) (pv 1) pe_int (fun _ _ => rfl)) (pv 3)) pa_nil))))))), ?_⟩
  have lw := g.len
  walk_at "z"
  refine z_lcE ?_
  walk_at "z"
  refine z_lcG (by omega) (.inl (.inl hf)) (fun i D acc H' => Same H H' ∧ H D = none ∧ Gs K H' acc ((zs.map (add a)).take i)) (fun D H' f s _ => ⟨s, f, trivial⟩) (fun i D acc H' h => .inl (.inl (h.1 _ _ hf)))
    (fun i x D acc H' hx hl' hD ⟨s', fD, ga⟩ => ?_) (fun D acc H3 f3 hl' e3 ⟨s3, _, ga⟩ => ?_)
  · obtain ⟨c, hc, dc⟩ := (g.mono s').getv hx
    obtain ⟨pc, rfl, hpc⟩ := dp_g dc
    obtain ⟨pv, rfl, hpv⟩ := dp_g (dp_mono s' dv)
    walk_at "z"
    refine ⟨rfl, ?_⟩
    walk_at "z"
    intro t2 H4 f4 s4 h4
    have hD4 := s4 _ _ hD
    refine z_lcB hD4 hl' (by have := (List.getElem?_eq_some_iff.mp hx).1; omega) fun H5 hD5 k5 e5 => ⟨fun b o h => ?_, fD, ?_⟩
    · rw [e5 b (ne_of_none h fD)]
      exact s4 _ _ (s' _ _ h)
    · rw [List.take_add_one, List.getElem?_map, hc]
      exact Gs.kp k5 hD4 ((ga.mono s4).app (gs_one (dp_mkg h4)))
  · rw [show ws.length = (zs.map (add a)).length by rw [List.length_map, lw], List.take_length] at ga
    exact q D H3 acc f3 s3 e3 ga
end
def sp__law_sums (K : PySem.W.Frag) : Sp := fun vs H Q _ => ∃ (f : Addr) (v w : V) (ws : List V) (zs : List GP) (a b : GP), vs = [.ref f, v, w] ∧ H f = some (.lst ws) ∧ Gs K H ws zs ∧ Dp K H v (gD a) ∧ Dp K H w (gD b) ∧ zs.length ≤ 60 ∧
  ∀ q H' us, H q = none → Same H H' → H' q = some (.lst us) → Gs K H' us (zs.map (add a) ++ zs.map (add b)) → Q (.ref q) H'
section
theorem ok__law_sums {P : Program} {w : World} {K : PySem.W.Frag} {mg : Str → Option Value} {base : Heap} {A : Nat → Addr} {D : Nat → FuncData} (T : Txt K mg A D) : FnOk P w K mg base (L2.CX P w) 1 (A 45) (D 45) ["points", "p", "q"] (sp__law_sums K) := by
  refine T.F__law_sums.okX sc__law_sums (fun vs H Q E h => ?_) (fun cdv A' outer s H vs Q E hr h => ?_)
  · obtain ⟨f, v, w', ws, zs, a, b, rfl, _⟩ := h
    rfl
  obtain ⟨f, v, w', ws, zs, a, b, rfl, hf, g, dv, dw, hl, q⟩ := h
  refine ⟨_, (pss_cons (ps_setLc (i := 3) (own := [("point", 4)]) (g := gName 4) (tt := tYes) rfl sc__law_sums.nd rfl rfl (sw_true rfl rfl rfl (by decide +kernel)) (pi_list (pv 0)) (blkOk_by (N := ["points", "p", "q", "sums_v", "point"]) (sc := defScope s__law_sums) (by decide +kernel)) (fun _ _ _ _ _ => pg_name (i := 4) sc__law_sums.nd rfl (Or.inl rfl)) (fun _ _ _ _ _ => pts_nil) (fun _ _ _ _ _ => (pe_tup (pa_cons (pe_op op_add (pe_ix (show IxR _ (rIxT K) from ix_tup) (pv 1) pe_int (fun _ _ => rfl)) (pe_ix (show IxR _ (rIxT K) from ix_tup) (pv 4) pe_int (fun _ _ => rfl))) (pa_cons (pe_op op_add (pe_ix (show IxR _ (rIxT K) from ix_tup) (pv 1) pe_int (fun _ _ => rfl)) (pe_ix (show IxR _ (rIxT K) from ix_tup) (pv 4) pe_int (fun _ _ => rfl))) pa_nil)))))
  (pss_one (ps_ret (pe_op op_cat (pv 3) (pe_lc (own := [("point", 4)]) (g := gName 4) (tt := tYes) rfl sc__law_sums.nd (pi_list (pv 0)) (blkOk_by (N := ["points", "p", "q", "sums_v", "point"]) (sc := defScope s__law_sums) (by decide +kernel)) (fun _ _ _ _ _ => pg_name (i := 4) sc__law_sums.nd rfl (Or.inl rfl)) (fun _ _ _ _ _ => pts_nil) (fun _ _ _ _ _ => (pe_tup (pa_cons (pe_op op_add (pe_ix (show IxR _ (rIxT K) from ix_tup) (pv 2) pe_int (fun _ _ => rfl)) (pe_ix (show IxR _ (rIxT K) from ix_tup) (pv 4) pe_int (fun _ _ => rfl))) (pa_cons (pe_op op_add (pe_ix (show IxR _ (rIxT K) from ix_tup) (pv 2) pe_int (fun _ _ => rfl)) (pe_ix (show IxR _ (rIxT K) from ix_tup) (pv 4) pe_int (fun _ _ => rfl))) pa_nil))))))))), ?_⟩
  have lw := g.len
  walk_at "z"
  refine z_lcE ?_
  walk_at "z"
  refine z_lcG (by omega) (.inl (.inl hf)) (fun i D acc H' => Same H H' ∧ H D = none ∧ Gs K H' acc ((zs.map (add a)).take i)) (fun D H' f s _ => ⟨s, f, trivial⟩) (fun i D acc H' h => .inl (.inl (h.1 _ _ hf)))
    (fun i x D acc H' hx hl' hD ⟨s', fD, ga⟩ => ?_) (fun D acc H3 f3 hl' e3 ⟨s3, _, ga⟩ => ?_)
  · obtain ⟨c, hc, dc⟩ := (g.mono s').getv hx
    obtain ⟨pc, rfl, hpc⟩ := dp_g dc
    obtain ⟨pv, rfl, hpv⟩ := dp_g (dp_mono s' dv)
    walk_at "z"
    refine ⟨rfl, ?_⟩
    walk_at "z"
    intro t2 H4 f4 s4 h4
    have hD4 := s4 _ _ hD
    refine z_lcB hD4 hl' (by have := (List.getElem?_eq_some_iff.mp hx).1; omega) fun H5 hD5 k5 e5 => ⟨fun b o h => ?_, fD, ?_⟩
    · rw [e5 b (ne_of_none h fD)]
      exact s4 _ _ (s' _ _ h)
    · rw [List.take_add_one, List.getElem?_map, hc]
      exact Gs.kp k5 hD4 ((ga.mono s4).app (gs_one (dp_mkg h4)))
  rw [show ws.length = (zs.map (add a)).length by rw [List.length_map, lw], List.take_length] at ga
  have hf3 := s3 _ _ hf
  have g3 := g.mono s3
  walk_at "z"
  refine z_lcE ?_
  walk_at "z"
  refine z_lcG (by omega) (.inl (.inl hf3)) (fun i D acc H' => Same H3 H' ∧ H3 D = none ∧ Gs K H' acc ((zs.map (add b)).take i)) (fun D H' f s _ => ⟨s, f, trivial⟩) (fun i D acc H' h => .inl (.inl (h.1 _ _ hf3)))
    (fun i x D' acc' H' hx hl' hD ⟨s', fD, ga'⟩ => ?_) (fun D' acc' H6 f6 hl6 e6 ⟨s6, _, ga6⟩ => ?_)
  · obtain ⟨c, hc, dc⟩ := (g3.mono s').getv hx
    obtain ⟨pc, rfl, hpc⟩ := dp_g dc
    obtain ⟨pv, rfl, hpv⟩ := dp_g (dp_mono (s3.trans s') dw)
    walk_at "z"
    refine ⟨rfl, ?_⟩
    walk_at "z"
    intro t2 H4 f4 s4 h4
    have hD4 := s4 _ _ hD
    refine z_lcB hD4 hl' (by have := (List.getElem?_eq_some_iff.mp hx).1; omega) fun H5 hD5 k5 e5 => ⟨fun b o h => ?_, fD, ?_⟩
    · rw [e5 b (ne_of_none h fD)]
      exact s4 _ _ (s' _ _ h)
    · rw [List.take_add_one, List.getElem?_map, hc]
      exact Gs.kp k5 hD4 ((ga'.mono s4).app (gs_one (dp_mkg h4)))
  rw [show ws.length = (zs.map (add b)).length by rw [List.length_map, lw], List.take_length] at ga6
  have l1 := ga.len
  have l2 := ga6.len
  rw [List.length_map] at l1 l2
  refine z_cat (s6 _ _ e3) e6 (by omega) fun a7 H7 f7 s7 e7 => ?_
  exact q a7 H7 _ (fresh_of (s3.trans s6) f7) ((s3.trans s6).trans s7) e7 (((ga.mono s6).mono s7).app (ga6.mono s7))
end
def sp_sweep (K : PySem.W.Frag) : Sp := fun vs H Q _ => ∃ (f : Addr) (v w : V) (ws : List V) (zs : List GP) (a b : GP), vs = [.ref f, v, w] ∧ H f = some (.lst ws) ∧ Gs K H ws zs ∧ Dp K H v (gD a) ∧ Dp K H w (gD b) ∧ zs.length ≤ 30 ∧ zs ≠ [] ∧ (∀ z ∈ zs, Bq z) ∧ Br a ∧ Br b ∧
  ∀ q H' vs us, H q = none → Same H H' → H' q = some (.lst vs) → Gs K H' vs (hull us) → Set (zs.map (add a) ++ zs.map (add b)) us → us.length ≤ 60 → Q (.ref q) H'
section
theorem ok_sweep {P : Program} {w : World} {K : PySem.W.Frag} {mg : Str → Option Value} {base : Heap} {A : Nat → Addr} {D : Nat → FuncData} (T : Txt K mg A D) : FnOk P w K mg base (L2.CX P w) 4 (A 30) (D 30) ["pen", "p", "q"] (sp_sweep K) := by
  refine T.F_sweep.okX sc_sweep (fun vs H Q E h => ?_) (fun cdv A' outer s H vs Q E hr h => ?_)
  · obtain ⟨f, v, w', ws, zs, a, b, rfl, _⟩ := h
    rfl
  obtain ⟨f, v, w', ws, zs, a, b, rfl, hf, g, dv, dw, hl, hne, hb, ba, bb, q⟩ := h
  refine ⟨_, (pss_one (ps_ret (pe_call (ok_corners T) (hr.mono (by decide)) (by rfl) T.m_corners T.F_corners.kp T.b_corners .nil (passes_call (takes_of rfl rfl rfl rfl) (fun _ _ _ _ h => h)) (pa_cons (pe_op op_cat (pe_call (ok_moved_pen T) (hr.mono (by decide)) (by rfl) T.m_moved_pen T.F_moved_pen.kp T.b_moved_pen .nil (passes_call (takes_of rfl rfl rfl rfl) (fun _ _ _ _ h => h)) (pa_cons (pv 0) (pa_cons (pv 1) pa_nil))) (pe_call (ok_moved_pen T) (hr.mono (by decide)) (by rfl) T.m_moved_pen T.F_moved_pen.kp T.b_moved_pen .nil (passes_call (takes_of rfl rfl rfl rfl) (fun _ _ _ _ h => h)) (pa_cons (pv 0) (pa_cons (pv 2) pa_nil)))) pa_nil)))), ?_⟩
  walk_at "z"
  refine ⟨f, v, ws, zs, a, rfl, hf, g, dv, by omega, fun q1 H1 u1 f1 s1 e1 g1 => ?_⟩
  walk_at "z"
  refine ⟨f, w', ws, zs, b, rfl, s1 _ _ hf, g.mono s1, dp_mono s1 dw, by omega, fun q2 H2 u2 f2 s2 e2 g2 => ?_⟩
  have l1 := g1.len
  have l2 := g2.len
  rw [List.length_map] at l1 l2
  walk_at "z"
  refine z_cat (s2 _ _ e1) e2 (by omega) fun a3 H3 f3 s3 e3 => ?_
  have s13 := (s1.trans s2).trans s3
  refine ⟨a3, _, zs.map (add a) ++ zs.map (add b), zs.map (add a) ++ zs.map (add b), rfl, e3, ((g1.mono s2).mono s3).app (g2.mono s3), fun z hz => ?_, fun e => ?_, by rw [List.length_append, List.length_map, List.length_map]; omega, fun z hz => hz, fun q4 H4 u4 us f4 s4 e4 g4 hset lu => ?_⟩
  · rcases List.mem_append.mp hz with h | h
    · obtain ⟨x, hx, rfl⟩ := List.mem_map.mp h
      exact gm_add ba (hb x hx)
    · obtain ⟨x, hx, rfl⟩ := List.mem_map.mp h
      exact gm_add bb (hb x hx)
  · cases zs with
    | nil => exact hne rfl
    | cons => cases e
  · exact q q4 H4 u4 us (fresh_of s13 f4) (s13.trans s4) e4 g4 hset lu
end
/-! ### changes at pixels -/
abbrev Chg := Int × Int × Int
def cD (e : Chg) : PyData := .tuple [.int e.1, .int e.2.1, .int e.2.2]
/-- the changes in row r up to column c -/
def val : List Chg → Int → Int → Int
  | [], _, _ => 0
  | e :: es, r, c => (if e.1 = r ∧ e.2.1 ≤ c then e.2.2 else 0) + val es r c
def atP : List Chg → Int → Int → Int
  | [], _, _ => 0
  | e :: es, r, c => (if e.1 = r ∧ e.2.1 = c then e.2.2 else 0) + atP es r c
theorem val_app : ∀ (es fs : List Chg) (r c : Int), val (es ++ fs) r c = val es r c + val fs r c
  | [], fs, r, c => by
    show val fs r c = 0 + val fs r c
    omega
  | e :: es, fs, r, c => by
    show _ + val (es ++ fs) r c = _ + val es r c + _
    rw [val_app es fs r c]
    omega
theorem atP_app : ∀ (es fs : List Chg) (r c : Int), atP (es ++ fs) r c = atP es r c + atP fs r c
  | [], fs, r, c => by
    show atP fs r c = 0 + atP fs r c
    omega
  | e :: es, fs, r, c => by
    show _ + atP (es ++ fs) r c = _ + atP es r c + _
    rw [atP_app es fs r c]
    omega
def OnC (es : List Chg) : Prop := ∀ e ∈ es, 0 ≤ e.1 ∧ e.1 < 48 ∧ 0 ≤ e.2.1 ∧ e.2.1 < 48
/-- f 0 + .. + f c -/
def sumTo (f : Nat → Int) : Nat → Int
  | 0 => f 0
  | c + 1 => sumTo f c + f (c + 1)
theorem sumTo_add (f g : Nat → Int) : ∀ c, sumTo (fun i => f i + g i) c = sumTo f c + sumTo g c
  | 0 => rfl
  | c + 1 => by
    show sumTo (fun i => f i + g i) c + (f (c + 1) + g (c + 1)) = _
    rw [sumTo_add f g c]
    show _ = sumTo f c + f (c + 1) + (sumTo g c + g (c + 1))
    omega
theorem sumTo_zero : ∀ c, sumTo (fun _ => 0) c = 0
  | 0 => rfl
  | c + 1 => by
    show sumTo (fun _ => 0) c + 0 = 0
    rw [sumTo_zero c]
    rfl
theorem sumTo_one (k x : Int) (h : 0 ≤ k) : ∀ c : Nat, sumTo (fun i => if k = (i : Int) then x else 0) c = if k ≤ (c : Int) then x else 0
  | 0 => by
    show (if k = ((0 : Nat) : Int) then x else 0) = _
    by_cases e : k = 0
    · rw [if_pos (show k = ((0 : Nat) : Int) from e), if_pos (show k ≤ ((0 : Nat) : Int) by omega)]
    · rw [if_neg (show ¬ k = ((0 : Nat) : Int) by omega), if_neg (show ¬ k ≤ ((0 : Nat) : Int) by omega)]
  | c + 1 => by
    show sumTo (fun i => if k = (i : Int) then x else 0) c + (if k = ((c + 1 : Nat) : Int) then x else 0) = _
    rw [sumTo_one k x h c]
    by_cases e : k ≤ (c : Int)
    · rw [if_pos e, if_neg (by omega), if_pos (by omega)]
      omega
    · rw [if_neg e]
      by_cases e2 : k = ((c + 1 : Nat) : Int)
      · rw [if_pos e2, if_pos (by omega)]
        omega
      · rw [if_neg e2, if_neg (by omega)]
        rfl
theorem sum_atP : ∀ (es : List Chg) (r : Int) (c : Nat), OnC es → sumTo (fun i => atP es r (i : Int)) c = val es r (c : Int)
  | [], r, c, _ => sumTo_zero c
  | e :: es, r, c, h => by
    show sumTo (fun i => (if e.1 = r ∧ e.2.1 = (i : Int) then e.2.2 else 0) + atP es r (i : Int)) c = _
    rw [sumTo_add (fun i => if e.1 = r ∧ e.2.1 = (i : Int) then e.2.2 else 0) (fun i => atP es r (i : Int)) c, sum_atP es r c fun x hx => h x (.tail _ hx)]
    show _ = (if e.1 = r ∧ e.2.1 ≤ (c : Int) then e.2.2 else 0) + val es r (c : Int)
    congr 1
    by_cases er : e.1 = r
    · have := sumTo_one e.2.1 e.2.2 (h e (.head _)).2.2.1 c
      simpa only [er, true_and] using this
    · have := sumTo_zero c
      simpa only [er, false_and, if_false] using this
/-- running sums -/
def psl : Int → List Int → List Int
  | _, [] => []
  | t, n :: ns => (t + n) :: psl (t + n) ns
theorem psl_len : ∀ (t : Int) (ns : List Int), (psl t ns).length = ns.length
  | _, [] => rfl
  | t, n :: ns => congrArg (· + 1) (psl_len (t + n) ns)
theorem psl_get (f : Nat → Int) : ∀ (m : Nat) (k : Nat) (t : Int), k < m → (psl t ((List.range m).map f))[k]? = some (t + sumTo f k) := by
  intro m
  induction m generalizing f with
  | zero => intro k t h; omega
  | succ m ih =>
    intro k t h
    rw [List.range_succ_eq_map, List.map_cons, List.map_map]
    cases k with
    | zero => rfl
    | succ k =>
      show (psl (t + f 0) ((List.range m).map (f ∘ Nat.succ)))[k]? = _
      rw [ih (f ∘ Nat.succ) k (t + f 0) (by omega)]
      have : ∀ k, f 0 + sumTo (f ∘ Nat.succ) k = sumTo f (k + 1) := by
        intro k
        induction k with
        | zero => rfl
        | succ k ih2 =>
          show f 0 + (sumTo (f ∘ Nat.succ) k + f (k + 1 + 1)) = sumTo f (k + 1) + f (k + 1 + 1)
          omega
      rw [← this k]
      congr 1
      omega
/-- the height of row r, the position of column c -/
def Yr (r : Int) : Int := (r + -16) * 64 + 32
def Xc (c : Int) : Int := (c + -8) * 64 + 32
def fc (p : Int) : Int := -((32 - p) / 64)
theorem fc_le {p i : Int} : fc p ≤ i ↔ p ≤ i * 64 + 32 := by
  unfold fc
  omega
local macro_rules | `(tactic| walk_at "z1") => `(tactic| first
  | with_reducible refine z_max2 ?_
  | with_reducible refine z_min2 ?_
  | with_reducible refine z_tru ?_
  | with_reducible refine z_augS ?_)
theorem wdiv {a d : Int} (h : 0 < d) (hd : d.natAbs < 2 ^ 100) : CDivW a d := wide_div h (lt1000 hd) (by decide) (by decide)
theorem wd64 {a : Int} : CDivW a 64 := wdiv (by decide) (by decide)
theorem lt60b {a : Nat} (h : a < 2 ^ 60) : a < 2 ^ 100 := Nat.lt_trans h (by decide)
theorem wm100 {a b : Int} (ha : a.natAbs < 2 ^ 100) (hb : b.natAbs < 2 ^ 100) : CMulW a b := wide_mul ha hb (by decide) (by decide) (by decide)
theorem ixN_nat {n c : Nat} (h : c < n) : ixN n (c : Int) = some c := by
  unfold ixN
  simp
  omega
def sp_first_center : Sp := fun vs H Q _ => ∃ p : Int, vs = [.int p] ∧ Q (.int (fc p)) H
section
theorem ok_first_center {P : Program} {w : World} {K : PySem.W.Frag} {mg : Str → Option Value} {base : Heap} {A : Nat → Addr} {D : Nat → FuncData} (T : Txt K mg A D) : FnOk P w K mg base (L2.CX P w) 1 (A 8) (D 8) ["position"] (sp_first_center) := by
  refine T.F_first_center.okX sc_first_center (fun vs H Q E h => ?_) (fun cdv A' outer s H vs Q E hr h => ?_)
  · obtain ⟨p, rfl, _⟩ := h
    rfl
  obtain ⟨p, rfl, q⟩ := h
  refine ⟨_, (pss_one (ps_ret (pe_un un_neg (pe_op op_fdivW (pe_op op_sub (Z.pe_globE T.c_HALF_PIXEL) (pv 0)) (Z.pe_globE T.c_PIXEL))))), ?_⟩
  walk_at "z"
  refine z_I wd64 ?_
  walk_at "z"
  exact q
end
/-- the first position on a line at a height -/
def fpos (a b : GP) (y : Int) : Int := a.1 - (b.1 - a.1) * (a.2 - y) / (b.2 - a.2)
def sp_first_position (K : PySem.W.Frag) : Sp := fun vs H Q _ => ∃ (v w : V) (a b : GP) (y : Int), vs = [v, w, .int y] ∧ Dp K H v (gD a) ∧ Dp K H w (gD b) ∧ Gm a ∧ Gm b ∧ a.2 < b.2 ∧ y.natAbs ≤ 10000000000000 ∧ Q (.int (fpos a b y)) H
section
theorem ok_first_position {P : Program} {w : World} {K : PySem.W.Frag} {mg : Str → Option Value} {base : Heap} {A : Nat → Addr} {D : Nat → FuncData} (T : Txt K mg A D) : FnOk P w K mg base (L2.CX P w) 1 (A 9) (D 9) ["low", "high", "y"] (sp_first_position K) := by
  refine T.F_first_position.okX sc_first_position (fun vs H Q E h => ?_) (fun cdv A' outer s H vs Q E hr h => ?_)
  · obtain ⟨v, w', a, b, y, rfl, _⟩ := h
    rfl
  obtain ⟨v, w', a, b, y, rfl, dv, dw, ga, gb, hab, hy, q⟩ := h
  refine ⟨_, (pss_one (ps_ret (pe_op op_sub (pe_ix ix_tup (pv 0) pe_int (fun _ _ => rfl)) (pe_op op_fdivW (pe_op op_mulW (pe_op op_sub (pe_ix ix_tup (pv 1) pe_int (fun _ _ => rfl)) (pe_ix ix_tup (pv 0) pe_int (fun _ _ => rfl))) (pe_op op_sub (pe_ix ix_tup (pv 0) pe_int (fun _ _ => rfl)) (pv 2))) (pe_op op_sub (pe_ix ix_tup (pv 1) pe_int (fun _ _ => rfl)) (pe_ix ix_tup (pv 0) pe_int (fun _ _ => rfl))))))), ?_⟩
  obtain ⟨pa, rfl, hpa⟩ := dp_g dv
  obtain ⟨pb, rfl, hpb⟩ := dp_g dw
  walk_at "z"
  refine z_I (gm_mul (gm_sub gb.1 ga.1) (gm_sub ga.2 hy)) ?_
  walk_at "z"
  refine z_I (wdiv (by omega) (lt60b (gm_sub gb.2 ga.2))) ?_
  walk_at "z"
  exact q
end
theorem col_left {a b : GP} {y c : Int} (h : a.2 < b.2) : fc (fpos a b y) - -8 ≤ c ↔ left a b (Xc c) y := by
  have e : fc (fpos a b y) - -8 ≤ c ↔ fc (fpos a b y) ≤ c + -8 := by omega
  rw [e, fc_le]
  unfold fpos left Xc
  have hd : 0 < b.2 - a.2 := by omega
  rw [show a.1 - (b.1 - a.1) * (a.2 - y) / (b.2 - a.2) ≤ (c + -8) * 64 + 32 ↔ a.1 - ((c + -8) * 64 + 32) ≤ (b.1 - a.1) * (a.2 - y) / (b.2 - a.2) by omega, Int.le_ediv_iff_mul_le hd]
  have e1 : (b.1 - a.1) * (a.2 - y) = - ((b.1 - a.1) * (y - a.2)) := by rw [← Int.mul_neg]; congr 1; omega
  have e2 : (a.1 - ((c + -8) * 64 + 32)) * (b.2 - a.2) = - (((c + -8) * 64 + 32 - a.1) * (b.2 - a.2)) := by rw [← Int.neg_mul]; congr 1; omega
  rw [e1, e2]
  omega
/-- where a line from below to above changes -/
def ind (a b : GP) (x y : Int) : Prop := a.2 ≤ y ∧ y < b.2 ∧ left a b x y
instance (a b : GP) (x y : Int) : Decidable (left a b x y) := inferInstanceAs (Decidable (_ ≤ _))
instance (a b : GP) (x y : Int) : Decidable (ind a b x y) := inferInstanceAs (Decidable (_ ∧ _))
theorem tup_chg : ∀ es : List Chg, tupOnlyA (es.map cD) = true
  | [] => rfl
  | e :: es => by
    show (tupOnly (cD e) && tupOnlyA (es.map cD)) = true
    rw [tup_chg es]
    rfl
def sp_changes_at_line (K : PySem.W.Frag) : Sp := fun vs H Q _ => ∃ (v w : V) (a b : GP) (ch : Int), vs = [v, w, .int ch] ∧ Dp K H v (gD a) ∧ Dp K H w (gD b) ∧ Gm a ∧ Gm b ∧
  ∀ p H' ws es, H p = none → Same H H' → H' p = some (.lst ws) → DpAll K H' ws (es.map cD) → es.length ≤ 48 → OnC es → (∀ r c, 0 ≤ r → r < 48 → 0 ≤ c → c < 48 → val es r c = if ind a b (Xc c) (Yr r) then ch else 0) → Q (.ref p) H'
section
theorem ok_changes_at_line {P : Program} {w : World} {K : PySem.W.Frag} {mg : Str → Option Value} {base : Heap} {A : Nat → Addr} {D : Nat → FuncData} (T : Txt K mg A D) : FnOk P w K mg base (L2.CX P w) 2 (A 7) (D 7) ["low", "high", "change"] (sp_changes_at_line K) := by
  refine T.F_changes_at_line.okX sc_changes_at_line (fun vs H Q E h => ?_) (fun cdv A' outer s H vs Q E hr h => ?_)
  · obtain ⟨v, w', a, b, ch, rfl, _⟩ := h
    rfl
  obtain ⟨v, w', a, b, ch, rfl, dv, dw, ga, gb, q⟩ := h
  refine ⟨_, (pss_cons (ps_set (i := 3) sc_changes_at_line.nd rfl (.inl rfl) (pe_callB (Z.c_max2 rfl) (by rfl) T.z_max (by decide +kernel) (pa_cons (pe_op op_sub (pe_call (ok_first_center T) (hr.mono (by decide)) (by rfl) T.m_first_center T.F_first_center.kp T.b_first_center .nil (passes_call (takes_of rfl rfl rfl rfl) (fun _ _ _ _ h => h)) (pa_cons (pe_ix ix_tup (pv 0) pe_int (fun _ _ => rfl)) pa_nil)) (Z.pe_globE T.c_BOTTOM)) (pa_cons pe_int pa_nil))))
  (pss_cons (ps_set (i := 4) sc_changes_at_line.nd rfl (.inl rfl) (pe_callB (Z.c_min2 rfl) (by rfl) T.z_min (by decide +kernel) (pa_cons (pe_op op_sub (pe_call (ok_first_center T) (hr.mono (by decide)) (by rfl) T.m_first_center T.F_first_center.kp T.b_first_center .nil (passes_call (takes_of rfl rfl rfl rfl) (fun _ _ _ _ h => h)) (pa_cons (pe_ix ix_tup (pv 1) pe_int (fun _ _ => rfl)) pa_nil)) (Z.pe_globE T.c_BOTTOM)) (pa_cons (Z.pe_globE T.c_SIZE) pa_nil))))
  (pss_cons (ps_set (i := 5) sc_changes_at_line.nd rfl (.inl rfl) (pe_lst pa_nil))
  (pss_cons (ps_for (passes_of rfl) rfl (pi_range2 (by rfl) T.z_range (pa_cons (pv 3) (pa_cons (pv 4) pa_nil))) (pg_name (i := 6) sc_changes_at_line.nd rfl (.inl rfl))
  (pss_cons (ps_set (i := 7) sc_changes_at_line.nd rfl (.inl rfl) (pe_op op_add (pe_op op_mulW (pe_op op_add (pv 6) (Z.pe_globE T.c_BOTTOM)) (Z.pe_globE T.c_PIXEL)) (Z.pe_globE T.c_HALF_PIXEL)))
  (pss_cons (ps_set (i := 8) sc_changes_at_line.nd rfl (.inl rfl) (pe_callB (Z.c_max2 rfl) (by rfl) T.z_max (by decide +kernel) (pa_cons (pe_op op_sub (pe_call (ok_first_center T) (hr.mono (by decide)) (by rfl) T.m_first_center T.F_first_center.kp T.b_first_center .nil (passes_call (takes_of rfl rfl rfl rfl) (fun _ _ _ _ h => h)) (pa_cons (pe_call (ok_first_position T) (hr.mono (by decide)) (by rfl) T.m_first_position T.F_first_position.kp T.b_first_position .nil (passes_call (takes_of rfl rfl rfl rfl) (fun _ _ _ _ h => h)) (pa_cons (pv 0) (pa_cons (pv 1) (pa_cons (pv 7) pa_nil)))) pa_nil)) (Z.pe_globE T.c_LEFT)) (pa_cons pe_int pa_nil))))
  (pss_one (ps_if (pt_cmpR op_lt (pv 8) (Z.pe_globE T.c_SIZE) (nomark _))
  (pss_one (ps_expr (pe_bm PySem.F.plainAttrs_list PySem.F.slot_list_append PySem.F.type_list_append mt_append (pv 5) (pa_cons (pe_tup (pa_cons (pv 6) (pa_cons (pv 8) (pa_cons (pv 2) pa_nil)))) pa_nil))))
  pss_nil)))))
  (pss_one (ps_ret (pv 5))))))), ?_⟩
  obtain ⟨pa, rfl, hpa⟩ := dp_g dv
  obtain ⟨pb, rfl, hpb⟩ := dp_g dw
  walk_at "z"
  refine ⟨_, rfl, ?_⟩
  walk_at "z"
  refine ⟨_, rfl, ?_⟩
  walk_at "z"
  intro l H1 f1 s1 e1
  walk_at "z"
  have fa : ∀ p : Int, p.natAbs ≤ 10000000000000 → (fc p).natAbs ≤ 10000000000000 := fun p h => by unfold fc; omega
  have fa1 := fa a.2 ga.2
  have fb1 := fa b.2 gb.2
  generalize hlo : (if 0 > fc a.2 - -16 then 0 else fc a.2 - -16) = lo
  generalize hhi : (if 48 < fc b.2 - -16 then 48 else fc b.2 - -16) = hi
  have hlo1 : lo ≤ 48 + 10000000000000 ∧ 0 ≤ lo := by rw [← hlo]; split <;> omega
  have hhi1 : hi ≤ 48 ∧ -20000000000000 ≤ hi := by rw [← hhi]; split <;> omega
  have hrow : ∀ r : Int, 0 ≤ r → r < 48 → ((lo ≤ r ∧ r < hi) ↔ (a.2 ≤ Yr r ∧ Yr r < b.2)) := fun r r0 r1 => by
    have h1 := fc_le (p := a.2) (i := r + -16)
    have h2 := fc_le (p := b.2) (i := r + -16)
    have e1 : lo ≤ r ↔ fc a.2 ≤ r + -16 := by rw [← hlo]; split <;> omega
    have e2 : r < hi ↔ ¬ fc b.2 ≤ r + -16 := by rw [← hhi]; split <;> omega
    unfold Yr
    rw [e1, e2, h1, h2]
    omega
  refine z_forR2g lo hi ⟨by omega, by omega⟩ ⟨by omega, by omega⟩ (fun R q => by walk_at "z"; exact q) (fun i σ' H' => Same H H' ∧ ∃ (ws : List V) (es : List Chg) (u6 u7 u8 : Option V), σ' = [some (.ref pa), some (.ref pb), some (.int ch), some (.int lo), some (.int hi), some (.ref l), u6, u7, u8] ∧ H' l = some (.lst ws) ∧ DpAll K H' ws (es.map cD) ∧ es.length ≤ i ∧ OnC es ∧
    ∀ r c, 0 ≤ r → r < 48 → 0 ≤ c → c < 48 → val es r c = if (lo ≤ r ∧ r < lo + (i : Int)) ∧ left a b (Xc c) (Yr r) then ch else 0)
    ⟨s1, [], [], _, _, _, rfl, e1, .nil, Nat.le_refl 0, fun e he => (by cases he), fun r c _ _ _ _ => by rw [if_neg (by omega)]; rfl⟩ ?_ ?_
  · rintro i σ' H2 hi' ⟨s2, ws, es, u6, u7, u8, rfl, e2, d2, le, oc, hv⟩
    have hr0 : 0 ≤ lo + (i : Int) := by omega
    have hr1 : lo + (i : Int) < 48 := by omega
    generalize hrr : lo + (i : Int) = r at *
    have hy := (hrow r hr0 hr1).mp ⟨by omega, by omega⟩
    have hab : a.2 < b.2 := by omega
    walk_at "z"
    refine z_I (wm100 (Nat.lt_of_le_of_lt (show (r + -16).natAbs ≤ 100 by omega) (by decide)) (by decide)) ?_
    walk_at "z"
    have hYr : (r + -16) * 64 + 32 = Yr r := rfl
    rw [hYr]
    have ybd : (Yr r).natAbs ≤ 10000000000000 := by unfold Yr; omega
    have sa := seqT s2 hpa
    have sb := seqT s2 hpb
    refine ⟨.ref pa, .ref pb, a, b, Yr r, rfl, dp_seqg sa, dp_seqg sb, ga, gb, hab, ybd, ?_⟩
    walk_at "z"
    refine ⟨_, rfl, ?_⟩
    walk_at "z"
    generalize hcol : (if 0 > fc (fpos a b (Yr r)) - -8 then 0 else fc (fpos a b (Yr r)) - -8) = col
    have hc0 : 0 ≤ col := by rw [← hcol]; split <;> omega
    have hcl : ∀ c : Int, 0 ≤ c → (col ≤ c ↔ left a b (Xc c) (Yr r)) := fun c h => by
      rw [← col_left hab, ← hcol]
      split <;> omega
    have hlen : ws.length = es.length := by rw [dpa_len d2, List.length_map]
    refine z_if (fun c => ?_) (fun c => ?_)
    · walk_at "z"
      refine z_bmL (fun R q => by walk_at "z"; exact q) e2 ?_
      walk_at "z"
      intro t H3 f3 s3 e3
      have e23 := s3 _ _ e2
      walk_at "z"
      refine z_append e23 (by omega) ?_
      refine ⟨fun b o h => ?_, ws ++ [.ref t], es ++ [(r, col, ch)], _, _, _, rfl, upd_same, ?_, by simp; omega, fun e he => ?_, fun r' c' h1 h2 h3 h4 => ?_⟩
      · rw [upd_ne (ne_of_none h f1)]
        exact s3 _ _ (s2 _ _ h)
      · have k2 : Kp l H3 (upd H3 l (.lst (ws ++ [.ref t]))) := fun b o hb h => by
          rw [upd_ne hb]
          exact h
        have d3 : DpAll K H3 (ws ++ [.ref t]) ((es ++ [(r, col, ch)]).map cD) := by
          rw [List.map_append]
          exact dpa_app (dp_monoA s3 d2) (dpa_one (dp_mk e3 (.cons (.int _) (.cons (.int _) (.cons (.int _) .nil)))))
        exact dp_kpA k2 e23 (tup_chg _) d3
      · rcases List.mem_append.mp he with h | h
        · exact oc e h
        · rw [List.mem_singleton.mp h]
          exact ⟨hr0, hr1, hc0, c⟩
      · rw [val_app, hv r' c' h1 h2 h3 h4]
        show _ + ((if r = r' ∧ col ≤ c' then ch else 0) + 0) = _
        by_cases er : r = r'
        · subst er
          have hcc := hcl c' h3
          rw [if_neg (show ¬ ((lo ≤ r ∧ r < r) ∧ left a b (Xc c') (Yr r)) from fun z => by omega)]
          by_cases e4 : col ≤ c'
          · rw [if_pos (show r = r ∧ col ≤ c' from ⟨rfl, e4⟩), if_pos (show (lo ≤ r ∧ r < lo + ((i + 1 : Nat) : Int)) ∧ left a b (Xc c') (Yr r) from ⟨by omega, hcc.mp e4⟩)]
            omega
          · rw [if_neg (show ¬ (r = r ∧ col ≤ c') from fun z => e4 z.2), if_neg (show ¬ ((lo ≤ r ∧ r < lo + ((i + 1 : Nat) : Int)) ∧ left a b (Xc c') (Yr r)) from fun z => e4 (hcc.mpr z.2))]
            rfl
        · rw [if_neg (show ¬ (r = r' ∧ col ≤ c') from fun z => er z.1)]
          by_cases e5 : (lo ≤ r' ∧ r' < r) ∧ left a b (Xc c') (Yr r')
          · rw [if_pos e5, if_pos (show (lo ≤ r' ∧ r' < lo + ((i + 1 : Nat) : Int)) ∧ left a b (Xc c') (Yr r') from ⟨by omega, e5.2⟩)]
            omega
          · rw [if_neg e5, if_neg (show ¬ ((lo ≤ r' ∧ r' < lo + ((i + 1 : Nat) : Int)) ∧ left a b (Xc c') (Yr r')) from fun z => e5 ⟨by omega, z.2⟩)]
            rfl
    · walk_at "z"
      refine ⟨s2, ws, es, _, _, _, rfl, e2, d2, by omega, oc, fun r' c' h1 h2 h3 h4 => ?_⟩
      rw [hv r' c' h1 h2 h3 h4]
      by_cases er : r = r'
      · subst er
        rw [if_neg (show ¬ ((lo ≤ r ∧ r < r) ∧ left a b (Xc c') (Yr r)) from fun z => by omega), if_neg (show ¬ ((lo ≤ r ∧ r < lo + ((i + 1 : Nat) : Int)) ∧ left a b (Xc c') (Yr r)) from fun z => c (by have := (hcl c' h3).mpr z.2; omega))]
      · by_cases e5 : (lo ≤ r' ∧ r' < r) ∧ left a b (Xc c') (Yr r')
        · rw [if_pos e5, if_pos (show (lo ≤ r' ∧ r' < lo + ((i + 1 : Nat) : Int)) ∧ left a b (Xc c') (Yr r') from ⟨by omega, e5.2⟩)]
        · rw [if_neg e5, if_neg (show ¬ ((lo ≤ r' ∧ r' < lo + ((i + 1 : Nat) : Int)) ∧ left a b (Xc c') (Yr r')) from fun z => e5 ⟨by omega, z.2⟩)]
  · rintro σ' H2 ⟨s2, ws, es, u6, u7, u8, rfl, e2, d2, le, oc, hv⟩
    walk_at "z"
    refine q l H2 ws es f1 s2 e2 d2 (by omega) oc fun r c h1 h2 h3 h4 => ?_
    rw [hv r c h1 h2 h3 h4]
    have hr := hrow r h1 h2
    by_cases hl : left a b (Xc c) (Yr r)
    · by_cases h5 : lo ≤ r ∧ r < hi
      · rw [if_pos (show (lo ≤ r ∧ r < lo + (((hi - lo).toNat : Nat) : Int)) ∧ left a b (Xc c) (Yr r) from ⟨by omega, hl⟩), if_pos (show ind a b (Xc c) (Yr r) from ⟨(hr.mp h5).1, (hr.mp h5).2, hl⟩)]
      · rw [if_neg (show ¬ ((lo ≤ r ∧ r < lo + (((hi - lo).toNat : Nat) : Int)) ∧ left a b (Xc c) (Yr r)) from fun z => h5 (by omega)), if_neg (show ¬ ind a b (Xc c) (Yr r) from fun z => h5 (hr.mpr ⟨z.1, z.2.1⟩))]
    · rw [if_neg (show ¬ ((lo ≤ r ∧ r < lo + (((hi - lo).toNat : Nat) : Int)) ∧ left a b (Xc c) (Yr r)) from fun z => hl z.2), if_neg (show ¬ ind a b (Xc c) (Yr r) from fun z => hl z.2.2)]
end
theorem crs_ind {a b : GP} {x y : Int} : crs a b x y = if a.2 < b.2 then (if ind a b x y then -1 else 0) else (if ind b a x y then 1 else 0) := by
  by_cases h : a.2 < b.2
  · rw [if_pos h]
    by_cases h1 : ind a b x y
    · rw [if_pos h1]
      exact if_pos h1
    · rw [if_neg h1]
      refine (if_neg h1).trans (if_neg fun z => ?_)
      omega
  · rw [if_neg h]
    refine (if_neg fun z => ?_).trans ?_
    · omega
    by_cases h1 : ind b a x y
    · rw [if_pos h1]
      exact if_pos h1
    · rw [if_neg h1]
      exact if_neg h1
def sp_changes_of (K : PySem.W.Frag) : Sp := fun vs H Q _ => ∃ (o : Addr) (ws : List V) (zs : List GP), vs = [.ref o] ∧ H o = some (.lst ws) ∧ Gs K H ws zs ∧ (∀ z ∈ zs, Gm z) ∧ ws.length ≤ 1000 ∧
  ∀ p H' us es, H p = none → Same H H' → H' p = some (.lst us) → DpAll K H' us (es.map cD) → es.length ≤ 48 * ws.length → OnC es → (∀ r c, 0 ≤ r → r < 48 → 0 ≤ c → c < 48 → val es r c = wn zs (Xc c) (Yr r)) → Q (.ref p) H'
section
theorem ok_changes_of {P : Program} {w : World} {K : PySem.W.Frag} {mg : Str → Option Value} {base : Heap} {A : Nat → Addr} {D : Nat → FuncData} (T : Txt K mg A D) : FnOk P w K mg base (L2.CX P w) 3 (A 6) (D 6) ["outline"] (sp_changes_of K) := by
  refine T.F_changes_of.okX sc_changes_of (fun vs H Q E h => ?_) (fun cdv A' outer s H vs Q E hr h => ?_)
  · obtain ⟨o, ws, zs, rfl, _⟩ := h
    rfl
  obtain ⟨o, ws, zs, rfl, ho, g, hb, hl, q⟩ := h
  refine ⟨_, (pss_cons (ps_set (i := 1) sc_changes_of.nd rfl (.inl rfl) (pe_lst pa_nil))
  (pss_cons (Gl.ps_forG (gt_lines T) hr rfl (by rfl) T.m_lines T.F_lines.kp T.b_lines (pa_cons (pv 0) pa_nil) (pg_tup (by rfl) (pgs_cons (pg_name (i := 2) sc_changes_of.nd rfl (.inl rfl)) (pgs_cons (pg_name (i := 3) sc_changes_of.nd rfl (.inl rfl)) pgs_nil)))
  (pss_one (ps_if (pt_cmpR op_lt (pe_ix ix_tup (pv 2) pe_int (fun _ _ => rfl)) (pe_ix ix_tup (pv 3) pe_int (fun _ _ => rfl)) (nomark _))
  (pss_one (ps_expr (pe_bm PySem.F.plainAttrs_list PySem.F.slot_list_extend PySem.F.type_list_extend mt_extend (pv 1) (pa_cons (pe_call (ok_changes_at_line T) (hr.mono (by decide)) (by rfl) T.m_changes_at_line T.F_changes_at_line.kp T.b_changes_at_line .nil passL (pa_cons (pv 2) (pa_cons (pv 3) (pa_cons (pe_un un_neg pe_int) pa_nil)))) pa_nil))))
  (pss_one (ps_expr (pe_bm PySem.F.plainAttrs_list PySem.F.slot_list_extend PySem.F.type_list_extend mt_extend (pv 1) (pa_cons (pe_call (ok_changes_at_line T) (hr.mono (by decide)) (by rfl) T.m_changes_at_line T.F_changes_at_line.kp T.b_changes_at_line .nil passL (pa_cons (pv 3) (pa_cons (pv 2) (pa_cons pe_int pa_nil)))) pa_nil)))))))
  (pss_one (ps_ret (pv 1))))), ?_⟩
  walk_at "z"
  intro l H1 f1 s1 e1
  walk_at "z"
  unfold Gl.tForG
  walk_at "z"
  refine ⟨o, ws, rfl, s1 _ _ ho, fun i σ' H' => Same H H' ∧ ∃ (us : List V) (es : List Chg) (u1 u2 : Option V), σ' = [some (.ref o), some (.ref l), u1, u2] ∧ H' l = some (.lst us) ∧ DpAll K H' us (es.map cD) ∧ es.length ≤ 48 * i ∧ OnC es ∧ ∀ r c, 0 ≤ r → r < 48 → 0 ≤ c → c < 48 → val es r c = psum (fun a b => crs a b (Xc c) (Yr r)) zs i,
    ⟨s1, [], [], _, _, rfl, e1, .nil, Nat.le_refl 0, fun e he => (by cases he), fun r c _ _ _ _ => rfl⟩, fun i σ' H' ⟨s, _⟩ => s _ _ ho, ?_, ?_⟩
  · rintro i u v σ' H' p hu hv ⟨s2, us, es, u1, u2, rfl, e2, d2, le, oc, hval⟩ hp
    obtain ⟨za, hza, da⟩ := (g.mono s2).getv hu
    obtain ⟨zb, hzb, db⟩ := (g.mono s2).getv hv
    have ga := hb za (List.mem_of_getElem? hza)
    have gb := hb zb (List.mem_of_getElem? hzb)
    have hi : i < ws.length := (List.getElem?_eq_some_iff.mp hu).1
    have sn : Same H' (upd H' p (.tup [u, v])) := same_upd hp
    have hpt : upd H' p (HO.tup [u, v]) p = some (.tup [u, v]) := upd_same
    have ps := fun (x y : Int) => psum_s (f := fun a b => crs a b x y) hza hzb
    generalize upd H' p (HO.tup [u, v]) = H2 at *
    have e22 := sn _ _ e2
    have d22 := dp_monoA sn d2
    obtain ⟨pa, rfl, hpa⟩ := dp_g (dp_mono sn da)
    obtain ⟨pb, rfl, hpb⟩ := dp_g (dp_mono sn db)
    have lu : us.length = es.length := by rw [dpa_len d2, List.length_map]
    refine z_gT (.inl (.inl hpt)) rfl ?_
    walk_at "z"
    -- the changes of this line are added
    have fin : ∀ (t : Addr) (H3 : Hp) (ws' : List V) (es' : List Chg), Same H2 H3 → H3 t = some (.lst ws') → DpAll K H3 ws' (es'.map cD) → es'.length ≤ 48 → OnC es' → (∀ r c, 0 ≤ r → r < 48 → 0 ≤ c → c < 48 → val es' r c = crs za zb (Xc c) (Yr r)) →
        Same H (upd H3 l (.lst (us ++ ws'))) ∧ ∃ (us' : List V) (es' : List Chg) (u1 u2 : Option V), [some (.ref o), some (.ref l), some (V.ref pa), some (V.ref pb)] = [some (.ref o), some (.ref l), u1, u2] ∧ (upd H3 l (.lst (us ++ ws'))) l = some (.lst us') ∧ DpAll K (upd H3 l (.lst (us ++ ws'))) us' (es'.map cD) ∧ es'.length ≤ 48 * (i + 1) ∧ OnC es' ∧
          ∀ r c, 0 ≤ r → r < 48 → 0 ≤ c → c < 48 → val es' r c = psum (fun a b => crs a b (Xc c) (Yr r)) zs (i + 1) := by
      intro t H3 ws' es' s3 e3 d3 l3 o3 v3
      refine ⟨fun b o h => ?_, us ++ ws', es ++ es', _, _, rfl, upd_same, ?_, by simp; omega, fun e he => ?_, fun r c h1 h2 h3 h4 => ?_⟩
      · rw [upd_ne (ne_of_none h f1)]
        exact s3 _ _ (sn _ _ (s2 _ _ h))
      · have k2 : Kp l H3 (upd H3 l (.lst (us ++ ws'))) := fun b o hb h => by
          rw [upd_ne hb]
          exact h
        have d4 : DpAll K H3 (us ++ ws') ((es ++ es').map cD) := by
          rw [List.map_append]
          exact dpa_app (dp_monoA s3 d22) d3
        exact dp_kpA k2 (s3 _ _ e22) (tup_chg _) d4
      · rcases List.mem_append.mp he with h | h
        · exact oc e h
        · exact o3 e h
      · rw [val_app, hval r c h1 h2 h3 h4, v3 r c h1 h2 h3 h4, ps]
    refine z_if (fun c => ?_) (fun c => ?_)
    · walk_at "z"
      refine z_bmL (fun R q => by walk_at "z"; exact q) e22 ?_
      walk_at "z"
      refine ⟨.ref pa, .ref pb, za, zb, -1, rfl, dp_seqg hpa, dp_seqg hpb, ga, gb, fun t H3 ws' es' f3 s3 e3 d3 l3 o3 v3 => ?_⟩
      have lw : ws'.length = es'.length := by rw [dpa_len d3, List.length_map]
      walk_at "z"
      refine z_extendW (s3 _ _ e22) e3 (by omega) ?_
      exact fin t H3 ws' es' s3 e3 d3 l3 o3 fun r c' h1 h2 h3 h4 => by rw [v3 r c' h1 h2 h3 h4, crs_ind, if_pos c]
    · walk_at "z"
      refine z_bmL (fun R q => by walk_at "z"; exact q) e22 ?_
      walk_at "z"
      refine ⟨.ref pb, .ref pa, zb, za, 1, rfl, dp_seqg hpb, dp_seqg hpa, gb, ga, fun t H3 ws' es' f3 s3 e3 d3 l3 o3 v3 => ?_⟩
      have lw : ws'.length = es'.length := by rw [dpa_len d3, List.length_map]
      walk_at "z"
      refine z_extendW (s3 _ _ e22) e3 (by omega) ?_
      exact fin t H3 ws' es' s3 e3 d3 l3 o3 fun r c' h1 h2 h3 h4 => by rw [v3 r c' h1 h2 h3 h4, crs_ind, if_neg c]
  · rintro σ' H' ⟨s2, us, es, u1, u2, rfl, e2, d2, le, oc, hval⟩
    walk_at "z"
    have lw := g.len
    refine q l H' us es f1 s2 e2 d2 (by omega) oc fun r c h1 h2 h3 h4 => ?_
    rw [hval r c h1 h2 h3 h4, lw]
    rfl
end
/-! ### rows of pixels -/
def mrow (f : Nat → Nat → Int) (r : Nat) : List Int := (List.range 48).map (f r)
theorem mrow_len (f : Nat → Nat → Int) (r : Nat) : (mrow f r).length = 48 := by
  unfold mrow
  rw [List.length_map, List.length_range]
theorem mrow_get (f : Nat → Nat → Int) (r : Nat) {c : Nat} (h : c < 48) : (mrow f r)[c]? = some (f r c) := by
  unfold mrow
  rw [List.getElem?_map, List.getElem?_range h]
  rfl
/-- rows at R, to be read -/
def RdRows (H : Hp) (R : Addr) (as : List Addr) (f : Nat → Nat → Int) : Prop := H R = some (.lst (as.map V.ref)) ∧ as.length = 48 ∧ ∀ r a, as[r]? = some a → H a = some (.lst ((mrow f r).map V.int))
theorem RdRows.mono {H H' : Hp} {R : Addr} {as : List Addr} {f : Nat → Nat → Int} (h : RdRows H R as f) (s : Same H H') : RdRows H' R as f := ⟨s _ _ h.1, h.2.1, fun r a e => s _ _ (h.2.2 r a e)⟩
/-- rows that are one's own -/
def OwRows (H0 H : Hp) (R : Addr) (as : List Addr) (f : Nat → Nat → Int) : Prop := RdRows H R as f ∧ as.Nodup ∧ R ∉ as ∧ H0 R = none ∧ ∀ a ∈ as, H0 a = none
def sp_running_sums : Sp := fun vs H Q _ => ∃ (a : Addr) (ns : List Int), vs = [.ref a] ∧ H a = some (.lst (ns.map V.int)) ∧ ns.length ≤ 500 ∧ ∀ p H', H p = none → Same H H' → H' p = some (.lst ((psl 0 ns).map V.int)) → Q (.ref p) H'
theorem psl_app : ∀ (t : Int) (ns : List Int) (m : Int), ∃ s, (∀ ms, psl t (ns ++ ms) = psl t ns ++ psl s ms) ∧ psl t (ns ++ [m]) = psl t ns ++ [s + m] ∧ (psl t ns).getLastD t = s
  | t, [], m => ⟨t, fun ms => rfl, rfl, rfl⟩
  | t, n :: ns, m => by
    obtain ⟨s, h1, h2, h3⟩ := psl_app (t + n) ns m
    refine ⟨s, fun ms => ?_, ?_, ?_⟩
    · show (t + n) :: psl (t + n) (ns ++ ms) = (t + n) :: psl (t + n) ns ++ psl s ms
      rw [h1]
      rfl
    · show (t + n) :: psl (t + n) (ns ++ [m]) = (t + n) :: psl (t + n) ns ++ [s + m]
      rw [h2]
      rfl
    · show ((t + n) :: psl (t + n) ns).getLastD t = s
      rw [List.getLastD_cons]
      exact h3
section
theorem ok_running_sums {P : Program} {w : World} {K : PySem.W.Frag} {mg : Str → Option Value} {base : Heap} {A : Nat → Addr} {D : Nat → FuncData} (T : Txt K mg A D) : FnOk P w K mg base (L2.CX P w) 1 (A 11) (D 11) ["row"] (sp_running_sums) := by
  refine T.F_running_sums.okX sc_running_sums (fun vs H Q E h => ?_) (fun cdv A' outer s H vs Q E hr h => ?_)
  · obtain ⟨a, ns, rfl, _⟩ := h
    rfl
  obtain ⟨a, ns, rfl, ha, hl, q⟩ := h
  refine ⟨_, (pss_cons (ps_set (i := 1) sc_running_sums.nd rfl (.inl rfl) pe_int)
  (pss_cons (ps_set (i := 2) sc_running_sums.nd rfl (.inl rfl) (pe_lst pa_nil))
  (pss_cons (ps_for (passes_of rfl) rfl (pi_list (pv 0)) (pg_name (i := 3) sc_running_sums.nd rfl (.inl rfl))
  (pss_cons (ps_aug (i := 1) sc_running_sums.nd rfl (.inl rfl) (pv 3) ip_add)
  (pss_one (ps_expr (pe_bm PySem.F.plainAttrs_list PySem.F.slot_list_append PySem.F.type_list_append mt_append (pv 2) (pa_cons (pv 1) pa_nil))))))
  (pss_one (ps_ret (pv 2)))))), ?_⟩
  walk_at "z"
  intro l H1 f1 s1 e1
  walk_at "z"
  refine z_forL (fun R q => by walk_at "z"; exact q) (.inl (.inl (s1 _ _ ha))) (fun i σ' H' => Same H H' ∧ ∃ (t : Int) (u : Option V), σ' = [some (.ref a), some (.int t), some (.ref l), u] ∧ H' l = some (.lst ((psl 0 (ns.take i)).map V.int)) ∧ (psl 0 (ns.take i)).getLastD 0 = t) ⟨s1, 0, _, rfl, e1, rfl⟩
    (fun i σ' H' _ h => .inl (.inl (h.1 _ _ ha))) ?_ ?_
  · rintro i x σ' H2 hx ⟨s2, t, u, rfl, e2, ht⟩
    rw [List.getElem?_map] at hx
    cases hj : ns[i]? with
    | none => rw [hj] at hx; cases hx
    | some v =>
    rw [hj] at hx
    cases hx
    have hi := (List.getElem?_eq_some_iff.mp hj).1
    obtain ⟨sm, _, p2, p3⟩ := psl_app 0 (ns.take i) v
    have tk : ns.take (i + 1) = ns.take i ++ [v] := by rw [List.take_add_one, hj]; rfl
    have : sm = t := by rw [← p3, ht]
    subst this
    walk_at "z"
    refine z_aug rfl ?_
    walk_at "z"
    refine z_ipI ?_
    walk_at "z"
    refine z_bmL (fun R q => by walk_at "z"; exact q) e2 ?_
    walk_at "z"
    refine z_append e2 (by rw [List.length_map, psl_len, List.length_take]; omega) ?_
    refine ⟨fun b o h => ?_, sm + v, _, rfl, ?_, ?_⟩
    · rw [upd_ne (ne_of_none h f1)]
      exact s2 _ _ h
    · rw [upd_same, tk, p2, List.map_append]
      rfl
    · rw [tk, p2, List.getLastD_concat]
  · rintro σ' H2 ⟨s2, t, u, rfl, e2, ht⟩
    rw [List.length_map, List.take_length] at e2
    walk_at "z"
    exact q l H2 f1 s2 e2
end
theorem mrow_congr {f g : Nat → Nat → Int} {r : Nat} (h : ∀ c, c < 48 → f r c = g r c) : mrow f r = mrow g r := by
  unfold mrow
  refine List.map_congr_left fun c hc => ?_
  exact h c (List.mem_range.mp hc)
theorem RdRows.congr {H : Hp} {R : Addr} {as : List Addr} {f g : Nat → Nat → Int} (h : RdRows H R as f) (e : ∀ r c, r < 48 → c < 48 → f r c = g r c) : RdRows H R as g :=
  ⟨h.1, h.2.1, fun r a ha => by
    have hr : r < 48 := by
      have := (List.getElem?_eq_some_iff.mp ha).1
      have := h.2.1
      omega
    rw [h.2.2 r a ha, mrow_congr fun c hc => e r c hr hc]⟩
theorem mrow_set (f : Nat → Nat → Int) (r c : Nat) (x : Int) (hc : c < 48) : (mrow f r).set c x = mrow (fun i j => if i = r ∧ j = c then x else f i j) r := by
  refine List.ext_getElem? fun k => ?_
  rw [List.getElem?_set, mrow_len]
  by_cases hk : k < 48
  · rw [mrow_get _ _ hk, mrow_get _ _ hk]
    by_cases e : c = k
    · subst e
      rw [if_pos rfl, if_pos hc, if_pos ⟨rfl, rfl⟩]
    · rw [if_neg e, if_neg (fun z => e z.2.symm)]
  · have h1 : (mrow f r)[k]? = none := List.getElem?_eq_none (by rw [mrow_len]; omega)
    have h2 : (mrow (fun i j => if i = r ∧ j = c then x else f i j) r)[k]? = none := List.getElem?_eq_none (by rw [mrow_len]; omega)
    rw [h1, h2, if_neg (by omega)]
theorem mrow_other (f : Nat → Nat → Int) (r c : Nat) (x : Int) {i : Nat} (h : i ≠ r) : mrow (fun i j => if i = r ∧ j = c then x else f i j) i = mrow f i := mrow_congr fun j _ => if_neg fun z => h z.1
theorem OwRows.put {H0 H : Hp} {R a : Addr} {as : List Addr} {f : Nat → Nat → Int} {r c : Nat} {x : Int} (h : OwRows H0 H R as f) (ha : as[r]? = some a) (hc : c < 48) :
    OwRows H0 (upd H a (.lst ((mrow f r).map V.int |>.set c (.int x)))) R as (fun i j => if i = r ∧ j = c then x else f i j) := by
  obtain ⟨⟨h1, h2, h3⟩, nd, nR, hR, hn⟩ := h
  have hRa : R ≠ a := fun z => nR (by rw [z]; exact List.mem_of_getElem? ha)
  refine ⟨⟨by rw [upd_ne hRa]; exact h1, h2, fun i b hb => ?_⟩, nd, nR, hR, hn⟩
  by_cases e : i = r
  · subst e
    rw [ha] at hb
    cases hb
    rw [upd_same, ← mrow_set f i c x hc, List.map_set]
  · have hba : b ≠ a := fun z => by
      subst z
      obtain ⟨ii, e1⟩ := List.getElem?_eq_some_iff.mp hb
      obtain ⟨rr, e2⟩ := List.getElem?_eq_some_iff.mp ha
      rcases Nat.lt_or_gt_of_ne e with z | z
      · exact (List.pairwise_iff_getElem.mp nd) i r ii rr z (e1.trans e2.symm)
      · exact (List.pairwise_iff_getElem.mp nd) r i rr ii z (e2.trans e1.symm)
    rw [upd_ne hba, h3 i b hb, mrow_other f r c x e]
theorem same_put {H0 H : Hp} {a : Addr} {o : HO} (s : Same H0 H) (h : H0 a = none) : Same H0 (upd H a o) := fun b x e => by
  rw [upd_ne (ne_of_none e h)]
  exact s _ _ e
def sp_blank_rows : Sp := fun vs H Q _ => vs = [] ∧ ∀ R H' as, Same H H' → OwRows H H' R as (fun _ _ => 0) → Q (.ref R) H'
theorem rep48 : List.replicate 48 (V.int 0) = (mrow (fun _ _ => 0) 0).map V.int := by
  unfold mrow
  rw [List.map_map]
  refine List.ext_getElem? fun k => ?_
  by_cases hk : k < 48
  · rw [List.getElem?_replicate, if_pos hk, List.getElem?_map, List.getElem?_range hk]
    rfl
  · rw [List.getElem?_eq_none (by simp; omega), List.getElem?_eq_none (by simp; omega)]
section
theorem ok_blank_rows {P : Program} {w : World} {K : PySem.W.Frag} {mg : Str → Option Value} {base : Heap} {A : Nat → Addr} {D : Nat → FuncData} (T : Txt K mg A D) : FnOk P w K mg base (L2.CX P w) 1 (A 4) (D 4) [] (sp_blank_rows) := by
  refine T.F_blank_rows.okX sc_blank_rows (fun vs H Q E h => ?_) (fun cdv A' outer s H vs Q E hr h => ?_)
  · obtain ⟨rfl, _⟩ := h
    rfl
  obtain ⟨rfl, q⟩ := h
  refine ⟨_, (pss_one (ps_ret (pe_lc (own := [("_", 0)]) (g := gName 0) (tt := tYes) rfl sc_blank_rows.nd (pi_range1 (by rfl) T.z_range (pa_cons (Z.pe_globE T.c_SIZE) pa_nil)) (blkOk_by (N := ["_"]) (sc := defScope s_blank_rows) (by decide +kernel)) (fun _ _ _ _ _ => pg_name (i := 0) sc_blank_rows.nd rfl (Or.inl rfl)) (fun _ _ _ _ _ => pts_nil) (fun _ _ _ _ _ => (pe_op op_rep (pe_lst (pa_cons pe_int pa_nil)) (Z.pe_globE T.c_SIZE)))))), ?_⟩
  walk_at "z"
  refine z_lcRE ?_
  walk_at "z"
  refine z_lcRr 48 (by decide) (fun _ => rfl) (fun i D acc H' => Same H H' ∧ H D = none ∧ ∃ as : List Addr, acc = as.map V.ref ∧ as.Nodup ∧ D ∉ as ∧ ∀ a ∈ as, H a = none ∧ H' a = some (.lst ((mrow (fun _ _ => 0) 0).map V.int))) (fun D H' f s e => ⟨s, f, [], rfl, List.nodup_nil, List.not_mem_nil, fun a ha => (by cases ha)⟩)
    (fun i D acc H' hi hl hD ⟨s', fD, as, ea, nd, nD, hv⟩ => ?_) (fun D acc H' fD hl hD ⟨s', _, as, ea, nd, nD, hv⟩ => ?_)
  · walk_at "z"
    intro a1 H1 f1 s1 h1
    walk_at "z"
    refine z_rep 48 h1 rfl (by decide) fun a2 H2 f2 s2 h2 => ?_
    have s12 := s1.trans s2
    have n2 : a2 ∉ as := fun hm => by
      have := s12 _ _ (hv a2 hm).2
      have := s1 _ _ (hv a2 hm).2
      rw [f2] at this
      cases this
    have nD2 : a2 ≠ D := fun z => by
      have := s1 _ _ hD
      rw [← z, f2] at this
      cases this
    refine z_lcB (s12 _ _ hD) hl (by omega) fun H3 hD3 k3 e3 => ⟨fun b o h => ?_, fD, as ++ [a2], by rw [ea, List.map_append]; rfl, ?_, ?_, fun a ha => ?_⟩
    · rw [e3 b (ne_of_none h fD)]
      exact s12 _ _ (s' _ _ h)
    · rw [List.nodup_append]
      refine ⟨nd, List.pairwise_singleton _ _, fun x hx y hy z => ?_⟩
      rw [List.mem_singleton.mp hy] at z
      exact n2 (by rw [← z]; exact hx)
    · rw [List.mem_append, List.mem_singleton]
      rintro (h | h)
      · exact nD h
      · exact nD2 h.symm
    · rcases List.mem_append.mp ha with h | h
      · have hne : a ≠ D := fun z => nD (by rw [← z]; exact h)
        refine ⟨(hv a h).1, ?_⟩
        rw [e3 a hne]
        exact s12 _ _ (hv a h).2
      · rw [List.mem_singleton.mp h]
        refine ⟨fresh_of s' (fresh_of s1 f2), ?_⟩
        rw [e3 a2 nD2, h2, rep48]
  · have la : as.length = 48 := by
      have := congrArg List.length ea
      rw [List.length_map, hl] at this
      exact this.symm
    exact q D H' as s' ⟨⟨by rw [hD, ea], la, fun r a ha => (hv a (List.mem_of_getElem? ha)).2⟩, nd, nD, fD, fun a ha => (hv a ha).1⟩
end
def sp_rows_of (K : PySem.W.Frag) : Sp := fun vs H Q _ => ∃ (p : Addr) (us : List V) (es : List Chg), vs = [.ref p] ∧ H p = some (.lst us) ∧ DpAll K H us (es.map cD) ∧ OnC es ∧ ∀ R H' as, H R = none → Same H H' → RdRows H' R as (fun r c => val es (r : Int) (c : Int)) → Q (.ref R) H'
theorem atP_take {es : List Chg} {i : Nat} {e : Chg} (h : es[i]? = some e) (r c : Int) : atP (es.take (i + 1)) r c = atP (es.take i) r c + (if e.1 = r ∧ e.2.1 = c then e.2.2 else 0) := by
  rw [List.take_add_one, h]
  show atP (es.take i ++ [e]) r c = _
  rw [atP_app]
  show _ + ((if e.1 = r ∧ e.2.1 = c then e.2.2 else 0) + 0) = _
  omega
section
theorem ok_rows_of {P : Program} {w : World} {K : PySem.W.Frag} {mg : Str → Option Value} {base : Heap} {A : Nat → Addr} {D : Nat → FuncData} (T : Txt K mg A D) : FnOk P w K mg base (L2.CX P w) 2 (A 10) (D 10) ["changes"] (sp_rows_of K) := by
  refine T.F_rows_of.okX sc_rows_of (fun vs H Q E h => ?_) (fun cdv A' outer s H vs Q E hr h => ?_)
  · obtain ⟨p, us, es, rfl, _⟩ := h
    rfl
  obtain ⟨p, us, es, rfl, hp, hd, oc, q⟩ := h
  refine ⟨_, (pss_cons (ps_set (i := 1) sc_rows_of.nd rfl (.inl rfl) (pe_call0 (ok_blank_rows T) (hr.mono (by decide)) (by rfl) T.m_blank_rows T.F_blank_rows.kp T.b_blank_rows .nil (passes_call (takes_of rfl rfl rfl rfl) (fun _ _ _ _ h => h))))
  (pss_cons (ps_for (passes_of rfl) rfl (pi_list (pv 0)) (pg_tup (by rfl) (pgs_cons (pg_name (i := 2) sc_rows_of.nd rfl (.inl rfl)) (pgs_cons (pg_name (i := 3) sc_rows_of.nd rfl (.inl rfl)) (pgs_cons (pg_name (i := 4) sc_rows_of.nd rfl (.inl rfl)) pgs_nil))))
  (pss_one (ps_augS (pe_ix ix_list (pv 1) (pv 2) (fun _ _ => rfl)) (pv 3) Z.get_list (pv 4) ip_add set_list)))
  (pss_one (ps_ret (pe_lc (own := [("row", 2)]) (g := gName 2) (tt := tYes) rfl sc_rows_of.nd (pi_list (pv 1)) (blkOk_by (N := ["changes", "rows", "row", "column", "change"]) (sc := defScope s_rows_of) (by decide +kernel)) (fun _ _ _ _ _ => pg_name (i := 2) sc_rows_of.nd rfl (Or.inl rfl)) (fun _ _ _ _ _ => pts_nil) (fun _ _ _ _ _ => (pe_call (ok_running_sums T) (hr.mono (by decide)) (by rfl) T.m_running_sums T.F_running_sums.kp T.b_running_sums .nil passL (pa_cons (pv 2) pa_nil)))))))), ?_⟩
  walk_at "z"
  refine ⟨rfl, fun R H1 as s1 ow => ?_⟩
  walk_at "z"
  have lu : us.length = es.length := by rw [dpa_len hd, List.length_map]
  refine z_forL (fun R q => by walk_at "z"; exact q) (.inl (.inl (s1 _ _ hp))) (fun i σ' H' => Same H H' ∧ OwRows H H' R as (fun r c => atP (es.take i) (r : Int) (c : Int)) ∧ ∃ (u2 u3 u4 : Option V), σ' = [some (.ref p), some (.ref R), u2, u3, u4]) ⟨s1, ow, _, _, _, rfl⟩
    (fun i σ' H' _ h => .inl (.inl (h.1 _ _ hp))) ?_ ?_
  · rintro i x σ' H2 hx ⟨s2, ow2, u2, u3, u4, rfl⟩
    obtain ⟨d, hd2, dx⟩ := dpa_getv (dp_monoA s2 hd) hx
    rw [List.getElem?_map] at hd2
    cases hj : es[i]? with
    | none => rw [hj] at hd2; cases hd2
    | some e =>
    rw [hj] at hd2
    cases hd2
    obtain ⟨o1, o2, o3, o4⟩ := oc e (List.mem_of_getElem? hj)
    obtain ⟨pe, v1, v2, v3, rfl, hpe, d1, d2, d3⟩ := dp_t3 dx
    rw [dp_int d1, dp_int d2, dp_int d3] at hpe
    obtain ⟨r, hr⟩ : ∃ r : Nat, e.1 = (r : Int) := ⟨e.1.toNat, by omega⟩
    obtain ⟨c, hc⟩ : ∃ c : Nat, e.2.1 = (c : Int) := ⟨e.2.1.toNat, by omega⟩
    rw [hr, hc] at hpe
    obtain ⟨a, ha⟩ : ∃ a, as[r]? = some a := ⟨_, List.getElem?_eq_getElem (by have := ow2.1.2.1; omega)⟩
    have hrow := ow2.1.2.2 r a ha
    have hc48 : c < 48 := by omega
    refine z_gT hpe rfl ?_
    walk_at "z"
    refine z_ixL (.inl (.inl ow2.1.1)) (v := .ref a) (atI_nat (by rw [List.getElem?_map, ha]; rfl)) ?_
    walk_at "z"
    refine z_ixL (.inl (.inl hrow)) (v := .int _) (atI_nat (by rw [List.getElem?_map, mrow_get _ _ hc48]; rfl)) ?_
    walk_at "z"
    refine z_ipI ?_
    walk_at "z"
    refine z_setL hrow (k := c) (ixN_nat (by rw [List.length_map, mrow_len]; exact hc48)) ?_
    have ow3 := ow2.put (x := atP (es.take i) (r : Int) (c : Int) + e.2.2) ha hc48
    refine ⟨same_put s2 (ow2.2.2.2.2 a (List.mem_of_getElem? ha)), ⟨ow3.1.congr fun i' j' h1 h2 => ?_, ow3.2⟩, _, _, _, rfl⟩
    show (if i' = r ∧ j' = c then _ else _) = _
    rw [atP_take hj]
    by_cases z : i' = r ∧ j' = c
    · rw [if_pos z, if_pos ⟨by rw [z.1, hr], by rw [z.2, hc]⟩, z.1, z.2]
    · rw [if_neg z, if_neg (fun w => z ⟨by omega, by omega⟩)]
      omega
  · rintro σ' H2 ⟨s2, ow2, u2, u3, u4, rfl⟩
    rw [lu, List.take_length] at ow2
    walk_at "z"
    refine z_lcE ?_
    walk_at "z"
    refine z_lcLs (by rw [List.length_map, ow2.1.2.1]; decide) (.inl (.inl ow2.1.1)) (fun _ => rfl) (fun i D acc H' => Same H2 H' ∧ H2 D = none ∧ ∃ bs : List Addr, acc = bs.map V.ref ∧ D ∉ bs ∧ ∀ r b, bs[r]? = some b → H' b = some (.lst ((mrow (fun r c => val es (r : Int) (c : Int)) r).map V.int))) (fun D H' f s _ => ⟨s, f, [], rfl, List.not_mem_nil, fun r b h => (by simp at h)⟩)
      (fun i D acc H' h => .inl (.inl (h.1 _ _ ow2.1.1))) (fun i x D acc H' hx hl hD ⟨s', fD, bs, eb, nD, hv⟩ => ?_) (fun D acc H' fD hl hD ⟨s', _, bs, eb, nD, hv⟩ => ?_)
    · rw [List.getElem?_map] at hx
      cases hj : as[i]? with
      | none => rw [hj] at hx; cases hx
      | some a =>
      rw [hj] at hx
      cases hx
      have hi : i < 48 := by
        have := (List.getElem?_eq_some_iff.mp hj).1
        have := ow2.1.2.1
        omega
      have lb : bs.length = i := by
        have := congrArg List.length eb
        rw [List.length_map, hl] at this
        exact this.symm
      walk_at "z"
      refine ⟨a, _, rfl, s' _ _ (ow2.1.2.2 i a hj), by rw [mrow_len]; decide, fun b H3 f3 s3 h3 => ?_⟩
      have nDb : b ≠ D := fun z => by
        rw [z, hD] at f3
        cases f3
      refine z_lcB (s3 _ _ hD) hl (by omega) fun H4 hD4 k4 e4 => ⟨fun x o h => ?_, fD, bs ++ [b], by rw [eb, List.map_append]; rfl, ?_, fun r b' hb => ?_⟩
      · rw [e4 x (ne_of_none h fD)]
        exact s3 _ _ (s' _ _ h)
      · rw [List.mem_append, List.mem_singleton]
        rintro (h | h)
        · exact nD h
        · exact nDb h.symm
      · rcases Nat.lt_or_ge r bs.length with h | h
        · rw [List.getElem?_append_left h] at hb
          have hne : b' ≠ D := fun z => nD (by rw [← z]; exact List.mem_of_getElem? hb)
          rw [e4 b' hne]
          exact s3 _ _ (hv r b' hb)
        · have hr : r = i := by
            have := (List.getElem?_eq_some_iff.mp hb).1
            rw [List.length_append, List.length_singleton] at this
            omega
          subst hr
          rw [List.getElem?_append_right h, lb, Nat.sub_self] at hb
          cases hb
          rw [e4 b nDb, h3]
          congr 3
          refine List.ext_getElem? fun k => ?_
          by_cases hk : k < 48
          · rw [mrow_get _ _ hk]
            unfold mrow
            rw [psl_get _ _ _ _ hk, sum_atP es _ _ oc]
            congr 1
            omega
          · rw [List.getElem?_eq_none (by rw [psl_len, mrow_len]; omega), List.getElem?_eq_none (by rw [mrow_len]; omega)]
    · have lb : bs.length = 48 := by
        have := congrArg List.length eb
        rw [List.length_map, hl, List.length_map, ow2.1.2.1] at this
        exact this.symm
      exact q D H' bs (fresh_of s2 fD) (s2.trans s') ⟨by rw [hD, eb], lb, fun r a ha => hv r a ha⟩
end
def sp_fill_rows (K : PySem.W.Frag) : Sp := fun vs H Q _ => ∃ (o : Addr) (ws : List V) (zs : List GP), vs = [.ref o] ∧ H o = some (.lst ws) ∧ Gs K H ws zs ∧ (∀ z ∈ zs, Gm z) ∧ ws.length ≤ 1000 ∧
  ∀ R H' as, H R = none → Same H H' → RdRows H' R as (fun r c => wn zs (Xc (c : Int)) (Yr (r : Int))) → Q (.ref R) H'
section
theorem ok_fill_rows {P : Program} {w : World} {K : PySem.W.Frag} {mg : Str → Option Value} {base : Heap} {A : Nat → Addr} {D : Nat → FuncData} (T : Txt K mg A D) : FnOk P w K mg base (L2.CX P w) 4 (A 5) (D 5) ["outline"] (sp_fill_rows K) := by
  refine T.F_fill_rows.okX sc_fill_rows (fun vs H Q E h => ?_) (fun cdv A' outer s H vs Q E hr h => ?_)
  · obtain ⟨o, ws, zs, rfl, _⟩ := h
    rfl
  obtain ⟨o, ws, zs, rfl, ho, g, hb, hl, q⟩ := h
  refine ⟨_, (pss_one (ps_ret (pe_call (ok_rows_of T) (hr.mono (by decide)) (by rfl) T.m_rows_of T.F_rows_of.kp T.b_rows_of .nil (passes_call (takes_of rfl rfl rfl rfl) (fun _ _ _ _ h => h)) (pa_cons (pe_call (ok_changes_of T) (hr.mono (by decide)) (by rfl) T.m_changes_of T.F_changes_of.kp T.b_changes_of .nil (passes_call (takes_of rfl rfl rfl rfl) (fun _ _ _ _ h => h)) (pa_cons (pv 0) pa_nil)) pa_nil)))), ?_⟩
  walk_at "z"
  refine ⟨o, ws, zs, rfl, ho, g, hb, hl, fun p H1 us es f1 s1 e1 d1 l1 oc hv => ?_⟩
  walk_at "z"
  refine ⟨p, us, es, rfl, e1, d1, oc, fun R H2 as f2 s2 rd => ?_⟩
  exact q R H2 as (fresh_of s1 f2) (s1.trans s2) (rd.congr fun r c hr hc => hv _ _ (by omega) (by omega) (by omega) (by omega))
end

/-! ### one list only goes around -/
def dt (u v : GP) : Int := u.1 * v.1 + u.2 * v.2
theorem sq_nonneg' (a : Int) : 0 ≤ a * a := by
  rcases Int.le_total 0 a with h | h
  · exact Int.mul_nonneg h h
  · exact Int.mul_nonneg_of_nonpos_of_nonpos h h
theorem dt_pos {u : GP} (h : u ≠ (0, 0)) : 0 < dt u u := by
  have h1 := sq_nonneg' u.1
  have h2 := sq_nonneg' u.2
  unfold dt
  rcases Int.lt_or_le 0 (u.1 * u.1 + u.2 * u.2) with k | k
  · exact k
  · exfalso
    have a1 : u.1 * u.1 = 0 := by omega
    have a2 : u.2 * u.2 = 0 := by omega
    exact h (Prod.ext ((Int.mul_eq_zero.mp a1).elim id id) ((Int.mul_eq_zero.mp a2).elim id id))
theorem par_id {u v w : GP} (h : cr u v = 0) : dt u u * cr w v = dt u v * cr w u := by
  have e : dt u u * cr w v - dt u v * cr w u = cr u v * dt u w := by
    unfold dt cr
    grind
  rw [h, Int.zero_mul] at e
  omega
theorem par_v {u v : GP} (h : cr u v = 0) : dt u u * v.1 = dt u v * u.1 ∧ dt u u * v.2 = dt u v * u.2 := by
  constructor
  · have e : dt u u * v.1 - dt u v * u.1 = - (cr u v * u.2) := by
      unfold dt cr
      grind
    rw [h, Int.zero_mul] at e
    omega
  · have e : dt u u * v.2 - dt u v * u.2 = cr u v * u.1 := by
      unfold dt cr
      grind
    rw [h, Int.zero_mul] at e
    omega
theorem hp_ne {u : GP} (h : hp u) : u ≠ (0, 0) := by
  rintro rfl
  unfold hp at h
  omega
theorem hp_same {u v : GP} (hu : hp u) (hv : hp v) (h : cr u v = 0) : 0 < dt u v := by
  obtain ⟨e1, e2⟩ := par_v h
  have pu := dt_pos (hp_ne hu)
  rcases Int.lt_or_le 0 (dt u v) with k | k
  · exact k
  exfalso
  rcases hu with z | ⟨z1, z2⟩
  · have m1 : dt u v * u.2 ≤ 0 := Int.mul_nonpos_of_nonpos_of_nonneg k (Int.le_of_lt z)
    rcases hv with y | ⟨y1, y2⟩
    · have := Int.mul_pos pu y
      omega
    · rw [y1, Int.mul_zero] at e2
      rcases Int.mul_eq_zero.mp e2.symm with x | x
      · rw [x, Int.zero_mul] at e1
        have := Int.mul_pos pu y2
        omega
      · omega
  · rw [z1, Int.mul_zero] at e2
    have m1 : dt u v * u.1 ≤ 0 := Int.mul_nonpos_of_nonpos_of_nonneg k (Int.le_of_lt z2)
    rcases hv with y | ⟨y1, y2⟩
    · have := Int.mul_pos pu y
      omega
    · have := Int.mul_pos pu y2
      omega
theorem d2_ne {a b : GP} (h : a ≠ b) : d2 a b ≠ (0, 0) := by
  intro e
  have e1 := congrArg Prod.fst e
  have e2 := congrArg Prod.snd e
  unfold d2 at e1 e2
  exact h (Prod.ext (by simp at e1; omega) (by simp at e2; omega))
/-- b' lies on the line of a and b, on the side of b -/
theorem Around.side {us h : List GP} (ar : Around us h) {k : Nat} {a b b' : GP} (hk : k < h.length) (ha : h[k]? = some a) (hb : h[(k + 1) % h.length]? = some b) (hab : a ≠ b) (hb' : b' ∈ us) (hab' : a ≠ b') (c : cr (d2 a b) (d2 a b') = 0) : 0 < dt (d2 a b) (d2 a b') := by
  have am := ar.sub a (List.mem_of_getElem? ha)
  have bm := ar.sub b (List.mem_of_getElem? hb)
  rcases Nat.lt_or_ge 2 h.length with n3 | n2
  · obtain ⟨p, hp'⟩ : ∃ p, h[(k + (h.length - 1)) % h.length]? = some p := ⟨_, List.getElem?_eq_getElem (Nat.mod_lt _ (by omega))⟩
    have i1 : ((k + (h.length - 1)) % h.length + 1) % h.length = k := by
      rw [Nat.mod_add_mod, show k + (h.length - 1) + 1 = k + h.length by omega, Nat.add_mod_right, Nat.mod_eq_of_lt hk]
    have i2 : ((k + (h.length - 1)) % h.length + 2) % h.length = (k + 1) % h.length := by
      rw [Nat.mod_add_mod, show k + (h.length - 1) + 2 = k + 1 + h.length by omega, Nat.add_mod_right]
    have t := ar.turn _ p a b n3 (Nat.mod_lt _ (by omega)) hp' (by rw [i1]; exact ha) (by rw [i2]; exact hb)
    have e := ar.edge _ p a (Nat.mod_lt _ (by omega)) hp' (by rw [i1]; exact ha) b' hb'
    rw [ori_cr] at t e
    have pu := dt_pos (d2_ne hab)
    have id := par_id (w := d2 p a) c
    rcases Int.lt_or_le 0 (dt (d2 a b) (d2 a b')) with z | z
    · exact z
    · exfalso
      have m1 := Int.mul_nonneg (Int.le_of_lt pu) e
      rcases Int.lt_or_le (dt (d2 a b) (d2 a b')) 0 with y | y
      · have m2 := Int.mul_neg_of_neg_of_pos y t
        omega
      · have y0 : dt (d2 a b) (d2 a b') = 0 := by omega
        obtain ⟨v1, v2⟩ := par_v c
        rw [y0, Int.zero_mul] at v1 v2
        have w1 := (Int.mul_eq_zero.mp v1).resolve_left (by omega)
        have w2 := (Int.mul_eq_zero.mp v2).resolve_left (by omega)
        exact d2_ne hab' (Prod.ext w1 w2)
  · -- two corners
    have hn : h.length = 2 := by
      have : h.length ≠ 1 := fun z => by
        have hk0 : k = 0 := by omega
        rw [hk0] at ha
        rw [z, Nat.mod_one, ha] at hb
        exact hab (Option.some.inj hb)
      omega
    rw [hn] at hb hk
    have k01 : k = 0 ∨ k = 1 := by omega
    rcases k01 with rfl | rfl
    · have f := ar.first a ha
      have l1 := (f b bm).resolve_left fun e => hab e.symm
      have l2 := (f b' hb').resolve_left fun e => hab' e.symm
      exact hp_same (lx_hp l1) (lx_hp l2) c
    · have f := ar.last (by omega) a (by rw [hn]; exact ha)
      have l1 := (f b bm).resolve_left fun e => hab e.symm
      have l2 := (f b' hb').resolve_left fun e => hab' e.symm
      have := hp_same (lx_hp l1) (lx_hp l2) (by unfold cr d2 at *; grind)
      unfold dt d2 at *
      grind
/-- no point beyond b -/
theorem Around.near {us h : List GP} (ar : Around us h) {k : Nat} {a b b' : GP} (hk : k < h.length) (ha : h[k]? = some a) (hb : h[(k + 1) % h.length]? = some b) (hab : a ≠ b) (hb' : b' ∈ us) (c : cr (d2 a b) (d2 a b') = 0) : dt (d2 a b) (d2 b b') ≤ 0 := by
  have am := ar.sub a (List.mem_of_getElem? ha)
  have bm := ar.sub b (List.mem_of_getElem? hb)
  have c' : cr (d2 a b) (d2 b b') = 0 := by
    unfold cr d2 at *
    grind
  refine Int.not_lt.mp fun z => ?_
  rcases Nat.lt_or_ge 2 h.length with n3 | n2
  · obtain ⟨q, hq⟩ : ∃ p, h[(k + 2) % h.length]? = some p := ⟨_, List.getElem?_eq_getElem (Nat.mod_lt _ (by omega))⟩
    have t := ar.turn k a b q n3 hk ha hb hq
    have e := ar.edge ((k + 1) % h.length) b q (Nat.mod_lt _ (by omega)) hb (by rw [Nat.mod_add_mod]; exact hq) b' hb'
    rw [ori_cr] at t
    rw [ori_cr2] at e
    have pu := dt_pos (d2_ne hab)
    have id := par_id (w := d2 b q) c'
    rw [cr_anti (d2 a b) (d2 b q)] at id
    have m1 := Int.mul_nonneg (Int.le_of_lt pu) e
    have m2 := Int.mul_pos z t
    rw [Int.mul_neg] at id
    omega
  · have hn : h.length = 2 := by
      have : h.length ≠ 1 := fun z => by
        have hk0 : k = 0 := by omega
        rw [hk0] at ha
        rw [z, Nat.mod_one, ha] at hb
        exact hab (Option.some.inj hb)
      omega
    have hne : b' ≠ b := fun e => by
      rw [e] at z
      unfold dt d2 at z
      grind
    rw [hn] at hb hk
    have k01 : k = 0 ∨ k = 1 := by omega
    rcases k01 with rfl | rfl
    · have f := ar.first a ha
      have g := ar.last (by omega) b (by rw [hn]; exact hb)
      have l1 := (f b bm).resolve_left fun e => hab e.symm
      have l2 := (g b' hb').resolve_left hne
      have := hp_same (lx_hp l1) (lx_hp l2) (by unfold cr d2 at *; grind)
      unfold dt d2 at *
      grind
    · have f := ar.last (by omega) a (by rw [hn]; exact ha)
      have g := ar.first b hb
      have l1 := (f b bm).resolve_left fun e => hab e.symm
      have l2 := (g b' hb').resolve_left hne
      have := hp_same (lx_hp l1) (lx_hp l2) (by unfold cr d2 at *; grind)
      unfold dt d2 at *
      grind
theorem same_next {us h h' : List GP} (ar : Around us h) (ar' : Around us h') {k k' : Nat} {a b b' : GP} (hk : k < h.length) (ha : h[k]? = some a) (hb : h[(k + 1) % h.length]? = some b)
    (hk' : k' < h'.length) (ha' : h'[k']? = some a) (hb' : h'[(k' + 1) % h'.length]? = some b') (hab : a ≠ b) (hab' : a ≠ b') : b = b' := by
  have bm := ar.sub b (List.mem_of_getElem? hb)
  have bm' := ar'.sub b' (List.mem_of_getElem? hb')
  have e1 := ar.edge k a b hk ha hb b' bm'
  have e2 := ar'.edge k' a b' hk' ha' hb' b bm
  rw [ori_cr2] at e1 e2
  have c : cr (d2 a b) (d2 a b') = 0 := by
    rw [cr_anti (d2 a b) (d2 a b')] at e2
    omega
  have c' : cr (d2 a b') (d2 a b) = 0 := by rw [cr_anti, c]; rfl
  have s := ar.side hk ha hb hab bm' hab' c
  have n1 := ar.near hk ha hb hab bm' c
  have n2 := ar'.near hk' ha' hb' hab' bm c'
  have pu := dt_pos (d2_ne hab)
  obtain ⟨v1, v2⟩ := par_v c
  -- u.v <= u.u and u.v >= v.v, so v = u
  have f1 : dt (d2 a b) (d2 a b') ≤ dt (d2 a b) (d2 a b) := by
    unfold dt d2 at *
    grind
  have f2 : dt (d2 a b') (d2 a b) ≤ dt (d2 a b') (d2 a b') := by
    unfold dt d2 at *
    grind
  have f3 : dt (d2 a b) (d2 a b) * dt (d2 a b') (d2 a b') = dt (d2 a b) (d2 a b') * dt (d2 a b) (d2 a b') := by
    have e : dt (d2 a b) (d2 a b) * dt (d2 a b') (d2 a b') - dt (d2 a b) (d2 a b') * dt (d2 a b) (d2 a b') = cr (d2 a b) (d2 a b') * cr (d2 a b) (d2 a b') := by
      unfold dt cr
      grind
    rw [c, Int.zero_mul] at e
    omega
  have f4 : dt (d2 a b') (d2 a b) = dt (d2 a b) (d2 a b') := by
    unfold dt
    grind
  rw [f4] at f2
  have f5 := Int.mul_le_mul_of_nonneg_left f2 (Int.le_of_lt pu)
  rw [f3] at f5
  have f6 : dt (d2 a b) (d2 a b) ≤ dt (d2 a b) (d2 a b') := Int.le_of_mul_le_mul_right f5 s
  have f7 : dt (d2 a b) (d2 a b') = dt (d2 a b) (d2 a b) := by omega
  rw [f7] at v1 v2
  have w1 := Int.eq_of_mul_eq_mul_left (by omega) v1
  have w2 := Int.eq_of_mul_eq_mul_left (by omega) v2
  unfold d2 at w1 w2
  simp only [] at w1 w2
  exact Prod.ext (by omega) (by omega)
theorem cyc_ne {h : List GP} (nd : h.Nodup) {i j : Nat} {a b : GP} (ha : h[i]? = some a) (hb : h[j]? = some b) (c : i ≠ j) : a ≠ b := fun e => by
  subst e
  obtain ⟨h1, e1⟩ := List.getElem?_eq_some_iff.mp ha
  obtain ⟨h2, e2⟩ := List.getElem?_eq_some_iff.mp hb
  rcases Nat.lt_or_gt_of_ne c with k | k
  · exact (List.pairwise_iff_getElem.mp nd) _ _ h1 h2 k (e1.trans e2.symm)
  · exact (List.pairwise_iff_getElem.mp nd) _ _ h2 h1 k (e2.trans e1.symm)
theorem Around.len1 {us h h' : List GP} (ar : Around us h) (ar' : Around us h') (n : h.length = 1) : h'.length = 1 := by
  obtain ⟨m, rfl⟩ := List.length_eq_one_iff.mp n
  have f := ar.first m rfl
  have g := ar.last (by simp) m rfl
  have all : ∀ q ∈ us, q = m := fun q hq => by
    rcases f q hq with e | e
    · exact e
    · rcases g q hq with e' | e'
      · exact e'
      · exact (lx_irr (lx_trans e e')).elim
  have pos : 0 < h'.length := List.length_pos_iff.mpr ar'.ne
  rcases Nat.lt_or_ge 1 h'.length with c | c
  · exfalso
    obtain ⟨a, ha⟩ : ∃ a, h'[0]? = some a := ⟨_, List.getElem?_eq_getElem pos⟩
    obtain ⟨b, hb⟩ : ∃ a, h'[1]? = some a := ⟨_, List.getElem?_eq_getElem c⟩
    exact cyc_ne ar'.nodup ha hb (by omega) ((all a (ar'.sub a (List.mem_of_getElem? ha))).trans (all b (ar'.sub b (List.mem_of_getElem? hb))).symm)
  · omega
theorem Around.first_one {us h h' : List GP} (ar : Around us h) (ar' : Around us h') {a a' : GP} (ha : h[0]? = some a) (ha' : h'[0]? = some a') : a = a' := by
  rcases ar.first a ha a' (ar'.sub a' (List.mem_of_getElem? ha')) with e | e
  · exact e.symm
  · rcases ar'.first a' ha' a (ar.sub a (List.mem_of_getElem? ha)) with e' | e'
    · exact e'
    · exact (lx_irr (lx_trans e e')).elim
theorem Around.agree {us h h' : List GP} (ar : Around us h) (ar' : Around us h') : ∀ k, k < h.length → k < h'.length → h[k]? = h'[k]?
  | 0, h1, h2 => by
    obtain ⟨a, ha⟩ : ∃ a, h[0]? = some a := ⟨_, List.getElem?_eq_getElem h1⟩
    obtain ⟨b, hb⟩ : ∃ a, h'[0]? = some a := ⟨_, List.getElem?_eq_getElem h2⟩
    rw [ha, hb, ar.first_one ar' ha hb]
  | k + 1, h1, h2 => by
    have ih := ar.agree ar' k (by omega) (by omega)
    obtain ⟨a, ha⟩ : ∃ a, h[k]? = some a := ⟨_, List.getElem?_eq_getElem (by omega)⟩
    obtain ⟨b, hb⟩ : ∃ a, h[k + 1]? = some a := ⟨_, List.getElem?_eq_getElem h1⟩
    obtain ⟨b', hb'⟩ : ∃ a, h'[k + 1]? = some a := ⟨_, List.getElem?_eq_getElem h2⟩
    have ha' : h'[k]? = some a := by rw [← ih]; exact ha
    have := same_next ar ar' (by omega) ha (by rw [Nat.mod_eq_of_lt h1]; exact hb) (by omega) ha' (by rw [Nat.mod_eq_of_lt h2]; exact hb') (cyc_ne ar.nodup ha hb (by omega)) (cyc_ne ar'.nodup ha' hb' (by omega))
    rw [hb, hb', this]
theorem Around.len_le {us h h' : List GP} (ar : Around us h) (ar' : Around us h') : h'.length ≤ h.length := by
  have pos : 0 < h.length := List.length_pos_iff.mpr ar.ne
  have pos' : 0 < h'.length := List.length_pos_iff.mpr ar'.ne
  refine Nat.not_lt.mp fun c => ?_
  rcases Nat.lt_or_ge 1 h.length with n | n
  · obtain ⟨a, ha⟩ : ∃ a, h[h.length - 1]? = some a := ⟨_, List.getElem?_eq_getElem (by omega)⟩
    obtain ⟨m, hm⟩ : ∃ a, h[0]? = some a := ⟨_, List.getElem?_eq_getElem pos⟩
    obtain ⟨m', hm'⟩ : ∃ a, h'[0]? = some a := ⟨_, List.getElem?_eq_getElem pos'⟩
    obtain ⟨b', hb'⟩ : ∃ a, h'[h.length]? = some a := ⟨_, List.getElem?_eq_getElem c⟩
    have ha' : h'[h.length - 1]? = some a := by rw [← ar.agree ar' _ (by omega) (by omega)]; exact ha
    have e := ar.first_one ar' hm hm'
    have i1 : h.length - 1 + 1 = h.length := by omega
    have := same_next ar ar' (by omega) ha (by rw [i1, Nat.mod_self]; exact hm) (by omega) ha' (by rw [i1, Nat.mod_eq_of_lt c]; exact hb') (cyc_ne ar.nodup ha hm (by omega)) (cyc_ne ar'.nodup ha' hb' (by omega))
    exact cyc_ne ar'.nodup hb' hm' (by omega) (this.symm.trans e)
  · have := ar.len1 ar' (by omega)
    omega
theorem around_one {us h h' : List GP} (ar : Around us h) (ar' : Around us h') : h = h' := by
  have l := Nat.le_antisymm (ar'.len_le ar) (ar.len_le ar')
  refine List.ext_getElem? fun k => ?_
  rcases Nat.lt_or_ge k h.length with c | c
  · exact ar.agree ar' k c (by omega)
  · rw [List.getElem?_eq_none c, List.getElem?_eq_none (by omega)]
/-! ### the next corner, by wrapping -/
def l1 (a b : GP) : Int := ((b.1 - a.1).natAbs : Int) + ((b.2 - a.2).natAbs : Int)
theorem abs_scale {s t x y : Int} (hs : 0 ≤ s) (ht : 0 ≤ t) (h : s * x = t * y) : s * (x.natAbs : Int) = t * (y.natAbs : Int) := by
  have e := congrArg Int.natAbs h
  rw [Int.natAbs_mul, Int.natAbs_mul] at e
  have e2 : ((s.natAbs * x.natAbs : Nat) : Int) = ((t.natAbs * y.natAbs : Nat) : Int) := by rw [e]
  rw [Int.natCast_mul, Int.natCast_mul] at e2
  rw [show ((s.natAbs : Nat) : Int) = s by omega, show ((t.natAbs : Nat) : Int) = t by omega] at e2
  exact e2
theorem Around.closest {us h : List GP} (ar : Around us h) {k : Nat} {a b p : GP} (hk : k < h.length) (ha : h[k]? = some a) (hb : h[(k + 1) % h.length]? = some b) (hab : a ≠ b) (hp' : p ∈ us) (hap : a ≠ p) (hbp : b ≠ p) :
    0 < ori a b p ∨ (ori a b p = 0 ∧ l1 a p < l1 a b) := by
  have e := ar.edge k a b hk ha hb p hp'
  rcases Int.lt_or_eq_of_le e with z | z
  · exact .inl z
  refine .inr ⟨z.symm, ?_⟩
  have c : cr (d2 a b) (d2 a p) = 0 := by rw [← ori_cr2]; exact z.symm
  have s := ar.side hk ha hb hab hp' hap c
  have n := ar.near hk ha hb hab hp' c
  have pu := dt_pos (d2_ne hab)
  obtain ⟨v1, v2⟩ := par_v c
  have f1 : dt (d2 a b) (d2 a p) ≤ dt (d2 a b) (d2 a b) := by
    unfold dt d2 at *
    grind
  have f2 : dt (d2 a b) (d2 a p) ≠ dt (d2 a b) (d2 a b) := fun f => by
    rw [f] at v1 v2
    have w1 := Int.eq_of_mul_eq_mul_left (by omega) v1
    have w2 := Int.eq_of_mul_eq_mul_left (by omega) v2
    unfold d2 at w1 w2
    simp only [] at w1 w2
    exact hbp (Prod.ext (by omega) (by omega))
  have f3 : dt (d2 a b) (d2 a p) < dt (d2 a b) (d2 a b) := by omega
  have a1 := abs_scale (Int.le_of_lt pu) (Int.le_of_lt s) v1
  have a2 := abs_scale (Int.le_of_lt pu) (Int.le_of_lt s) v2
  have e1 : l1 a p = ((d2 a p).1.natAbs : Int) + ((d2 a p).2.natAbs : Int) := rfl
  have e2 : l1 a b = ((d2 a b).1.natAbs : Int) + ((d2 a b).2.natAbs : Int) := rfl
  have pl : 0 < l1 a b := by
    have := d2_ne hab
    rcases Int.lt_or_le 0 (l1 a b) with y | y
    · exact y
    · exact absurd (Prod.ext (show (d2 a b).1 = 0 by omega) (show (d2 a b).2 = 0 by omega)) this
  have e3 : dt (d2 a b) (d2 a b) * l1 a p = dt (d2 a b) (d2 a p) * l1 a b := by
    rw [e1, e2, Int.mul_add, Int.mul_add, a1, a2]
  have e4 := Int.mul_lt_mul_of_pos_right f3 pl
  rw [← e3] at e4
  exact Int.lt_of_mul_lt_mul_left e4 (Int.le_of_lt pu)
/-- next, as the law asks it -/
def nxt (last best p : GP) : Prop := best = last ∨ ori last best p < 0 ∨ (ori last best p = 0 ∧ l1 last best < l1 last p)
instance (a b c : GP) : Decidable (nxt a b c) := by unfold nxt; infer_instance
def pick (last : GP) : GP → List GP → GP
  | best, [] => best
  | best, p :: ps => pick last (if p ≠ last ∧ nxt last best p then p else best) ps
theorem pick_app (last : GP) : ∀ (ps : List GP) (best p : GP), pick last best (ps ++ [p]) = if p ≠ last ∧ nxt last (pick last best ps) p then p else pick last best ps
  | [], best, p => rfl
  | a :: ps, best, p => pick_app last ps _ p
theorem pick_in (last : GP) : ∀ (ps : List GP) (best : GP), pick last best ps = best ∨ (pick last best ps ∈ ps ∧ pick last best ps ≠ last)
  | [], best => .inl rfl
  | a :: ps, best => by
    show pick last (if a ≠ last ∧ nxt last best a then a else best) ps = best ∨ _
    split
    · rename_i c
      rcases pick_in last ps a with e | e
      · refine .inr ?_
        show pick last (if a ≠ last ∧ nxt last best a then a else best) ps ∈ a :: ps ∧ pick last (if a ≠ last ∧ nxt last best a then a else best) ps ≠ last
        rw [if_pos c, e]
        exact ⟨.head _, c.1⟩
      · refine .inr ?_
        show pick last (if a ≠ last ∧ nxt last best a then a else best) ps ∈ a :: ps ∧ pick last (if a ≠ last ∧ nxt last best a then a else best) ps ≠ last
        rw [if_pos c]
        exact ⟨.tail _ e.1, e.2⟩
    · rename_i c
      rcases pick_in last ps best with e | e
      · exact .inl e
      · refine .inr ?_
        show pick last (if a ≠ last ∧ nxt last best a then a else best) ps ∈ a :: ps ∧ pick last (if a ≠ last ∧ nxt last best a then a else best) ps ≠ last
        rw [if_neg c]
        exact ⟨.tail _ e.1, e.2⟩
theorem pick_best {us h : List GP} (ar : Around us h) {k : Nat} {a b : GP} (hk : k < h.length) (ha : h[k]? = some a) (hb : h[(k + 1) % h.length]? = some b) (hab : a ≠ b) :
    ∀ (ps : List GP) (best : GP), (∀ p ∈ ps, p ∈ us) → (best = a ∨ best ∈ us) → b ∈ ps ∨ best = b → pick a best ps = b
  | [], best, _, _, h => by
    rcases h with h | h
    · cases h
    · exact h
  | p :: ps, best, hs, hbest, h => by
    have hp' := hs p (.head _)
    show pick a (if p ≠ a ∧ nxt a best p then p else best) ps = b
    have rcl : ∀ q : GP, (q = a ∨ q ∈ us) → b ∈ ps ∨ q = b → pick a q ps = b := fun q h1 h2 => pick_best ar hk ha hb hab ps q (fun x hx => hs x (.tail _ hx)) h1 h2
    by_cases e : best = b
    · subst e
      have no : ¬(p ≠ a ∧ nxt a best p) ∨ p = best := by
        by_cases pb : p = best
        · exact .inr pb
        · refine .inl fun c => ?_
          have := ar.closest hk ha hb hab hp' (fun z => c.1 z.symm) (fun z => pb z.symm)
          rcases c.2 with z | z | z
          · exact hab z.symm
          · omega
          · omega
      rcases no with no | no
      · rw [if_neg no]
        exact rcl best hbest (.inr rfl)
      · subst no
        rw [show (if p ≠ a ∧ nxt a p p then p else p) = p by split <;> rfl]
        exact rcl p hbest (.inr rfl)
    · have h := h.resolve_right e
      by_cases pb : p = b
      · subst pb
        rw [if_pos]
        · exact rcl p (.inr hp') (.inr rfl)
        · refine ⟨fun z => hab z.symm, ?_⟩
          by_cases ba : best = a
          · exact .inl ba
          · have := ar.closest hk ha hb hab (hbest.resolve_left ba) (fun z => ba z.symm) (fun z => e z.symm)
            have sw : ori a best p = - ori a p best := by
              unfold ori
              grind
            refine .inr ?_
            rcases this with z | z
            · exact .inl (by omega)
            · exact .inr ⟨by omega, z.2⟩
      · have h : b ∈ ps := by
          rcases List.mem_cons.mp h with z | z
          · exact absurd z.symm pb
          · exact z
        split
        · exact rcl p (.inr hp') (.inl h)
        · exact rcl best hbest (.inl h)
theorem pick_same {a : GP} : ∀ (ps : List GP), (∀ p ∈ ps, p = a) → pick a a ps = a
  | [], _ => rfl
  | p :: ps, h => by
    show pick a (if p ≠ a ∧ nxt a a p then p else a) ps = a
    rw [if_neg (fun c => c.1 (h p (.head _)))]
    exact pick_same ps fun x hx => h x (.tail _ hx)
/-- wrapping finds the next corner -/
theorem wrap_step {us h zs : List GP} (ar : Around us h) (hz : ∀ p, p ∈ zs ↔ p ∈ us) {k : Nat} {a b : GP} (hk : k < h.length) (ha : h[k]? = some a) (hb : h[(k + 1) % h.length]? = some b) : pick a a zs = b := by
  by_cases n : h.length = 1
  · have k0 : k = 0 := by omega
    subst k0
    rw [n, Nat.mod_one, ha] at hb
    cases hb
    refine pick_same zs fun p hp' => ?_
    have f := ar.first a ha p ((hz p).mp hp')
    have g := ar.last (by omega) a (by rw [n]; exact ha) p ((hz p).mp hp')
    rcases f with e | e
    · exact e
    · rcases g with e' | e'
      · exact e'
      · exact (lx_irr (lx_trans e e')).elim
  · have pos : 0 < h.length := List.length_pos_iff.mpr ar.ne
    have hab : a ≠ b := by
      refine cyc_ne ar.nodup ha hb fun e => ?_
      rcases Nat.lt_or_ge (k + 1) h.length with c | c
      · rw [Nat.mod_eq_of_lt c] at e
        omega
      · rw [show k + 1 = h.length by omega, Nat.mod_self] at e
        omega
    exact pick_best ar hk ha hb hab zs a (fun p hp' => (hz p).mp hp') (.inl rfl) (.inl ((hz b).mpr (ar.sub b (List.mem_of_getElem? hb))))
/-! ### the inside of a closed chain -/
theorem left_ori {a b : GP} {x y : Int} : left a b x y ↔ ori a b (x, y) ≤ 0 := by
  unfold left
  rw [ori_cr2]
  unfold cr d2
  simp only []
  rw [Int.mul_comm (x - a.1)]
  omega
theorem ori_swap (a b q : GP) : ori b a q = - ori a b q := by
  unfold ori
  grind
def upI (a b q : GP) : Int := if a.2 ≤ q.2 ∧ q.2 < b.2 ∧ ori a b q ≤ 0 then -1 else 0
theorem crs_up {a b : GP} {x y : Int} (h : a.2 ≤ b.2) : crs a b x y = upI a b (x, y) := by
  have L := left_ori (a := a) (b := b) (x := x) (y := y)
  unfold crs upI
  by_cases c : a.2 ≤ y ∧ y < b.2 ∧ left a b x y
  · rw [if_pos c, if_pos ⟨c.1, c.2.1, L.mp c.2.2⟩]
  · rw [if_neg c, if_neg (show ¬(b.2 ≤ y ∧ y < a.2 ∧ left b a x y) by rintro ⟨k1, k2, _⟩; omega), if_neg (fun h => c ⟨h.1, h.2.1, L.mpr h.2.2⟩)]
theorem crs_dn {a b : GP} {x y : Int} (h : b.2 ≤ a.2) : crs a b x y = - upI b a (x, y) := by
  have L := left_ori (a := b) (b := a) (x := x) (y := y)
  unfold crs upI
  rw [if_neg (by rintro ⟨k1, k2, _⟩; omega)]
  by_cases c : b.2 ≤ y ∧ y < a.2 ∧ left b a x y
  · rw [if_pos c, if_pos ⟨c.1, c.2.1, L.mp c.2.2⟩]
    rfl
  · rw [if_neg c, if_neg (fun h => c ⟨h.1, h.2.1, L.mpr h.2.2⟩)]
    rfl
/-- sums along a chain that goes up, its last point first -/
def upS (q : GP) : List GP → Int
  | c :: b :: r => upS q (b :: r) + upI b c q
  | _ => 0
theorem lx_h {a b : GP} (h : lx a b) : a.2 ≤ b.2 := by
  unfold lx at h
  omega
/-- the edge of a chain at a height -/
theorem upS_edge {q : GP} : ∀ (r : List GP) (c : GP), Conv (c :: r) →
    ((bot c r).2 ≤ q.2 ∧ q.2 < c.2 → ∃ (i : Nat) (a b : GP), (c :: r).reverse[i]? = some a ∧ (c :: r).reverse[i + 1]? = some b ∧ a.2 ≤ q.2 ∧ q.2 < b.2 ∧ upS q (c :: r) = if ori a b q ≤ 0 then -1 else 0) ∧
    (¬((bot c r).2 ≤ q.2 ∧ q.2 < c.2) → upS q (c :: r) = 0)
  | [], c, _ => ⟨fun h => by
      have h : c.2 ≤ q.2 ∧ q.2 < c.2 := h
      omega, fun _ => rfl⟩
  | b :: r, c, hc => by
    obtain ⟨l, hc'⟩ := hc.tail
    have hl := lx_h l
    obtain ⟨i1, i2⟩ := upS_edge (q := q) r b hc'
    have e0 : upS q (c :: b :: r) = upS q (b :: r) + upI b c q := rfl
    have eb : bot c (b :: r) = bot b r := rfl
    have hbb : (bot b r).2 ≤ b.2 := by
      rcases Conv.bot hc' b (.head _) with e | e
      · rw [← e]
        exact Int.le_refl _
      · exact lx_h e
    rw [eb]
    constructor
    · rintro ⟨k1, k2⟩
      rcases Int.lt_or_le q.2 b.2 with k | k
      · obtain ⟨i, a, b', h1, h2, h3, h4, h5⟩ := i1 ⟨k1, k⟩
        have g1 := (List.getElem?_eq_some_iff.mp h1).1
        have g2 := (List.getElem?_eq_some_iff.mp h2).1
        refine ⟨i, a, b', ?_, ?_, h3, h4, ?_⟩
        · rw [List.reverse_cons, List.getElem?_append_left g1]
          exact h1
        · rw [List.reverse_cons, List.getElem?_append_left g2]
          exact h2
        · rw [e0, h5, show upI b c q = 0 from if_neg (by omega), Int.add_zero]
      · refine ⟨r.length, b, c, ?_, ?_, k, k2, ?_⟩
        · rw [List.reverse_cons, List.getElem?_append_left (by simp)]
          exact rev_top r b
        · exact rev_top (b :: r) c
        · rw [e0, i2 (by omega)]
          unfold upI
          by_cases z : ori b c q ≤ 0
          · rw [if_pos ⟨k, k2, z⟩, if_pos z]
            rfl
          · rw [if_neg (fun h => z h.2.2), if_neg z]
            rfl
    · intro k
      rw [e0]
      unfold upI
      by_cases z : (bot b r).2 ≤ q.2 ∧ q.2 < b.2
      · exfalso
        exact k ⟨z.1, by omega⟩
      · rw [i2 z, if_neg (by omega)]
        rfl
theorem wl_up {x y : Int} : ∀ (r : List GP) (c : GP), Conv (c :: r) → wl (fun a b => crs a b x y) (c :: r).reverse = upS (x, y) (c :: r)
  | [], c, _ => rfl
  | b :: r, c, hc => by
    obtain ⟨l, hc'⟩ := hc.tail
    rw [List.reverse_cons, List.reverse_cons, List.append_assoc]
    show wl _ (r.reverse ++ b :: [c]) = _
    rw [wl_app, ← List.reverse_cons, wl_up r b hc', wl_two, crs_up (lx_h l)]
    show _ + (_ + 0) = upS (x, y) (b :: r) + upI b c (x, y)
    omega
/-- the other chain, downwards -/
def dnS (q : GP) : List GP → Int
  | c :: b :: r => dnS q (b :: r) - upI c b q
  | _ => 0
theorem wl_dn {x y : Int} : ∀ (r : List GP) (c : GP), Conv ((c :: r).map ng) → wl (fun a b => crs a b x y) (c :: r).reverse = dnS (x, y) (c :: r)
  | [], c, _ => rfl
  | b :: r, c, hc => by
    obtain ⟨l, hc'⟩ := Conv.tail (c := ng c) (b := ng b) (r := r.map ng) hc
    have l := lx_ng.mp l
    rw [List.reverse_cons, List.reverse_cons, List.append_assoc]
    show wl _ (r.reverse ++ b :: [c]) = _
    rw [wl_app, ← List.reverse_cons, wl_dn r b hc', wl_two, crs_dn (lx_h l)]
    show _ + (_ + 0) = dnS (x, y) (b :: r) - upI c b (x, y)
    omega
theorem dnS_edge {q : GP} : ∀ (r : List GP) (c : GP), Conv ((c :: r).map ng) →
    (c.2 ≤ q.2 ∧ q.2 < (bot c r).2 → ∃ (i : Nat) (a b : GP), (c :: r).reverse[i]? = some a ∧ (c :: r).reverse[i + 1]? = some b ∧ b.2 ≤ q.2 ∧ q.2 < a.2 ∧ dnS q (c :: r) = if 0 ≤ ori a b q then 1 else 0) ∧
    (¬(c.2 ≤ q.2 ∧ q.2 < (bot c r).2) → dnS q (c :: r) = 0)
  | [], c, _ => ⟨fun h => by
      have h : c.2 ≤ q.2 ∧ q.2 < c.2 := h
      omega, fun _ => rfl⟩
  | b :: r, c, hc => by
    obtain ⟨l, hc'⟩ := Conv.tail (c := ng c) (b := ng b) (r := r.map ng) hc
    have l := lx_ng.mp l
    have hl := lx_h l
    obtain ⟨i1, i2⟩ := dnS_edge (q := q) r b hc'
    have e0 : dnS q (c :: b :: r) = dnS q (b :: r) - upI c b q := rfl
    have eb : bot c (b :: r) = bot b r := rfl
    have hbb : b.2 ≤ (bot b r).2 := by
      have bm : ∀ (r : List GP) (b : GP), bot (ng b) (r.map ng) = ng (bot b r) := fun r => by
        induction r with
        | nil => intro b; rfl
        | cons x r ih => intro b; exact ih x
      have hc2 : Conv (ng b :: r.map ng) := hc'
      rcases Conv.bot hc2 (ng b) (.head _) with e | e
      · rw [bm] at e
        have := congrArg ng e
        rw [ng_ng, ng_ng] at this
        rw [← this]
        exact Int.le_refl _
      · rw [bm] at e
        exact lx_h (lx_ng.mp e)
    rw [eb]
    constructor
    · rintro ⟨k1, k2⟩
      rcases Int.lt_or_le q.2 b.2 with k | k
      · refine ⟨r.length, b, c, ?_, ?_, k1, k, ?_⟩
        · rw [List.reverse_cons, List.getElem?_append_left (by simp)]
          exact rev_top r b
        · exact rev_top (b :: r) c
        · rw [e0, i2 (by omega)]
          unfold upI
          rw [ori_swap b c]
          by_cases z : 0 ≤ ori b c q
          · rw [if_pos ⟨k1, k, by omega⟩, if_pos z]
            rfl
          · rw [if_neg (fun h => z (by omega)), if_neg z]
            rfl
      · obtain ⟨i, a, b', h1, h2, h3, h4, h5⟩ := i1 ⟨k, k2⟩
        have g1 := (List.getElem?_eq_some_iff.mp h1).1
        have g2 := (List.getElem?_eq_some_iff.mp h2).1
        refine ⟨i, a, b', ?_, ?_, h3, h4, ?_⟩
        · rw [List.reverse_cons, List.getElem?_append_left g1]
          exact h1
        · rw [List.reverse_cons, List.getElem?_append_left g2]
          exact h2
        · rw [e0, h5, show upI c b q = 0 from if_neg (by omega), Int.sub_zero]
    · intro k
      rw [e0]
      unfold upI
      by_cases z : b.2 ≤ q.2 ∧ q.2 < (bot b r).2
      · exfalso
        exact k ⟨by omega, z.2⟩
      · rw [i2 z, if_neg (by omega)]
        rfl
/-- inside, as the law asks it of each edge -/
def Inside (h : List GP) (q : GP) : Prop := 3 ≤ h.length ∧ ∀ k a b, k < h.length → h[k]? = some a → h[(k + 1) % h.length]? = some b → 0 ≤ ori a b q ∧ (ori a b q = 0 → ¬(a.2 < b.2 ∨ (a.2 = b.2 ∧ b.1 < a.1)))
theorem slab {a b q : GP} (hq : b.2 ≤ q.2 ∧ q.2 < a.2) (f : GP → Int) (u v w : Int) (hf : ∀ z, f z = u * z.1 + v * z.2 + w) (fa : 0 ≤ f a) (fb : 0 ≤ f b) : 0 ≤ (a.2 - b.2) * f q - u * ori a b q := by
  have e : (a.2 - b.2) * f q - u * ori a b q = (q.2 - b.2) * f a + (a.2 - q.2) * f b := by
    rw [hf, hf, hf]
    unfold ori
    grind
  rw [e]
  have m1 := Int.mul_nonneg (show 0 ≤ q.2 - b.2 by omega) fa
  have m2 := Int.mul_nonneg (show 0 ≤ a.2 - q.2 by omega) fb
  omega
theorem slabU {a b q : GP} (hq : a.2 ≤ q.2 ∧ q.2 < b.2) (f : GP → Int) (u v w : Int) (hf : ∀ z, f z = u * z.1 + v * z.2 + w) (fa : 0 ≤ f a) (fb : 0 ≤ f b) : 0 ≤ (b.2 - a.2) * f q + u * ori a b q := by
  have e : (b.2 - a.2) * f q + u * ori a b q = (q.2 - a.2) * f b + (b.2 - q.2) * f a := by
    rw [hf, hf, hf]
    unfold ori
    grind
  rw [e]
  have m1 := Int.mul_nonneg (show 0 ≤ q.2 - a.2 by omega) fb
  have m2 := Int.mul_nonneg (show 0 ≤ b.2 - q.2 by omega) fa
  omega
theorem ori_lin (a b : GP) : ∀ z, ori a b z = -(b.2 - a.2) * z.1 + (b.1 - a.1) * z.2 + (-(b.1 - a.1) * b.2 + (b.2 - a.2) * b.1) := fun z => by
  unfold ori
  grind
/-- between two edges of the chains: inside -/
theorem Around.inside {us h : List GP} {q a1 b1 a2 b2 : GP} {M : GP} (ar : Around us h) (m1 : a1 ∈ us) (m2 : b1 ∈ us) (m3 : a2 ∈ us) (m4 : b2 ∈ us) (hM : M ∈ us) (hMq : q.2 < M.2)
    (s1 : a1.2 ≤ q.2 ∧ q.2 < b1.2) (s2 : b2.2 ≤ q.2 ∧ q.2 < a2.2) (o1 : 0 < ori a1 b1 q) (o2 : 0 ≤ ori a2 b2 q) {k : Nat} {a b : GP} (hk : k < h.length) (ha : h[k]? = some a) (hb : h[(k + 1) % h.length]? = some b) :
    0 ≤ ori a b q ∧ (ori a b q = 0 → ¬(a.2 < b.2 ∨ (a.2 = b.2 ∧ b.1 < a.1))) := by
  have f := ar.edge k a b hk ha hb
  have lin := ori_lin a b
  have k1 := slabU s1 (ori a b) _ _ _ lin (f a1 m1) (f b1 m2)
  have k2 := slab s2 (ori a b) _ _ _ lin (f a2 m3) (f b2 m4)
  have d1 : 0 < b1.2 - a1.2 := by omega
  have d2' : 0 < a2.2 - b2.2 := by omega
  rcases Int.lt_trichotomy a.2 b.2 with c | c | c
  · -- upwards
    have p := Int.mul_pos (show 0 < b.2 - a.2 by omega) o1
    have : 0 < (b1.2 - a1.2) * ori a b q := by
      rw [Int.neg_mul] at k1
      omega
    have := pos_of' d1 this
    exact ⟨by omega, fun e => by omega⟩
  · have fM := f M hM
    have e0 : ori a b q = (b.1 - a.1) * (q.2 - b.2) := by
      unfold ori
      rw [c]
      grind
    have e1 : ori a b M = (b.1 - a.1) * (M.2 - b.2) := by
      unfold ori
      rw [c]
      grind
    have nn : 0 ≤ ori a b q := by
      rw [show -(b.2 - a.2) = 0 by omega, Int.zero_mul] at k1
      exact pos_of d1 (by omega)
    refine ⟨nn, fun z h => ?_⟩
    rcases h with h | ⟨_, h⟩
    · omega
    · rw [e1] at fM
      rcases Int.lt_or_le b.2 M.2 with y | y
      · have := Int.mul_neg_of_neg_of_pos (show b.1 - a.1 < 0 by omega) (show 0 < M.2 - b.2 by omega)
        omega
      · rw [e0] at z
        have := Int.mul_pos_of_neg_of_neg (show b.1 - a.1 < 0 by omega) (show q.2 - b.2 < 0 by omega)
        omega
  · have p := Int.mul_nonneg (show 0 ≤ -(b.2 - a.2) by omega) o2
    have : 0 ≤ (a2.2 - b2.2) * ori a b q := by omega
    have := pos_of d2' this
    exact ⟨by omega, fun _ h => by omega⟩
/-- inside: between the lowest and the highest point -/
theorem Inside.between {us h : List GP} {q m M : GP} (ar : Around us h) (ins : Inside h q) (hm : h[0]? = some m) (lo : ∀ p ∈ us, p = m ∨ lx m p) (hM : ∃ j : Nat, h[j]? = some M) (hi : ∀ p ∈ us, p = M ∨ lx p M) : m.2 ≤ q.2 ∧ q.2 < M.2 := by
  obtain ⟨n3, ins⟩ := ins
  -- the two edges at a corner
  have two : ∀ {j : Nat} {c : GP}, h[j]? = some c → ∃ a b, a ∈ us ∧ b ∈ us ∧ 0 < ori a c b ∧ (0 ≤ ori a c q ∧ (ori a c q = 0 → ¬(a.2 < c.2 ∨ (a.2 = c.2 ∧ c.1 < a.1)))) ∧ (0 ≤ ori c b q ∧ (ori c b q = 0 → ¬(c.2 < b.2 ∨ (c.2 = b.2 ∧ b.1 < c.1)))) := fun {j c} hc => by
    have hj := (List.getElem?_eq_some_iff.mp hc).1
    obtain ⟨a, ha⟩ : ∃ p, h[(j + (h.length - 1)) % h.length]? = some p := ⟨_, List.getElem?_eq_getElem (Nat.mod_lt _ (by omega))⟩
    obtain ⟨b, hb⟩ : ∃ p, h[(j + 1) % h.length]? = some p := ⟨_, List.getElem?_eq_getElem (Nat.mod_lt _ (by omega))⟩
    have i1 : ((j + (h.length - 1)) % h.length + 1) % h.length = j := by
      rw [Nat.mod_add_mod, show j + (h.length - 1) + 1 = j + h.length by omega, Nat.add_mod_right, Nat.mod_eq_of_lt hj]
    have i2 : ((j + (h.length - 1)) % h.length + 2) % h.length = (j + 1) % h.length := by
      rw [Nat.mod_add_mod, show j + (h.length - 1) + 2 = j + 1 + h.length by omega, Nat.add_mod_right]
    exact ⟨a, b, ar.sub a (List.mem_of_getElem? ha), ar.sub b (List.mem_of_getElem? hb), ar.turn _ a c b (by omega) (Nat.mod_lt _ (by omega)) ha (by rw [i1]; exact hc) (by rw [i2]; exact hb),
      ins _ a c (Nat.mod_lt _ (by omega)) ha (by rw [i1]; exact hc), ins j c b hj hc hb⟩
  constructor
  · obtain ⟨a, b, ha, hb, t, ⟨e1, _⟩, ⟨e2, _⟩⟩ := two hm
    have la : m.2 ≤ a.2 := by
      rcases lo a ha with e | e
      · rw [e]; exact Int.le_refl _
      · exact lx_h e
    have lb : m.2 ≤ b.2 := by
      rcases lo b hb with e | e
      · rw [e]; exact Int.le_refl _
      · exact lx_h e
    rw [ori_cr] at t
    have e1' : 0 ≤ cr (d2 a m) (d2 m q) := by rw [← ori_cr]; exact e1
    have e2' : 0 ≤ cr (d2 m b) (d2 m q) := by rw [← ori_cr2]; exact e2
    have id : (d2 m q).2 * cr (d2 a m) (d2 m b) = (d2 m b).2 * cr (d2 a m) (d2 m q) + (-(d2 a m).2) * cr (d2 m b) (d2 m q) := by
      unfold cr
      grind
    have m1 := Int.mul_nonneg (show 0 ≤ (d2 m b).2 by show 0 ≤ b.2 - m.2; omega) e1'
    have m2 := Int.mul_nonneg (show 0 ≤ -(d2 a m).2 by show 0 ≤ -(m.2 - a.2); omega) e2'
    have : 0 ≤ (d2 m q).2 := pos_of t (by rw [Int.mul_comm]; omega)
    have : 0 ≤ q.2 - m.2 := this
    omega
  · obtain ⟨j, hM⟩ := hM
    obtain ⟨a, b, ha, hb, t, ⟨e1, s1⟩, ⟨e2, s2⟩⟩ := two hM
    have la : a.2 ≤ M.2 := by
      rcases hi a ha with e | e
      · rw [e]; exact Int.le_refl _
      · exact lx_h e
    have lb : b.2 ≤ M.2 := by
      rcases hi b hb with e | e
      · rw [e]; exact Int.le_refl _
      · exact lx_h e
    have hb' : b = M ∨ lx b M := hi b hb
    rw [ori_cr] at t
    have g1 : ori a M q = cr (d2 a M) (d2 M q) := ori_cr a M q
    have g2 : ori M b q = cr (d2 M b) (d2 M q) := ori_cr2 M b q
    rw [g1] at e1 s1
    rw [g2] at e2 s2
    have id : (d2 M q).2 * cr (d2 a M) (d2 M b) = (d2 M b).2 * cr (d2 a M) (d2 M q) + (-(d2 a M).2) * cr (d2 M b) (d2 M q) := by
      unfold cr
      grind
    have m1 := Int.mul_nonneg (show 0 ≤ -(d2 M b).2 by show 0 ≤ -(b.2 - M.2); omega) e1
    rw [Int.neg_mul] at m1
    have m2 := Int.mul_nonneg (show 0 ≤ (d2 a M).2 by show 0 ≤ M.2 - a.2; omega) e2
    rw [Int.neg_mul] at id
    refine Int.not_le.mp fun z => ?_
    have z' : 0 ≤ (d2 M q).2 := by show 0 ≤ q.2 - M.2; omega
    have m3 := Int.mul_nonneg z' (Int.le_of_lt t)
    have z1 : (d2 M b).2 * cr (d2 a M) (d2 M q) = 0 := by omega
    have z2 : (d2 a M).2 * cr (d2 M b) (d2 M q) = 0 := by omega
    by_cases c : b.2 < M.2
    · have c1 : cr (d2 a M) (d2 M q) = 0 := (Int.mul_eq_zero.mp z1).resolve_left (by show ¬(b.2 - M.2 = 0); omega)
      have s := s1 c1
      -- a is as high as M, and on its right: M is not the last
      rcases hi a ha with e | e
      · rw [e] at t
        unfold cr d2 at t
        grind
      · rcases e with e | ⟨e, e'⟩
        · exact s (.inl e)
        · have w := Int.mul_neg_of_pos_of_neg (show 0 < M.1 - a.1 by omega) (show b.2 - M.2 < 0 by omega)
          unfold cr d2 at t
          simp only [] at t
          rw [e, Int.sub_self, Int.zero_mul] at t
          omega
    · have eb : b.2 = M.2 := by omega
      have nb : b ≠ M := fun e => by
        rw [e] at t
        unfold cr d2 at t
        grind
      have lb' := hb'.resolve_left nb
      have l1 : b.1 < M.1 := by unfold lx at lb'; omega
      by_cases c2 : a.2 < M.2
      · have c1 : cr (d2 M b) (d2 M q) = 0 := (Int.mul_eq_zero.mp z2).resolve_left (by show ¬(M.2 - a.2 = 0); omega)
        exact s2 c1 (.inr ⟨eb.symm, l1⟩)
      · have ea : a.2 = M.2 := by omega
        unfold cr d2 at t
        rw [ea, eb] at t
        grind
/-- the count at a point: not zero just inside -/
theorem hull_count {us : List GP} (hu : Up us) (hne : us ≠ []) {z0 : GP} (h0 : (hull us)[0]? = some z0) (x y : Int) : wl (fun a b => crs a b x y) (hull us ++ [z0]) ≠ 0 ↔ Inside (hull us) (x, y) := by
  have ar := hull_around hu hne
  by_cases hl : us.length = 1
  · have e : hull us = us := if_pos hl
    obtain ⟨m, rfl⟩ := List.length_eq_one_iff.mp hl
    rw [e] at h0 ⊢
    cases h0
    constructor
    · intro h
      exfalso
      apply h
      show crs z0 z0 x y + 0 = 0
      rw [crs_up (Int.le_refl _)]
      unfold upI
      rw [if_neg (by omega)]
      rfl
    · rintro ⟨h, _⟩
      simp at h
  · have hl2 : 2 ≤ us.length := by
      have : us.length ≠ 0 := fun z => hne (List.length_eq_zero_iff.mp z)
      omega
    obtain ⟨m, M, rS, rT, h⟩ := two_of hu hne
    obtain ⟨kS, kT, mS, MT⟩ := h.mem hu hl2
    have he := h.eq hl
    have lS : 0 < rS.length := List.length_pos_of_mem mS
    have lT : 0 < rT.length := List.length_pos_of_mem MT
    have c10 : (M :: rS).reverse[0]? = some m := by rw [rev_0, h.cs.bot]
    have c20 : (m :: rT).reverse[0]? = some M := ngv.mpr (by rw [rev_0, h.ct.bot])
    have hA : rS.reverse[0]? = some m := by
      rw [List.reverse_cons, List.getElem?_append_left (by simpa using lS)] at c10
      exact c10
    have hB : rT.reverse[0]? = some M := by
      rw [List.reverse_cons, List.getElem?_append_left (by simpa using lT)] at c20
      exact c20
    have hz : z0 = m := by
      rw [he, List.getElem?_append_left (by simpa using lS), hA] at h0
      exact (Option.some.inj h0).symm
    subst hz
    have btM : bot z0 rT = M := by
      have := rev_0 rT z0
      rw [c20] at this
      exact (Option.some.inj this).symm
    obtain ⟨B, hBe⟩ : ∃ B, rT.reverse = M :: B := by
      cases e : rT.reverse with
      | nil => rw [e] at hB; cases hB
      | cons b B =>
        rw [e] at hB
        cases hB
        exact ⟨B, rfl⟩
    have split : wl (fun a b => crs a b x y) (hull us ++ [z0]) = upS (x, y) (M :: rS) + dnS (x, y) (z0 :: rT) := by
      rw [he, List.append_assoc, ← List.reverse_cons, ← wl_up rS M h.cs.conv, ← wl_dn rT z0 h.ct.conv]
      rw [List.reverse_cons (a := z0), hBe, List.cons_append, wl_app, ← List.reverse_cons]
    rw [split]
    obtain ⟨u1, u2⟩ := upS_edge (q := (x, y)) rS M h.cs.conv
    obtain ⟨v1, v2⟩ := dnS_edge (q := (x, y)) rT z0 h.ct.conv
    rw [h.cs.bot] at u1 u2
    rw [btM] at v1 v2
    have first : (hull us)[0]? = some z0 := h0
    have back : ∀ {q : GP}, q ∈ us → ng q ∈ us.map ng := fun {q} hq => List.mem_map.mpr ⟨q, hq, rfl⟩
    by_cases c : z0.2 ≤ y ∧ y < M.2
    · obtain ⟨i, a1, b1, p1, p2, p3, p4, p5⟩ := u1 c
      obtain ⟨j, a2, b2, r1, r2, r3, r4, r5⟩ := v1 c
      have hsub := h.sub hl
      have ma1 := hsub a1 (kS _ (List.mem_reverse.mp (List.mem_of_getElem? p1)))
      have mb1 := hsub b1 (kS _ (List.mem_reverse.mp (List.mem_of_getElem? p2)))
      have ma2 := hsub a2 (kT _ (List.mem_reverse.mp (List.mem_of_getElem? r1)))
      have mb2 := hsub b2 (kT _ (List.mem_reverse.mp (List.mem_of_getElem? r2)))
      have f1 : ∀ q ∈ us, 0 ≤ ori a1 b1 q := fun q hq => (h.cs.la q hq).at p1 p2
      have cross : ori a2 b2 (x, y) < 0 → 0 < ori a1 b1 (x, y) := fun z => by
        have k := slab (q := (x, y)) ⟨r3, r4⟩ (ori a1 b1) _ _ _ (ori_lin a1 b1) (f1 a2 ma2) (f1 b2 mb2)
        have d1 : 0 < b1.2 - a1.2 := by
          have : y < b1.2 := p4
          have : a1.2 ≤ y := p3
          omega
        have d2' : 0 < a2.2 - b2.2 := by
          have : y < a2.2 := r4
          have : b2.2 ≤ y := r3
          omega
        have n := Int.mul_neg_of_pos_of_neg d1 z
        refine pos_of' d2' ?_
        rw [Int.neg_mul] at k
        omega
      rw [p5, r5]
      constructor
      · intro hne'
        have o1 : 0 < ori a1 b1 (x, y) := by
          refine Int.not_le.mp fun z => hne' ?_
          rw [if_pos z]
          by_cases w : 0 ≤ ori a2 b2 (x, y)
          · rw [if_pos w]
            rfl
          · have := cross (by omega)
            omega
        have o2 : 0 ≤ ori a2 b2 (x, y) := by
          refine Int.not_lt.mp fun z => hne' ?_
          rw [if_neg (by omega), if_neg (by omega)]
          rfl
        have n3 : 3 ≤ (hull us).length := by
          rw [he, List.length_append, List.length_reverse, List.length_reverse]
          refine Nat.not_lt.mp fun z => ?_
          -- one edge there, the same edge back
          have l1 : rS.length = 1 := by omega
          have l2 : rT.length = 1 := by omega
          have g1 := (List.getElem?_eq_some_iff.mp p2).1
          have g2 := (List.getElem?_eq_some_iff.mp r2).1
          rw [List.length_reverse, List.length_cons] at g1 g2
          have i0 : i = 0 := by omega
          have j0 : j = 0 := by omega
          subst i0
          subst j0
          rw [c10] at p1
          rw [c20] at r1
          have t1 := rev_top rS M
          have t2 := rev_top rT z0
          rw [l1] at t1
          rw [l2] at t2
          rw [t1] at p2
          rw [t2] at r2
          cases p1
          cases p2
          cases r1
          cases r2
          rw [ori_swap] at o2
          omega
        exact ⟨n3, fun k a b hk ha hb => ar.inside ma1 mb1 ma2 mb2 (hsub M (kS M (.head _))) c.2 ⟨p3, p4⟩ ⟨r3, r4⟩ o1 o2 hk ha hb⟩
      · intro ins
        -- the two edges are edges of the hull
        have len : (hull us).length = rS.length + rT.length := by rw [he, List.length_append, List.length_reverse, List.length_reverse]
        have gi := (List.getElem?_eq_some_iff.mp p2).1
        have gj := (List.getElem?_eq_some_iff.mp r2).1
        rw [List.length_reverse, List.length_cons] at gi gj
        have e1 : (hull us)[i]? = some a1 := by
          rw [he, List.getElem?_append_left (by rw [List.length_reverse]; omega)]
          rw [List.reverse_cons, List.getElem?_append_left (by rw [List.length_reverse]; omega)] at p1
          exact p1
        have e2 : (hull us)[(i + 1) % (hull us).length]? = some b1 := by
          rw [Nat.mod_eq_of_lt (by omega), he]
          rcases Nat.lt_or_ge (i + 1) rS.length with w | w
          · rw [List.getElem?_append_left (by rw [List.length_reverse]; omega)]
            rw [List.reverse_cons, List.getElem?_append_left (by rw [List.length_reverse]; omega)] at p2
            exact p2
          · rw [List.getElem?_append_right (by rw [List.length_reverse]; omega), List.length_reverse, show i + 1 - rS.length = 0 by omega, hB]
            have t1 := rev_top rS M
            rw [show i + 1 = rS.length by omega, t1] at p2
            exact p2
        have e3 : (hull us)[rS.length + j]? = some a2 := by
          rw [he, List.getElem?_append_right (by rw [List.length_reverse]; omega), List.length_reverse, Nat.add_sub_cancel_left]
          rw [List.reverse_cons, List.getElem?_append_left (by rw [List.length_reverse]; omega)] at r1
          exact r1
        have e4 : (hull us)[(rS.length + j + 1) % (hull us).length]? = some b2 := by
          rcases Nat.lt_or_ge (j + 1) rT.length with w | w
          · rw [Nat.mod_eq_of_lt (by omega), he, List.getElem?_append_right (by rw [List.length_reverse]; omega), List.length_reverse, show rS.length + j + 1 - rS.length = j + 1 by omega]
            rw [List.reverse_cons, List.getElem?_append_left (by rw [List.length_reverse]; omega)] at r2
            exact r2
          · rw [show rS.length + j + 1 = (hull us).length by omega, Nat.mod_self, first]
            have t2 := rev_top rT z0
            rw [show j + 1 = rT.length by omega, t2] at r2
            exact r2
        obtain ⟨_, ins⟩ := ins
        have w1 := ins i a1 b1 (by omega) e1 e2
        have w2 := ins (rS.length + j) a2 b2 (by omega) e3 e4
        have o1 : 0 < ori a1 b1 (x, y) := by
          rcases Int.lt_or_le 0 (ori a1 b1 (x, y)) with z | z
          · exact z
          · exfalso
            refine w1.2 (by omega) (.inl ?_)
            have : y < b1.2 := p4
            have : a1.2 ≤ y := p3
            omega
        rw [if_neg (by omega), if_pos w2.1]
        decide
    · constructor
      · intro hne'
        exact absurd (by rw [u2 c, v2 c]; rfl) hne'
      · intro ins
        exfalso
        refine c (ins.between ar first h.lo ?_ h.hi)
        exact List.mem_iff_getElem?.mp (kS M (.head _))
theorem eqv_g (a b : GP) : PyData.eqv (gD a) (gD b) = decide (a = b) := by
  obtain ⟨a, a'⟩ := a
  obtain ⟨b, b'⟩ := b
  have e : PyData.eqv (gD (a, a')) (gD (b, b')) = ((a == b) && ((a' == b') && true)) := by simp only [gD, PyData.eqv, PyData.eqvAll]
  rw [e]
  by_cases h1 : a = b
  · by_cases h2 : a' = b'
    · rw [h1, h2]; simp
    · simp [h2]
  · simp [h1]
theorem z_eqG {K : PySem.W.Frag} {H : Hp} {Q : VK} {x y : V} {a b : GP} (h1 : Dp K H x (gD a)) (h2 : Dp K H y (gD b)) (q : Q (.bl (decide (a = b))) H) : rEqD K x y H Q := ⟨gD a, gD b, h1, h2, shaped_g a, shaped_g b, by rw [eqv_g]; exact q⟩
theorem z_neG {K : PySem.W.Frag} {H : Hp} {Q : VK} {x y : V} {a b : GP} (h1 : Dp K H x (gD a)) (h2 : Dp K H y (gD b)) (q : Q (.bl (decide (¬ a = b))) H) : rNeD K x y H Q := ⟨gD a, gD b, h1, h2, shaped_g a, shaped_g b, by rw [eqv_g, show (!decide (a = b)) = decide (¬ a = b) by simp]; exact q⟩
theorem abs_if (i : Int) : (if i < 0 then -i else i) = (i.natAbs : Int) := by split <;> omega
def sp__law_turn (K : PySem.W.Frag) : Sp := fun vs H Q _ => ∃ (u v w : V) (a b c : GP), vs = [u, v, w] ∧ Dp K H u (gD a) ∧ Dp K H v (gD b) ∧ Dp K H w (gD c) ∧ Gm a ∧ Gm b ∧ Gm c ∧ Q (.int (ori a b c)) H
section
theorem ok__law_turn {P : Program} {w : World} {K : PySem.W.Frag} {mg : Str → Option Value} {base : Heap} {A : Nat → Addr} {D : Nat → FuncData} (T : Txt K mg A D) : FnOk P w K mg base (L2.CX P w) 1 (A 40) (D 40) ["a", "b", "c"] (sp__law_turn K) := by
  refine T.F__law_turn.okX sc__law_turn (fun vs H Q E h => ?_) (fun cdv A' outer s H vs Q E hr h => ?_)
  · obtain ⟨u, v, w', a, b, c, rfl, _⟩ := h
    rfl
  obtain ⟨u, v, w', a, b, c, rfl, d1, d2, d3, ga, gb, gc, q⟩ := h
  refine ⟨_, (pss_one (ps_ret (pe_op op_sub (pe_op op_mulW (pe_op op_sub (pe_ix ix_tup (pv 1) pe_int (fun _ _ => rfl)) (pe_ix ix_tup (pv 0) pe_int (fun _ _ => rfl))) (pe_op op_sub (pe_ix ix_tup (pv 2) pe_int (fun _ _ => rfl)) (pe_ix ix_tup (pv 0) pe_int (fun _ _ => rfl)))) (pe_op op_mulW (pe_op op_sub (pe_ix ix_tup (pv 1) pe_int (fun _ _ => rfl)) (pe_ix ix_tup (pv 0) pe_int (fun _ _ => rfl))) (pe_op op_sub (pe_ix ix_tup (pv 2) pe_int (fun _ _ => rfl)) (pe_ix ix_tup (pv 0) pe_int (fun _ _ => rfl))))))), ?_⟩
  obtain ⟨p1, rfl, h1⟩ := dp_g d1
  obtain ⟨p2, rfl, h2⟩ := dp_g d2
  obtain ⟨p3, rfl, h3⟩ := dp_g d3
  walk_at "z"
  refine z_I (gm_mul (gm_sub gb.1 ga.1) (gm_sub gc.2 ga.2)) ?_
  walk_at "z"
  refine z_I (gm_mul (gm_sub gb.2 ga.2) (gm_sub gc.1 ga.1)) ?_
  walk_at "z"
  rw [show ori a b c = (b.1 - a.1) * (c.2 - a.2) - (b.2 - a.2) * (c.1 - a.1) from ori_cr2 a b c] at q
  exact q
end
def sp__law_is_next (K : PySem.W.Frag) : Sp := fun vs H Q _ => ∃ (u v w : V) (a b c : GP), vs = [u, v, w] ∧ Dp K H u (gD a) ∧ Dp K H v (gD b) ∧ Dp K H w (gD c) ∧ Gm a ∧ Gm b ∧ Gm c ∧ Q (.bl (decide (nxt a b c))) H
section
theorem ok__law_is_next {P : Program} {w : World} {K : PySem.W.Frag} {mg : Str → Option Value} {base : Heap} {A : Nat → Addr} {D : Nat → FuncData} (T : Txt K mg A D) : FnOk P w K mg base (L2.CX P w) 2 (A 41) (D 41) ["last", "best", "point"] (sp__law_is_next K) := by
  refine T.F__law_is_next.okX sc__law_is_next (fun vs H Q E h => ?_) (fun cdv A' outer s H vs Q E hr h => ?_)
  · obtain ⟨u, v, w', a, b, c, rfl, _⟩ := h
    rfl
  obtain ⟨u, v, w', a, b, c, rfl, d1, d2, d3, ga, gb, gc, q⟩ := h
  refine ⟨_, (pss_cons (ps_if (pt_cmpR (op_eqD hr.units) (pv 1) (pv 0) (nomark _))
  (pss_one (ps_ret pe_bl))
  pss_nil)
  (pss_cons (ps_set (i := 3) sc__law_is_next.nd rfl (.inl rfl) (pe_call (ok__law_turn T) (hr.mono (by decide)) (by rfl) T.m__law_turn T.F__law_turn.kp T.b__law_turn .nil (passes_call (takes_of rfl rfl rfl rfl) (fun _ _ _ _ h => h)) (pa_cons (pv 0) (pa_cons (pv 1) (pa_cons (pv 2) pa_nil)))))
  (pss_cons (ps_if (pt_cmpR op_ne (pv 3) pe_int (nomark _))
  (pss_one (ps_ret (pe_cmpR op_lt (pv 3) pe_int (nomark _))))
  pss_nil)
  (pss_cons (ps_set (i := 4) sc__law_is_next.nd rfl (.inl rfl) (pe_op op_add (pe_callB Z.c_abs (by rfl) T.z_abs (by decide +kernel) (pa_cons (pe_op op_sub (pe_ix ix_tup (pv 2) pe_int (fun _ _ => rfl)) (pe_ix ix_tup (pv 0) pe_int (fun _ _ => rfl))) pa_nil)) (pe_callB Z.c_abs (by rfl) T.z_abs (by decide +kernel) (pa_cons (pe_op op_sub (pe_ix ix_tup (pv 2) pe_int (fun _ _ => rfl)) (pe_ix ix_tup (pv 0) pe_int (fun _ _ => rfl))) pa_nil))))
  (pss_one (ps_ret (pe_cmpR op_gt (pv 4) (pe_op op_add (pe_callB Z.c_abs (by rfl) T.z_abs (by decide +kernel) (pa_cons (pe_op op_sub (pe_ix ix_tup (pv 1) pe_int (fun _ _ => rfl)) (pe_ix ix_tup (pv 0) pe_int (fun _ _ => rfl))) pa_nil)) (pe_callB Z.c_abs (by rfl) T.z_abs (by decide +kernel) (pa_cons (pe_op op_sub (pe_ix ix_tup (pv 1) pe_int (fun _ _ => rfl)) (pe_ix ix_tup (pv 0) pe_int (fun _ _ => rfl))) pa_nil))) (nomark _)))))))), ?_⟩
  walk_at "z"
  refine z_eqG d2 d1 ?_
  walk_at "z"
  refine z_if (fun k => ?_) (fun k => ?_)
  · walk_at "z"
    rw [show decide (nxt a b c) = true from decide_eq_true (.inl k)] at q
    exact q
  walk_at "z"
  refine ⟨u, v, w', a, b, c, rfl, d1, d2, d3, ga, gb, gc, ?_⟩
  walk_at "z"
  refine z_if (fun k2 => ?_) (fun k2 => ?_)
  · walk_at "z"
    rw [show decide (nxt a b c) = decide (ori a b c < 0) from decide_eq_decide.mpr ⟨fun h => h.elim (fun h => absurd h k) fun h => h.elim id fun h => absurd h.1 (by omega), fun h => .inr (.inl h)⟩] at q
    exact q
  obtain ⟨p1, rfl, h1⟩ := dp_g d1
  obtain ⟨p2, rfl, h2⟩ := dp_g d2
  obtain ⟨p3, rfl, h3⟩ := dp_g d3
  walk_at "z"
  rw [abs_if, abs_if, abs_if, abs_if]
  rw [show decide (nxt a b c) = decide (((b.1 - a.1).natAbs : Int) + ((b.2 - a.2).natAbs : Int) < ((c.1 - a.1).natAbs : Int) + ((c.2 - a.2).natAbs : Int)) from decide_eq_decide.mpr ⟨fun h => h.elim (fun h => absurd h k) fun h => h.elim (fun h => absurd h (by omega)) fun h => h.2, fun h => .inr (.inr ⟨by omega, h⟩)⟩] at q
  exact q
end
def sp__law_corners (K : PySem.W.Frag) : Sp := fun vs H Q _ => ∃ (p : Addr) (ws : List V) (zs us : List GP), vs = [.ref p] ∧ H p = some (.lst ws) ∧ Gs K H ws zs ∧ Up us ∧ us ≠ [] ∧ (∀ q, q ∈ us ↔ q ∈ zs) ∧ (∀ z ∈ zs, Gm z) ∧ zs.length ≤ 200 ∧
  ∀ q H' vs, H q = none → Same H H' → H' q = some (.lst vs) → Gs K H' vs (hull us) → Q (.ref q) H'
section
theorem ok__law_corners {P : Program} {w : World} {K : PySem.W.Frag} {mg : Str → Option Value} {base : Heap} {A : Nat → Addr} {D : Nat → FuncData} (T : Txt K mg A D) : FnOk P w K mg base (L2.CX P w) 3 (A 42) (D 42) ["points"] (sp__law_corners K) := by
  refine T.F__law_corners.okX sc__law_corners (fun vs H Q E h => ?_) (fun cdv A' outer s H vs Q E hr h => ?_)
  · obtain ⟨p, ws, zs, us, rfl, _⟩ := h
    rfl
  obtain ⟨p, ws, zs, us, rfl, hp, g, hup, hne, mem, gm, hl, q⟩ := h
  refine ⟨_, (pss_cons (ps_set (i := 1) sc__law_corners.nd rfl (.inl rfl) (pe_ix ix_list (pv 0) pe_int (fun _ _ => rfl)))
  (pss_cons (ps_for (passes_of rfl) rfl (pi_list (pv 0)) (pg_name (i := 2) sc__law_corners.nd rfl (.inl rfl))
  (pss_one (ps_if (pt_cmpR (op_ltT hr.units0) (pe_tup (pa_cons (pe_ix ix_tup (pv 2) pe_int (fun _ _ => rfl)) (pa_cons (pe_ix ix_tup (pv 2) pe_int (fun _ _ => rfl)) pa_nil))) (pe_tup (pa_cons (pe_ix ix_tup (pv 1) pe_int (fun _ _ => rfl)) (pa_cons (pe_ix ix_tup (pv 1) pe_int (fun _ _ => rfl)) pa_nil))) (nomark _))
  (pss_one (ps_set (i := 1) sc__law_corners.nd rfl (.inl rfl) (pv 2)))
  pss_nil)))
  (pss_cons (ps_set (i := 3) sc__law_corners.nd rfl (.inl rfl) (pe_lst (pa_cons (pv 1) pa_nil)))
  (pss_cons (ps_for (passes_of rfl) rfl (pi_range1 (by rfl) T.z_range (pa_cons (pe_callB Z.c_len (by rfl) T.z_len (by decide +kernel) (pa_cons (pv 0) pa_nil)) pa_nil)) (pg_name (i := 4) sc__law_corners.nd rfl (.inl rfl))
  (pss_cons (ps_set (i := 5) sc__law_corners.nd rfl (.inl rfl) (pe_ix ix_list (pv 3) (pe_op op_sub (pe_callB Z.c_len (by rfl) T.z_len (by decide +kernel) (pa_cons (pv 3) pa_nil)) pe_int) (fun _ _ => rfl)))
  (pss_cons (ps_set (i := 6) sc__law_corners.nd rfl (.inl rfl) (pv 5))
  (pss_cons (ps_for (passes_of rfl) rfl (pi_list (pv 0)) (pg_name (i := 2) sc__law_corners.nd rfl (.inl rfl))
  (pss_one (ps_if (PW.pt (pw_and (pt_cmpR (op_neD hr.units) (pv 2) (pv 5) (nomark _)) (pw_and1 (pt_val (pe_call (ok__law_is_next T) (hr.mono (by decide)) (by rfl) T.m__law_is_next T.F__law_is_next.kp T.b__law_is_next .nil (passes_call (takes_of rfl rfl rfl rfl) (fun _ _ _ _ h => h)) (pa_cons (pv 5) (pa_cons (pv 6) (pa_cons (pv 2) pa_nil))))))))
  (pss_one (ps_set (i := 6) sc__law_corners.nd rfl (.inl rfl) (pv 2)))
  pss_nil)))
  (pss_cons (ps_if (PW.pt (pw_or (pt_cmpR (op_eqD hr.units) (pv 6) (pv 5) (nomark _)) (pw_or1 (pt_cmpR (op_eqD hr.units) (pv 6) (pv 1) (nomark _)))))
  (pss_one ps_break)
  pss_nil)
  (pss_one (ps_expr (pe_bm PySem.F.plainAttrs_list PySem.F.slot_list_append PySem.F.type_list_append mt_append (pv 3) (pa_cons (pv 6) pa_nil)))))))))
  (pss_one (ps_ret (pv 3))))))), ?_⟩
  have lw := g.len
  have ar := hull_around hup hne
  have pos : 0 < (hull us).length := List.length_pos_iff.mpr ar.ne
  have lh : (hull us).length ≤ zs.length := Sc.nodup_len ar.nodup fun x hx => (mem x).mp (ar.sub x hx)
  obtain ⟨z0, hz0⟩ : ∃ z, zs[0]? = some z := ⟨_, List.getElem?_eq_getElem (show 0 < zs.length by omega)⟩
  obtain ⟨v0, hv0, d0⟩ := g.get hz0
  have hat0 : atI ws 0 = some v0 := nat_idx (k := 0) hv0
  walk_at "z"
  refine z_ixL (.inl (.inl hp)) hat0 ?_
  walk_at "z"
  refine z_forL (fun R q => by walk_at "z"; exact q) (.inl (.inl hp)) (fun i σ' H' => Same H H' ∧ ∃ (v : V) (m : GP) (w2 : Option V), σ' = [some (.ref p), some v, w2, none, none, none, none] ∧ Dp K H' v (gD m) ∧ m ∈ zs ∧ ∀ z ∈ zs.take i, z = m ∨ lx m z) ⟨Same.refl _, v0, z0, _, rfl, d0, List.mem_of_getElem? hz0, fun z hz => by simp at hz⟩ (fun i σ' H' _ h => .inl (.inl (h.1 _ _ hp))) ?_ ?_
  · rintro i x σ' H1 hx ⟨s1, v, m, w2, rfl, dv, hm, low⟩
    obtain ⟨c, hc, dc⟩ := (g.mono s1).getv hx
    obtain ⟨pc, rfl, hpc⟩ := dp_g dc
    obtain ⟨pv, rfl, hpv⟩ := dp_g dv
    have tk : zs.take (i + 1) = zs.take i ++ [c] := by rw [List.take_add_one, hc]; rfl
    walk_at "z"
    intro t1 H2 f2 s2 h2
    have hpv2 := Z.seqT s2 hpv
    walk_at "z"
    intro t2 H3 f3 s3 h3
    have s13 := (s1.trans s2).trans s3
    have s23 := s2.trans s3
    refine z_ltP (s3 _ _ h2) h3 ?_
    walk_at "z"
    refine z_if (fun k => ?_) (fun k => ?_)
    · walk_at "z"
      refine ⟨s13, _, c, _, rfl, dp_mono s23 dc, List.mem_of_getElem? hc, fun z hz => ?_⟩
      rw [tk] at hz
      have l : lx c m := k
      rcases List.mem_append.mp hz with h | h
      · rcases low z h with e | e
        · rw [e]
          exact .inr l
        · exact .inr (lx_trans l e)
      · exact .inl (List.mem_singleton.mp h)
    · walk_at "z"
      refine ⟨s13, _, m, _, rfl, dp_mono s23 dv, hm, fun z hz => ?_⟩
      rw [tk] at hz
      rcases List.mem_append.mp hz with h | h
      · exact low z h
      · rw [List.mem_singleton.mp h]
        rcases lx_tri c m with l | l | l
        · exact absurd l k
        · exact .inl l
        · exact .inr l
  rintro σ' H1 ⟨s1, vf, m, w2, rfl, dvf, hm, low⟩
  rw [lw, List.take_length] at low
  have hfirst : (hull us)[0]? = some m := by
    obtain ⟨a, ha⟩ : ∃ z, (hull us)[0]? = some z := ⟨_, List.getElem?_eq_getElem pos⟩
    have am := (mem a).mp (ar.sub a (List.mem_of_getElem? ha))
    rcases low a am with e | e
    · rw [ha, e]
    · rcases ar.first a ha m ((mem m).mpr hm) with e' | e'
      · rw [ha, e']
      · exact (lx_irr (lx_trans e e')).elim
  have g1 := g.mono s1
  have hp1 := s1 _ _ hp
  walk_at "z"
  intro fo H2 f2 s2 h2
  have s12 := s1.trans s2
  have fHo : H fo = none := fresh_of s1 f2
  have hp2 := s2 _ _ hp1
  walk_at "z"
  refine z_forR1 zs.length (by omega) (fun R q => by walk_at "z"; rw [lw]; exact q) (fun i σ' H' => i < (hull us).length ∧ Same H1 H' ∧ ∃ (vs : List V) (w2 w4 w5 w6 : Option V), σ' = [some (.ref p), some vf, w2, some (.ref fo), w4, w5, w6] ∧ H' fo = some (.lst vs) ∧ Gs K H' vs ((hull us).take (i + 1)))
    ⟨pos, s2, [vf], _, _, _, _, rfl, h2, ?_⟩ ?_ ?_
  · rw [List.take_add_one, hfirst]
    exact ⟨dp_mono s2 dvf, trivial⟩
  · rintro i σ' H3 hi ⟨hih, s3, vs, w2, w4, w5, w6, rfl, h3, g3⟩
    have lv := g3.len
    rw [List.length_take, Nat.min_eq_left (by omega)] at lv
    obtain ⟨a, ha⟩ : ∃ z, (hull us)[i]? = some z := ⟨_, List.getElem?_eq_getElem hih⟩
    obtain ⟨b, hb⟩ : ∃ z, (hull us)[(i + 1) % (hull us).length]? = some z := ⟨_, List.getElem?_eq_getElem (Nat.mod_lt _ pos)⟩
    obtain ⟨va, hva, dva⟩ := g3.get (i := i) (z := a) (by rw [List.getElem?_take, if_pos (by omega)]; exact ha)
    have step := wrap_step (zs := zs) ar (fun x => (mem x).symm) hih ha hb
    have ga := gm a ((mem a).mp (ar.sub a (List.mem_of_getElem? ha)))
    walk_at "z"
    refine z_ixL (.inl (.inl h3)) (show atI vs ((vs.length : Int) - 1) = some va from by
      have := nat_idx hva
      rw [show (vs.length : Int) - 1 = ((i : Nat) : Int) by rw [lv]; omega]
      exact this) ?_
    have g13 := g1.mono s3
    have hp3 := s3 _ _ hp1
    walk_at "z"
    refine z_forL (fun R q => by walk_at "z"; exact q) (.inl (.inl hp3)) (fun j σ' H' => H' = H3 ∧ ∃ (vb : V) (w2 : Option V), σ' = [some (.ref p), some vf, w2, some (.ref fo), some (.int (i : Int)), some va, some vb] ∧ Dp K H3 vb (gD (pick a a (zs.take j)))) ⟨rfl, va, _, rfl, dva⟩ (fun j σ' H' _ h => by rw [h.1]; exact .inl (.inl hp3)) ?_ ?_
    · rintro j x σ' H4 hx ⟨rfl, vb, w2, rfl, db⟩
      obtain ⟨c, hc, dc⟩ := g13.getv hx
      have tk : zs.take (j + 1) = zs.take j ++ [c] := by rw [List.take_add_one, hc]; rfl
      have gb : Gm (pick a a (zs.take j)) := by
        rcases pick_in a (zs.take j) a with e | e
        · rw [e]
          exact ga
        · exact gm _ (List.mem_of_mem_take e.1)
      rw [tk, pick_app]
      walk_at "z"
      refine z_neG dc dva ?_
      walk_at "z"
      refine z_if (fun k => ?_) (fun k => ?_)
      · walk_at "z"
        refine ⟨va, vb, x, a, _, c, rfl, dva, db, dc, ga, gb, gm c (List.mem_of_getElem? hc), ?_⟩
        walk_at "z"
        refine z_if (fun k2 => ?_) (fun k2 => ?_)
        · walk_at "z"
          exact ⟨rfl, x, _, rfl, by rw [if_pos ⟨k, k2⟩]; exact dc⟩
        · walk_at "z"
          exact ⟨rfl, vb, _, rfl, by rw [if_neg (fun h => k2 h.2)]; exact db⟩
      · walk_at "z"
        exact ⟨rfl, vb, _, rfl, by rw [if_neg (fun h => k h.1)]; exact db⟩
    · rintro σ' H4 ⟨rfl, vb, w2, rfl, db⟩
      rw [lw, List.take_length, step] at db
      have dvf4 := dp_mono s3 dvf
      walk_at "z"
      refine z_eqG db dva ?_
      walk_at "z"
      -- the last corner is found
      have fin : i + 1 = (hull us).length → Gs K H4 vs (hull us) := fun e => by
        have := g3
        rw [List.take_of_length_le (by omega)] at this
        exact this
      have sH4 := s1.trans s3
      refine z_if (fun k => ?_) (fun k => ?_)
      · walk_at "z"
        refine q fo H4 vs fHo sH4 h3 (fin ?_)
        by_cases e : i = (i + 1) % (hull us).length
        · rcases Nat.lt_or_ge (i + 1) (hull us).length with c | c
          · rw [Nat.mod_eq_of_lt c] at e
            omega
          · omega
        · exact absurd k.symm (cyc_ne ar.nodup ha hb e)
      walk_at "z"
      refine z_eqG db dvf4 ?_
      walk_at "z"
      refine z_if (fun k2 => ?_) (fun k2 => ?_)
      · walk_at "z"
        refine q fo H4 vs fHo sH4 h3 (fin ?_)
        by_cases e : (i + 1) % (hull us).length = 0
        · rcases Nat.lt_or_ge (i + 1) (hull us).length with c | c
          · rw [Nat.mod_eq_of_lt c] at e
            omega
          · omega
        · exact absurd k2 (cyc_ne ar.nodup hb hfirst e)
      have hlt : i + 1 < (hull us).length := by
        refine Nat.not_le.mp fun c => k2 ?_
        rw [show i + 1 = (hull us).length by omega, Nat.mod_self, hfirst] at hb
        exact (Option.some.inj hb).symm
      rw [Nat.mod_eq_of_lt hlt] at hb
      walk_at "z"
      refine z_bmL (fun R q => by walk_at "z"; exact q) h3 ?_
      walk_at "z"
      refine z_append h3 (by omega) ?_
      have kk : Kp fo H4 (upd H4 fo (.lst (vs ++ [vb]))) := fun b o hb e => by
        rw [upd_ne hb]
        exact e
      refine ⟨hlt, fun y o h => ?_, vs ++ [vb], _, _, _, _, rfl, upd_same, ?_⟩
      · rw [upd_ne (ne_of_none h f2)]
        exact s3 _ _ h
      · rw [List.take_add_one, hb]
        exact Gs.kp kk h3 (g3.app (gs_one db))
  · rintro σ' H3 ⟨hih, _⟩
    omega
end
def sp__law_is_inside (K : PySem.W.Frag) : Sp := fun vs H Q _ => ∃ (p : Addr) (ws : List V) (h : List GP) (x y : Int), vs = [.ref p, .int x, .int y] ∧ H p = some (.lst ws) ∧ Gs K H ws h ∧ (∀ z ∈ h, Gm z) ∧ Gm (x, y) ∧ h.length ≤ 200 ∧
  ∀ t H', Same H H' → (t = true ↔ Inside h (x, y)) → Q (.bl t) H'
section
theorem ok__law_is_inside {P : Program} {w : World} {K : PySem.W.Frag} {mg : Str → Option Value} {base : Heap} {A : Nat → Addr} {D : Nat → FuncData} (T : Txt K mg A D) : FnOk P w K mg base (L2.CX P w) 2 (A 43) (D 43) ["hull", "x", "y"] (sp__law_is_inside K) := by
  refine T.F__law_is_inside.okX sc__law_is_inside (fun vs H Q E h => ?_) (fun cdv A' outer s H vs Q E hr h => ?_)
  · obtain ⟨p, ws, h, x, y, rfl, _⟩ := h
    rfl
  obtain ⟨p, ws, h, x, y, rfl, hp, g, gm, gq, hl, q⟩ := h
  refine ⟨_, (pss_cons (ps_if (pt_cmpR op_lt (pe_callB Z.c_len (by rfl) T.z_len (by decide +kernel) (pa_cons (pv 0) pa_nil)) pe_int (nomark _))
  (pss_one (ps_ret pe_bl))
  pss_nil)
  (pss_cons (ps_for (passes_of rfl) rfl (pi_range1 (by rfl) T.z_range (pa_cons (pe_callB Z.c_len (by rfl) T.z_len (by decide +kernel) (pa_cons (pv 0) pa_nil)) pa_nil)) (pg_name (i := 3) sc__law_is_inside.nd rfl (.inl rfl))
  (pss_cons (ps_set (i := 4) sc__law_is_inside.nd rfl (.inl rfl) (pe_ix ix_list (pv 0) (pe_op op_sub (pv 3) pe_int) (fun _ _ => rfl)))
  (pss_cons (ps_set (i := 5) sc__law_is_inside.nd rfl (.inl rfl) (pe_ix ix_list (pv 0) (pv 3) (fun _ _ => rfl)))
  (pss_cons (ps_set (i := 6) sc__law_is_inside.nd rfl (.inl rfl) (pe_call (ok__law_turn T) (hr.mono (by decide)) (by rfl) T.m__law_turn T.F__law_turn.kp T.b__law_turn .nil (passes_call (takes_of rfl rfl rfl rfl) (fun _ _ _ _ h => h)) (pa_cons (pv 4) (pa_cons (pv 5) (pa_cons (pe_tup (pa_cons (pv 1) (pa_cons (pv 2) pa_nil))) pa_nil)))))
  (pss_cons (ps_if (pt_cmpR op_lt (pv 6) pe_int (nomark _))
  (pss_one (ps_ret pe_bl))
  pss_nil)
  (pss_one (ps_if (PW.pt (pw_and (pt_cmpR op_eq (pv 6) pe_int (nomark _)) (pw_and1 (PW.pt (pw_or (pt_cmpR op_gt (pe_ix ix_tup (pv 5) pe_int (fun _ _ => rfl)) (pe_ix ix_tup (pv 4) pe_int (fun _ _ => rfl)) (nomark _)) (pw_or1 (PW.pt (pw_and (pt_cmpR op_eq (pe_ix ix_tup (pv 5) pe_int (fun _ _ => rfl)) (pe_ix ix_tup (pv 4) pe_int (fun _ _ => rfl)) (nomark _)) (pw_and1 (pt_cmpR op_lt (pe_ix ix_tup (pv 5) pe_int (fun _ _ => rfl)) (pe_ix ix_tup (pv 4) pe_int (fun _ _ => rfl)) (nomark _)))))))))))
  (pss_one (ps_ret pe_bl))
  pss_nil)))))))
  (pss_one (ps_ret pe_bl)))), ?_⟩
  have lw := g.len
  walk_at "z"
  refine z_if (fun k => ?_) (fun k => ?_)
  · walk_at "z"
    refine q false H (Same.refl _) ⟨fun e => absurd e (by decide), fun e => ?_⟩
    have := e.1
    rw [lw] at k
    omega
  have n3 : 3 ≤ h.length := by rw [lw] at k; omega
  walk_at "z"
  refine z_forR1 h.length (by omega) (fun R q => by walk_at "z"; rw [lw]; exact q) (fun i σ' H' => Same H H' ∧ (∀ k a b, k < i → h[(k + (h.length - 1)) % h.length]? = some a → h[k]? = some b → 0 ≤ ori a b (x, y) ∧ (ori a b (x, y) = 0 → ¬(a.2 < b.2 ∨ (a.2 = b.2 ∧ b.1 < a.1)))) ∧ ∃ w3 w4 w5 w6 : Option V, σ' = [some (.ref p), some (.int x), some (.int y), w3, w4, w5, w6]) ⟨Same.refl _, fun k _ _ hk => absurd hk (Nat.not_lt_zero _), _, _, _, _, rfl⟩ ?_ ?_
  · rintro i σ' H1 hi ⟨s1, ok, w3, w4, w5, w6, rfl⟩
    have g1 := g.mono s1
    have hp1 := s1 _ _ hp
    obtain ⟨a, ha⟩ : ∃ c, h[(i + (h.length - 1)) % h.length]? = some c := ⟨_, List.getElem?_eq_getElem (Nat.mod_lt _ (by omega))⟩
    obtain ⟨b, hb⟩ : ∃ c, h[i]? = some c := ⟨_, List.getElem?_eq_getElem hi⟩
    obtain ⟨va, hva, da⟩ := g1.get ha
    obtain ⟨vb, hvb, db⟩ := g1.get hb
    obtain ⟨pa, rfl, hpa⟩ := dp_g da
    obtain ⟨pb, rfl, hpb⟩ := dp_g db
    have i1 : ((i + (h.length - 1)) % h.length + 1) % h.length = i := by
      rw [Nat.mod_add_mod, show i + (h.length - 1) + 1 = i + h.length by omega, Nat.add_mod_right, Nat.mod_eq_of_lt hi]
    have hat : atI ws ((i : Int) - 1) = some (.ref pa) := by
      cases i with
      | zero =>
        rw [Nat.zero_add, Nat.mod_eq_of_lt (by omega)] at hva
        have e : ixN ws.length ((0 : Nat) - 1 : Int) = some (h.length - 1) := by
          rw [lw]
          unfold ixN
          simp
          omega
        unfold atI
        rw [e]
        simpa using hva
      | succ j =>
        rw [show j + 1 + (h.length - 1) = j + h.length by omega, Nat.add_mod_right, Nat.mod_eq_of_lt (by omega)] at hva
        rw [show ((j + 1 : Nat) : Int) - 1 = (j : Int) by omega]
        exact nat_idx hva
    have no : ∀ {H'}, ¬(0 ≤ ori a b (x, y) ∧ (ori a b (x, y) = 0 → ¬(a.2 < b.2 ∨ (a.2 = b.2 ∧ b.1 < a.1)))) → Same H H' → Q (.bl false) H' := fun hn s => q false _ s ⟨fun e => absurd e (by decide), fun e => absurd (e.2 _ a b (Nat.mod_lt _ (by omega)) ha (by rw [i1]; exact hb)) hn⟩
    walk_at "z"
    refine z_ixL (.inl (.inl hp1)) hat ?_
    walk_at "z"
    refine z_ixL (.inl (.inl hp1)) (nat_idx hvb) ?_
    walk_at "z"
    intro t H2 f2 s2 h2
    have s12 := s1.trans s2
    have hpa2 := Z.seqT s2 hpa
    have hpb2 := Z.seqT s2 hpb
    refine ⟨_, _, _, a, b, (x, y), rfl, dp_mono s2 da, dp_mono s2 db, dp_mkg h2, gm a (List.mem_of_getElem? ha), gm b (List.mem_of_getElem? hb), gq, ?_⟩
    walk_at "z"
    refine z_if (fun k => ?_) (fun k => ?_)
    · walk_at "z"
      exact no (fun h => by omega) s12
    walk_at "z"
    -- the three tests
    have step : (0 ≤ ori a b (x, y) ∧ (ori a b (x, y) = 0 → ¬(a.2 < b.2 ∨ (a.2 = b.2 ∧ b.1 < a.1)))) → ∀ k a b, k < i + 1 → h[(k + (h.length - 1)) % h.length]? = some a → h[k]? = some b → 0 ≤ ori a b (x, y) ∧ (ori a b (x, y) = 0 → ¬(a.2 < b.2 ∨ (a.2 = b.2 ∧ b.1 < a.1))) := fun hyes k a' b' hk ha' hb' => by
      rcases Nat.lt_or_ge k i with c | c
      · exact ok k a' b' c ha' hb'
      · have : k = i := by omega
        subst this
        rw [ha] at ha'
        rw [hb] at hb'
        cases ha'
        cases hb'
        exact hyes
    refine z_if (fun k2 => ?_) (fun k2 => ?_)
    · walk_at "z"
      refine z_if (fun k3 => ?_) (fun k3 => ?_)
      · walk_at "z"
        exact no (fun h => h.2 k2 (.inl k3)) s12
      walk_at "z"
      refine z_if (fun k4 => ?_) (fun k4 => ?_)
      · walk_at "z"
        refine z_if (fun k5 => ?_) (fun k5 => ?_)
        · walk_at "z"
          exact no (fun h => h.2 k2 (.inr ⟨k4.symm, k5⟩)) s12
        · walk_at "z"
          exact ⟨s12, step ⟨by omega, fun _ => by omega⟩, _, _, _, _, rfl⟩
      · walk_at "z"
        exact ⟨s12, step ⟨by omega, fun _ => by omega⟩, _, _, _, _, rfl⟩
    · walk_at "z"
      exact ⟨s12, step ⟨by omega, fun e => absurd e k2⟩, _, _, _, _, rfl⟩
  · rintro σ' H1 ⟨s1, ok, w3, w4, w5, w6, rfl⟩
    walk_at "z"
    refine q true H1 s1 ⟨fun _ => ⟨n3, fun k a b hk ha hb => ?_⟩, fun _ => rfl⟩
    refine ok ((k + 1) % h.length) a b (Nat.mod_lt _ (by omega)) ?_ hb
    rw [Nat.mod_add_mod, show k + 1 + (h.length - 1) = k + h.length by omega, Nat.add_mod_right, Nat.mod_eq_of_lt hk]
    exact ha
end
/-- the rows, and the pixels inside -/
def Mk (h : List GP) (f f' : Nat → Nat → Int) (r c : Nat) : Prop := (f r c = 0 ∧ Inside h (Xc (c : Int), Yr (r : Int)) → f' r c = 1) ∧ (¬(f r c = 0 ∧ Inside h (Xc (c : Int), Yr (r : Int))) → f' r c = f r c)
theorem Mk.of {h : List GP} {f f' g' : Nat → Nat → Int} {r c : Nat} (k : Mk h f f' r c) (e : g' r c = f' r c) : Mk h f g' r c := by
  unfold Mk at *
  rw [e]
  exact k
theorem Mk.yes {h : List GP} {f g' : Nat → Nat → Int} {r c : Nat} (k : f r c = 0 ∧ Inside h (Xc (c : Int), Yr (r : Int))) (e : g' r c = 1) : Mk h f g' r c := ⟨fun _ => e, fun n => absurd k n⟩
def sp__law_mark (K : PySem.W.Frag) : Sp := fun vs H Q _ => ∃ (R p : Addr) (as : List Addr) (f : Nat → Nat → Int) (H0 : Hp) (ws : List V) (us : List GP), vs = [.ref R, .ref p] ∧ OwRows H0 H R as f ∧ Same H0 H ∧ p ∉ as ∧ H p = some (.lst ws) ∧ Gs K H ws (hull us) ∧ Up us ∧ us ≠ [] ∧ (∀ z ∈ hull us, Gm z) ∧ (hull us).length ≤ 200 ∧
  ∀ H' f', Same H0 H' → OwRows H0 H' R as f' → (∀ r c, r < 48 → c < 48 → Mk (hull us) f f' r c) → Q .non H'
section
theorem ok__law_mark {P : Program} {w : World} {K : PySem.W.Frag} {mg : Str → Option Value} {base : Heap} {A : Nat → Addr} {D : Nat → FuncData} (T : Txt K mg A D) : FnOk P w K mg base (L2.CX P w) 3 (A 44) (D 44) ["rows", "hull"] (sp__law_mark K) := by
  refine T.F__law_mark.okX sc__law_mark (fun vs H Q E h => ?_) (fun cdv A' outer s H vs Q E hr h => ?_)
  · obtain ⟨R, p, as, f, H0, ws, us, rfl, _⟩ := h
    rfl
  obtain ⟨R, p, as, f, H0, ws, us, rfl, ow, s0, np, hp, g, hup, hne, gm, hl, q⟩ := h
  refine ⟨_, (pss_cons (ps_set (i := 2) sc__law_mark.nd rfl (.inl rfl) (pe_ix ix_tup (pe_ix ix_list (pv 1) pe_int (fun _ _ => rfl)) pe_int (fun _ _ => rfl)))
  (pss_cons (ps_set (i := 3) sc__law_mark.nd rfl (.inl rfl) (pv 2))
  (pss_cons (ps_for (passes_of rfl) rfl (pi_list (pv 1)) (pg_name (i := 4) sc__law_mark.nd rfl (.inl rfl))
  (pss_one (ps_if (pt_cmpR op_gt (pe_ix ix_tup (pv 4) pe_int (fun _ _ => rfl)) (pv 3) (nomark _))
  (pss_one (ps_set (i := 3) sc__law_mark.nd rfl (.inl rfl) (pe_ix ix_tup (pv 4) pe_int (fun _ _ => rfl))))
  pss_nil)))
  (pss_one (ps_for (passes_of rfl) rfl (pi_range1 (by rfl) T.z_range (pa_cons pe_int pa_nil)) (pg_name (i := 5) sc__law_mark.nd rfl (.inl rfl))
  (pss_cons (ps_set (i := 6) sc__law_mark.nd rfl (.inl rfl) (pe_op op_add (pe_op op_mul pe_int (pe_op op_sub (pv 5) pe_int)) pe_int))
  (pss_one (ps_if (PW.pt (pw_and (pt_cmpR op_le (pv 2) (pv 6) (nomark _)) (pw_and1 (pt_cmpR op_le (pv 6) (pv 3) (nomark _)))))
  (pss_one (ps_for (passes_of rfl) rfl (pi_range1 (by rfl) T.z_range (pa_cons pe_int pa_nil)) (pg_name (i := 7) sc__law_mark.nd rfl (.inl rfl))
  (pss_one (ps_if (PW.pt (pw_and (pt_cmpR op_eq (pe_ix ix_list (pe_ix ix_list (pv 0) (pv 5) (fun _ _ => rfl)) (pv 7) (fun _ _ => rfl)) pe_int (nomark _)) (pw_and1 (pt_val (pe_call (ok__law_is_inside T) (hr.mono (by decide)) (by rfl) T.m__law_is_inside T.F__law_is_inside.kp T.b__law_is_inside .nil (passes_call (takes_of rfl rfl rfl rfl) (fun _ _ _ _ h => h)) (pa_cons (pv 1) (pa_cons (pe_op op_add (pe_op op_mul pe_int (pe_op op_sub (pv 7) pe_int)) pe_int) (pa_cons (pv 6) pa_nil))))))))
  (pss_one (ps_asg pe_int (pg_sub (pe_ix ix_list (pv 0) (pv 5) (fun _ _ => rfl)) (pv 7) set_list)))
  pss_nil))))
  pss_nil)))))))), ?_⟩
  have lw := g.len
  have ar := hull_around hup hne
  have pos : 0 < (hull us).length := List.length_pos_iff.mpr ar.ne
  obtain ⟨m, hm⟩ : ∃ z, (hull us)[0]? = some z := ⟨_, List.getElem?_eq_getElem pos⟩
  obtain ⟨vm, hvm, dm⟩ := g.get hm
  obtain ⟨pm, rfl, hpm⟩ := dp_g dm
  have gmm := gm m (List.mem_of_getElem? hm)
  have hat0 : atI ws 0 = some (.ref pm) := nat_idx (k := 0) hvm
  walk_at "z"
  refine z_ixL (.inl (.inl hp)) hat0 ?_
  walk_at "z"
  refine z_forL (fun R q => by walk_at "z"; exact q) (.inl (.inl hp)) (fun i σ' H' => H' = H ∧ ∃ (y : Int) (w4 w5 w6 w7 : Option V), σ' = [some (.ref R), some (.ref p), some (.int m.2), some (.int y), w4, w5, w6, w7] ∧ y.natAbs ≤ 10000000000000 ∧ ∀ z ∈ (hull us).take i, z.2 ≤ y) ⟨rfl, m.2, _, _, _, _, rfl, gmm.2, fun z hz => by simp at hz⟩ (fun i σ' H' _ h => by rw [h.1]; exact .inl (.inl hp)) ?_ ?_
  · rintro i x σ' H1 hx ⟨rfl, y, w4, w5, w6, w7, rfl, hy, top⟩
    obtain ⟨c, hc, dc⟩ := g.getv hx
    obtain ⟨pc, rfl, hpc⟩ := dp_g dc
    have gc := gm c (List.mem_of_getElem? hc)
    have tk : (hull us).take (i + 1) = (hull us).take i ++ [c] := by rw [List.take_add_one, hc]; rfl
    walk_at "z"
    refine z_if (fun k => ?_) (fun k => ?_)
    · walk_at "z"
      refine ⟨rfl, c.2, _, _, _, _, rfl, gc.2, fun z hz => ?_⟩
      rw [tk] at hz
      rcases List.mem_append.mp hz with h | h
      · have := top z h
        omega
      · rw [List.mem_singleton.mp h]
        exact Int.le_refl _
    · walk_at "z"
      refine ⟨rfl, y, _, _, _, _, rfl, hy, fun z hz => ?_⟩
      rw [tk] at hz
      rcases List.mem_append.mp hz with h | h
      · exact top z h
      · rw [List.mem_singleton.mp h]
        omega
  rintro σ' H1 ⟨rfl, y, w4, w5, w6, w7, rfl, hy, top⟩
  rw [lw, List.take_length] at top
  -- inside only between
  have btw : ∀ x q2 : Int, Inside (hull us) (x, q2) → m.2 ≤ q2 ∧ q2 ≤ y := fun x q2 ins => by
    obtain ⟨_, M, Mh, hM⟩ := hull_lohi hup hne
    have := ins.between ar hm (ar.first m hm) (List.mem_iff_getElem?.mp Mh) hM
    have := top M Mh
    show m.2 ≤ (x, q2).2 ∧ (x, q2).2 ≤ y
    omega
  walk_at "z"
  have yr : ∀ r : Nat, 64 * ((r : Int) - 16) + 32 = Yr (r : Int) := fun r => by
    unfold Yr
    omega
  have xc : ∀ c : Nat, 64 * ((c : Int) - 8) + 32 = Xc (c : Int) := fun c => by
    unfold Xc
    omega
  refine z_forR1 48 (by decide) (fun R q => by walk_at "z"; exact q) (fun r σ' H' => ∃ (f' : Nat → Nat → Int) (w5 w6 w7 : Option V), σ' = [some (.ref R), some (.ref p), some (.int m.2), some (.int y), w4, w5, w6, w7] ∧ Same H0 H' ∧ OwRows H0 H' R as f' ∧ H' p = some (.lst ws) ∧ Gs K H' ws (hull us) ∧
    (∀ i c, i < r → c < 48 → Mk (hull us) f f' i c) ∧ ∀ i c, r ≤ i → f' i c = f i c) ⟨f, _, _, _, rfl, s0, ow, hp, g, fun i c hi => absurd hi (Nat.not_lt_zero _), fun _ _ _ => rfl⟩ ?_ ?_
  · rintro r σ' H2 hr ⟨f', w5, w6, w7, rfl, s2, ow2, hp2, g2, done', rest⟩
    -- a row that is left as it is
    have skip : (∀ c : Nat, c < 48 → ¬Inside (hull us) (Xc (c : Int), Yr (r : Int))) → (∀ i c, i < r + 1 → c < 48 → Mk (hull us) f f' i c) ∧ ∀ i c, r + 1 ≤ i → f' i c = f i c := fun no => ⟨fun i c hi hc => by
      rcases Nat.lt_or_ge i r with z | z
      · exact done' i c z hc
      · have : i = r := by omega
        subst this
        exact ⟨fun h => absurd h.2 (no c hc), fun _ => rest i c (Nat.le_refl _)⟩, fun i c hi => rest i c (by omega)⟩
    walk_at "z"
    rw [yr]
    refine z_if (fun k => ?_) (fun k => ?_)
    · walk_at "z"
      refine z_if (fun k2 => ?_) (fun k2 => ?_)
      · walk_at "z"
        refine z_forR1 48 (by decide) (fun R q => by walk_at "z"; exact q) (fun c σ' H' => ∃ (f' : Nat → Nat → Int) (w7 : Option V), σ' = [some (.ref R), some (.ref p), some (.int m.2), some (.int y), w4, some (.int (r : Int)), some (.int (Yr (r : Int))), w7] ∧ Same H0 H' ∧ OwRows H0 H' R as f' ∧ H' p = some (.lst ws) ∧ Gs K H' ws (hull us) ∧
          (∀ i c, i < r → c < 48 → Mk (hull us) f f' i c) ∧ (∀ j, j < c → Mk (hull us) f f' r j) ∧ (∀ j, c ≤ j → f' r j = f r j) ∧ ∀ i c, r + 1 ≤ i → f' i c = f i c) ⟨f', _, rfl, s2, ow2, hp2, g2, done', fun j hj => absurd hj (Nat.not_lt_zero _), fun j _ => rest r j (Nat.le_refl _), fun i c hi => rest i c (by omega)⟩ ?_ ?_
        · rintro c σ' H3 hc ⟨f', w7, rfl, s3, ow3, hp3, g3, d1, d2, d3, d4⟩
          obtain ⟨a, ha⟩ : ∃ a, as[r]? = some a := ⟨_, List.getElem?_eq_getElem (by rw [ow3.1.2.1]; exact hr)⟩
          have hR3 := ow3.1.1
          have ha3 := ow3.1.2.2 r a ha
          have hRa : ∀ {H' : Hp} {g' : Nat → Nat → Int}, OwRows H0 H' R as g' → H' R = some (.lst (as.map V.ref)) ∧ H' a = some (.lst ((mrow g' r).map V.int)) := fun o => ⟨o.1.1, o.1.2.2 r a ha⟩
          have atR : atI (as.map V.ref) (r : Int) = some (.ref a) := nat_idx (by rw [List.getElem?_map, ha]; rfl)
          have atc : atI ((mrow f' r).map V.int) (c : Int) = some (.int (f' r c)) := nat_idx (by rw [List.getElem?_map, mrow_get f' r hc]; rfl)
          have keepc : ¬(f r c = 0 ∧ Inside (hull us) (Xc (c : Int), Yr (r : Int))) → (∀ j, j < c + 1 → Mk (hull us) f f' r j) ∧ ∀ j, c + 1 ≤ j → f' r j = f r j := fun no => ⟨fun j hj => by
            rcases Nat.lt_or_ge j c with z | z
            · exact d2 j z
            · have : j = c := by omega
              subst this
              exact ⟨fun h => absurd h no, fun _ => d3 j (Nat.le_refl _)⟩, fun j hj => d3 j (by omega)⟩
          walk_at "z"
          refine z_ixL (.inl (.inl hR3)) atR ?_
          walk_at "z"
          refine z_ixL (.inl (.inl ha3)) atc ?_
          walk_at "z"
          refine z_if (fun k3 => ?_) (fun k3 => ?_)
          · walk_at "z"
            rw [xc]
            refine ⟨p, ws, hull us, _, _, rfl, hp3, g3, gm, ?_, hl, fun t H4 s4 ht => ?_⟩
            · unfold Gm Gb Xc Yr
              simp only []
              omega
            have s34 := s3.trans s4
            have ow4 : OwRows H0 H4 R as f' := ⟨ow3.1.mono s4, ow3.2⟩
            have hp4 := s4 _ _ hp3
            have g4 := g3.mono s4
            cases t with
            | false =>
              have no : ¬Inside (hull us) (Xc (c : Int), Yr (r : Int)) := fun h => by
                have := ht.mpr h
                cases this
              obtain ⟨e1, e2⟩ := keepc fun h => no h.2
              walk_at "z"
              exact ⟨f', _, rfl, s34, ow4, hp4, g4, d1, e1, e2, d4⟩
            | true =>
              have yes := ht.mp rfl
              obtain ⟨hR4, ha4⟩ := hRa ow4
              walk_at "z"
              refine z_ixL (.inl (.inl hR4)) atR ?_
              walk_at "z"
              refine z_setL ha4 (ixN_nat (by rw [List.length_map, mrow_len]; exact hc)) ?_
              have npa : p ≠ a := fun z => np (by rw [z]; exact List.mem_of_getElem? ha)
              have kk : Kp a H4 (upd H4 a (.lst (((mrow f' r).map V.int).set c (.int 1)))) := fun b o hb e => by
                rw [upd_ne hb]
                exact e
              refine ⟨fun i j => if i = r ∧ j = c then 1 else f' i j, _, rfl, same_put s34 (ow4.2.2.2.2 a (List.mem_of_getElem? ha)), ow4.put ha hc, by rw [upd_ne npa]; exact hp4, Gs.kp kk ha4 g4, fun i j hi hj => ?_, fun j hj => ?_, fun j hj => ?_, fun i j hi => ?_⟩
              · exact (d1 i j hi hj).of (if_neg (by omega))
              · rcases Nat.lt_or_ge j c with z | z
                · exact (d2 j z).of (if_neg (by omega))
                · have : j = c := by omega
                  subst this
                  have f0 : f r j = 0 := by rw [← d3 j (Nat.le_refl _)]; exact k3
                  exact Mk.yes ⟨f0, yes⟩ (if_pos ⟨rfl, rfl⟩)
              · show (if r = r ∧ j = c then 1 else f' r j) = f r j
                rw [if_neg (by omega)]
                exact d3 j (by omega)
              · show (if i = r ∧ j = c then 1 else f' i j) = f i j
                rw [if_neg (by omega)]
                exact d4 i j hi
          · have f0 : ¬ f r c = 0 := by rw [← d3 c (Nat.le_refl _)]; exact k3
            obtain ⟨e1, e2⟩ := keepc fun h => f0 h.1
            walk_at "z"
            exact ⟨f', _, rfl, s3, ow3, hp3, g3, d1, e1, e2, d4⟩
        · rintro σ' H3 ⟨f', w7, rfl, s3, ow3, hp3, g3, d1, d2, d3, d4⟩
          walk_at "z"
          refine ⟨f', _, _, _, rfl, s3, ow3, hp3, g3, fun i c hi hc => ?_, d4⟩
          rcases Nat.lt_or_ge i r with z | z
          · exact d1 i c z hc
          · have : i = r := by omega
            subst this
            exact d2 c hc
      · obtain ⟨e1, e2⟩ := skip fun c hc ins => by
          have := btw _ _ ins
          omega
        walk_at "z"
        exact ⟨f', _, _, _, rfl, s2, ow2, hp2, g2, e1, e2⟩
    · obtain ⟨e1, e2⟩ := skip fun c hc ins => by
        have := btw _ _ ins
        omega
      walk_at "z"
      exact ⟨f', _, _, _, rfl, s2, ow2, hp2, g2, e1, e2⟩
  · rintro σ' H2 ⟨f', w5, w6, w7, rfl, s2, ow2, hp2, g2, done', rest⟩
    walk_at "z"
    exact q H2 f' s2 ow2 fun r c hr hc => done' r c hr hc
end
/-- the lines that a pen is drawn along -/
def dl (zs : List GP) : List (GP × GP) := if zs.length = 1 then zs.map fun a => (a, a) else zs.zip zs.tail
def sp_drawn_lines (K : PySem.W.Frag) : Sp := fun vs H Q _ => ∃ (o : Addr) (ws : List V) (zs : List GP), vs = [.ref o] ∧ H o = some (.lst ws) ∧ Gs K H ws zs ∧ 1 ≤ zs.length ∧ zs.length ≤ 100 ∧
  ∀ q H' us, H q = none → Same H H' → H' q = some (.lst us) → us.length = (dl zs).length → (∀ (i : Nat) (x : V), us[i]? = some x → ∃ (p : Addr) (u v : V) (a b : GP), x = .ref p ∧ H' p = some (.tup [u, v]) ∧ Dp K H' u (gD a) ∧ Dp K H' v (gD b) ∧ (dl zs)[i]? = some (a, b)) → Q (.ref q) H'
section
theorem ok_drawn_lines {P : Program} {w : World} {K : PySem.W.Frag} {mg : Str → Option Value} {base : Heap} {A : Nat → Addr} {D : Nat → FuncData} (T : Txt K mg A D) : FnOk P w K mg base (L2.CX P w) 2 (A 33) (D 33) ["outline"] (sp_drawn_lines K) := by
  refine T.F_drawn_lines.okX sc_drawn_lines (fun vs H Q E h => ?_) (fun cdv A' outer s H vs Q E hr h => ?_)
  · obtain ⟨o, ws, zs, rfl, _⟩ := h
    rfl
  obtain ⟨o, ws, zs, rfl, ho, g, h1, hl, q⟩ := h
  refine ⟨_, (pss_cons (ps_if (pt_cmpR op_eq (pe_callB Z.c_len (by rfl) T.z_len (by decide +kernel) (pa_cons (pv 0) pa_nil)) pe_int (nomark _))
  (pss_one (ps_ret (pe_lst (pa_cons (pe_tup (pa_cons (pe_ix ix_list (pv 0) pe_int (fun _ _ => rfl)) (pa_cons (pe_ix ix_list (pv 0) pe_int (fun _ _ => rfl)) pa_nil))) pa_nil))))
  pss_nil)
  (pss_one (ps_ret (Gl.pe_listF (k := 0) (gt_lines T) (hr.mono (by omega)) (by rfl) T.m_lines T.F_lines.kp T.b_lines (by rfl) T.z_list (by decide +kernel) (pa_cons (pv 0) pa_nil))))), ?_⟩
  have lw := g.len
  walk_at "z"
  refine z_if (fun k => ?_) (fun k => ?_)
  · have n1 : zs.length = 1 := by rw [lw] at k; omega
    obtain ⟨z0, rfl⟩ := List.length_eq_one_iff.mp n1
    obtain ⟨v0, hv0, d0⟩ := g.get (i := 0) (z := z0) rfl
    have hat0 : atI ws 0 = some v0 := nat_idx (k := 0) hv0
    walk_at "z"
    refine z_ixL (.inl (.inl ho)) hat0 ?_
    walk_at "z"
    refine z_ixL (.inl (.inl ho)) hat0 ?_
    walk_at "z"
    intro t H1 f1 s1 e1
    walk_at "z"
    intro p H2 f2 s2 e2
    have s12 := s1.trans s2
    refine q p H2 [.ref t] (fresh_of s1 f2) s12 e2 rfl fun i x hx => ?_
    cases i with
    | zero =>
      cases hx
      exact ⟨t, v0, v0, z0, z0, rfl, s2 _ _ e1, dp_mono s12 d0, dp_mono s12 d0, rfl⟩
    | succ i => simp at hx
  · have n2 : zs.length ≠ 1 := fun e => k (by rw [lw, e]; rfl)
    walk_at "z"
    unfold Gl.tListF
    walk_at "z"
    refine ⟨o, ws, rfl, ho, by omega, fun pS H1 us f1 e1 l1 pairs s1 => ?_⟩
    refine q pS H1 us f1 s1 e1 ?_ fun i x hx => ?_
    · unfold dl
      rw [if_neg n2, List.length_zip, List.length_tail]
      omega
    · have hi := (List.getElem?_eq_some_iff.mp hx).1
      obtain ⟨a, ha⟩ : ∃ a, zs[i]? = some a := ⟨_, List.getElem?_eq_getElem (by omega)⟩
      obtain ⟨b, hb⟩ : ∃ a, zs[i + 1]? = some a := ⟨_, List.getElem?_eq_getElem (by omega)⟩
      obtain ⟨u, hu, du⟩ := (g.mono s1).get ha
      obtain ⟨v, hv, dv⟩ := (g.mono s1).get hb
      obtain ⟨p, u', v', rfl, hu', hv', hpt⟩ := pairs i x hx
      rw [hu] at hu'
      rw [hv] at hv'
      cases hu'
      cases hv'
      refine ⟨p, u, v, a, b, rfl, hpt, du, dv, ?_⟩
      unfold dl
      rw [if_neg n2, List.getElem?_zip_eq_some]
      exact ⟨ha, by rw [List.getElem?_tail]; exact hb⟩
end
/-- the count at a point of a closed hull is not negative -/
theorem hull_count0 {us : List GP} (hu : Up us) (hne : us ≠ []) {z0 : GP} (h0 : (hull us)[0]? = some z0) (x y : Int) : 0 ≤ wl (fun a b => crs a b x y) (hull us ++ [z0]) := by
  have ar := hull_around hu hne
  by_cases hl : us.length = 1
  · have e : hull us = us := if_pos hl
    obtain ⟨m, rfl⟩ := List.length_eq_one_iff.mp hl
    rw [e] at h0 ⊢
    cases h0
    show 0 ≤ crs z0 z0 x y + 0
    rw [crs_up (Int.le_refl _)]
    unfold upI
    rw [if_neg (by omega)]
    decide
  · have hl2 : 2 ≤ us.length := by
      have : us.length ≠ 0 := fun z => hne (List.length_eq_zero_iff.mp z)
      omega
    obtain ⟨m, M, rS, rT, h⟩ := two_of hu hne
    obtain ⟨kS, kT, mS, MT⟩ := h.mem hu hl2
    have he := h.eq hl
    have lS : 0 < rS.length := List.length_pos_of_mem mS
    have lT : 0 < rT.length := List.length_pos_of_mem MT
    have c10 : (M :: rS).reverse[0]? = some m := by rw [rev_0, h.cs.bot]
    have c20 : (m :: rT).reverse[0]? = some M := ngv.mpr (by rw [rev_0, h.ct.bot])
    have hA : rS.reverse[0]? = some m := by
      rw [List.reverse_cons, List.getElem?_append_left (by simpa using lS)] at c10
      exact c10
    have hB : rT.reverse[0]? = some M := by
      rw [List.reverse_cons, List.getElem?_append_left (by simpa using lT)] at c20
      exact c20
    have hz : z0 = m := by
      rw [he, List.getElem?_append_left (by simpa using lS), hA] at h0
      exact (Option.some.inj h0).symm
    subst hz
    have btM : bot z0 rT = M := by
      have := rev_0 rT z0
      rw [c20] at this
      exact (Option.some.inj this).symm
    obtain ⟨B, hBe⟩ : ∃ B, rT.reverse = M :: B := by
      cases e : rT.reverse with
      | nil => rw [e] at hB; cases hB
      | cons b B =>
        rw [e] at hB
        cases hB
        exact ⟨B, rfl⟩
    have split : wl (fun a b => crs a b x y) (hull us ++ [z0]) = upS (x, y) (M :: rS) + dnS (x, y) (z0 :: rT) := by
      rw [he, List.append_assoc, ← List.reverse_cons, ← wl_up rS M h.cs.conv, ← wl_dn rT z0 h.ct.conv]
      rw [List.reverse_cons (a := z0), hBe, List.cons_append, wl_app, ← List.reverse_cons]
    rw [split]
    obtain ⟨u1, u2⟩ := upS_edge (q := (x, y)) rS M h.cs.conv
    obtain ⟨v1, v2⟩ := dnS_edge (q := (x, y)) rT z0 h.ct.conv
    rw [h.cs.bot] at u1 u2
    rw [btM] at v1 v2
    by_cases c : z0.2 ≤ y ∧ y < M.2
    · obtain ⟨i, a1, b1, p1, p2, p3, p4, p5⟩ := u1 c
      obtain ⟨j, a2, b2, r1, r2, r3, r4, r5⟩ := v1 c
      have hsub := h.sub hl
      have ma2 := hsub a2 (kT _ (List.mem_reverse.mp (List.mem_of_getElem? r1)))
      have mb2 := hsub b2 (kT _ (List.mem_reverse.mp (List.mem_of_getElem? r2)))
      have f1 : ∀ q ∈ us, 0 ≤ ori a1 b1 q := fun q hq => (h.cs.la q hq).at p1 p2
      have cross : ori a2 b2 (x, y) < 0 → 0 < ori a1 b1 (x, y) := fun z => by
        have k := slab (q := (x, y)) ⟨r3, r4⟩ (ori a1 b1) _ _ _ (ori_lin a1 b1) (f1 a2 ma2) (f1 b2 mb2)
        have d1 : 0 < b1.2 - a1.2 := by
          have : y < b1.2 := p4
          have : a1.2 ≤ y := p3
          omega
        have d2' : 0 < a2.2 - b2.2 := by
          have : y < a2.2 := r4
          have : b2.2 ≤ y := r3
          omega
        have n := Int.mul_neg_of_pos_of_neg d1 z
        refine pos_of' d2' ?_
        rw [Int.neg_mul] at k
        omega
      rw [p5, r5]
      by_cases z : ori a1 b1 (x, y) ≤ 0
      · rw [if_pos z, if_pos (show 0 ≤ ori a2 b2 (x, y) by
          refine Int.not_lt.mp fun w => ?_
          have := cross w
          omega)]
        decide
      · rw [if_neg z]
        split <;> decide
    · rw [u2 c, v2 c]
      decide
/-- the sum of the counts of hulls -/
def cvs (x y : Int) : List (List GP) → Int
  | [] => 0
  | h :: hs => wl (fun a b => crs a b x y) (h ++ h.take 1) + cvs x y hs
theorem cvs_app (x y : Int) : ∀ (hs gs : List (List GP)), cvs x y (hs ++ gs) = cvs x y hs + cvs x y gs
  | [], gs => by
    show cvs x y gs = 0 + cvs x y gs
    omega
  | h :: hs, gs => by
    show _ + cvs x y (hs ++ gs) = _ + cvs x y hs + _
    rw [cvs_app x y hs gs]
    omega
theorem hull_take {us : List GP} (hu : Up us) (hne : us ≠ []) : ∃ z0, (hull us)[0]? = some z0 ∧ (hull us).take 1 = [z0] := by
  have := hull_ne hu hne
  cases e : hull us with
  | nil => exact absurd e this
  | cons z0 r => exact ⟨z0, rfl, rfl⟩
theorem cvs_in (x y : Int) : ∀ (hs : List (List GP)), (∀ h ∈ hs, ∃ us, h = hull us ∧ Up us ∧ us ≠ []) → 0 ≤ cvs x y hs ∧ (cvs x y hs ≠ 0 ↔ ∃ h ∈ hs, Inside h (x, y))
  | [], _ => ⟨Int.le_refl _, ⟨fun h => absurd rfl h, fun ⟨h, m, _⟩ => by cases m⟩⟩
  | h :: hs, k => by
    obtain ⟨i1, i2⟩ := cvs_in x y hs fun h m => k h (.tail _ m)
    obtain ⟨us, rfl, hu, hne⟩ := k h (.head _)
    obtain ⟨z0, hz, ht⟩ := hull_take hu hne
    have c0 := hull_count0 hu hne hz x y
    have c1 := hull_count hu hne hz x y
    have e : cvs x y (hull us :: hs) = wl (fun a b => crs a b x y) (hull us ++ [z0]) + cvs x y hs := by rw [← ht]; rfl
    rw [e]
    refine ⟨by omega, ⟨fun n => ?_, fun ⟨h, m, ins⟩ => ?_⟩⟩
    · by_cases w : wl (fun a b => crs a b x y) (hull us ++ [z0]) = 0
      · obtain ⟨h, m, ins⟩ := i2.mp (by omega)
        exact ⟨h, .tail _ m, ins⟩
      · exact ⟨_, .head _, c1.mp w⟩
    · rcases List.mem_cons.mp m with rfl | m
      · have := c1.mpr ins
        omega
      · have := i2.mpr ⟨h, m, ins⟩
        omega
def ind01 (n : Int) : Int := if n = 0 then 0 else 1
def sp_cover_rows (K : PySem.W.Frag) : Sp := fun vs H Q _ => ∃ (f o : Addr) (wp ws : List V) (ps zs : List GP), vs = [.ref f, .ref o] ∧ H f = some (.lst wp) ∧ Gs K H wp ps ∧ H o = some (.lst ws) ∧ Gs K H ws zs ∧ 1 ≤ zs.length ∧ zs.length ≤ 100 ∧ ps ≠ [] ∧ ps.length ≤ 30 ∧ (∀ z ∈ ps, Bq z) ∧ (∀ z ∈ zs, Br z) ∧
  ∀ (R : Addr) (H' : Hp) (as : List Addr) (hs : List (List GP)) (f' : Nat → Nat → Int), H R = none → Same H H' → RdRows H' R as f' → hs.length = (dl zs).length → (∀ (i : Nat) (a b : GP), (dl zs)[i]? = some (a, b) → ∃ us, hs[i]? = some (hull us) ∧ Set (ps.map (add a) ++ ps.map (add b)) us) →
    (∀ r c : Nat, r < 48 → c < 48 → ((∃ h ∈ hs, Inside h (Xc (c : Int), Yr (r : Int))) → f' r c = 1) ∧ ((¬ ∃ h ∈ hs, Inside h (Xc (c : Int), Yr (r : Int))) → f' r c = 0)) → Q (.ref R) H'
theorem dl_br {zs : List GP} (h : ∀ z ∈ zs, Br z) {i : Nat} {a b : GP} (e : (dl zs)[i]? = some (a, b)) : Br a ∧ Br b := by
  have m := List.mem_of_getElem? e
  unfold dl at m
  split at m
  · obtain ⟨x, hx, e⟩ := List.mem_map.mp m
    cases e
    exact ⟨h _ hx, h _ hx⟩
  · have := List.of_mem_zip m
    exact ⟨h _ this.1, h _ (List.mem_of_mem_tail this.2)⟩
theorem dl_len (zs : List GP) : (dl zs).length ≤ zs.length := by
  unfold dl
  split
  · rw [List.length_map]
    exact Nat.le_refl _
  · rw [List.length_zip]
    exact Nat.min_le_left _ _
theorem set_ne {ps us : List GP} {a b : GP} (hne : ps ≠ []) (h : Set (ps.map (add a) ++ ps.map (add b)) us) : us ≠ [] := fun e => by
  cases ps with
  | nil => exact hne rfl
  | cons p ps =>
    have := (h.mem (add a p)).mpr (.head _)
    rw [e] at this
    cases this
section
theorem ok_cover_rows {P : Program} {w : World} {K : PySem.W.Frag} {mg : Str → Option Value} {base : Heap} {A : Nat → Addr} {D : Nat → FuncData} (T : Txt K mg A D) : FnOk P w K mg base (L2.CX P w) 5 (A 32) (D 32) ["pen", "outline"] (sp_cover_rows K) := by
  refine T.F_cover_rows.okX sc_cover_rows (fun vs H Q E h => ?_) (fun cdv A' outer s H vs Q E hr h => ?_)
  · obtain ⟨f, o, wp, ws, ps, zs, rfl, _⟩ := h
    rfl
  obtain ⟨f, o, wp, ws, ps, zs, rfl, hf, gp, ho, g, h1, hl, hne, lp, bp, bz, q⟩ := h
  refine ⟨_, (pss_cons (ps_set (i := 2) sc_cover_rows.nd rfl (.inl rfl) (pe_lst pa_nil))
  (pss_cons (ps_for (passes_of rfl) rfl (pi_list (pe_call (ok_drawn_lines T) (hr.mono (by decide)) (by rfl) T.m_drawn_lines T.F_drawn_lines.kp T.b_drawn_lines .nil (passes_call (takes_of rfl rfl rfl rfl) (fun _ _ _ _ h => h)) (pa_cons (pv 1) pa_nil))) (pg_tup (by rfl) (pgs_cons (pg_name (i := 3) sc_cover_rows.nd rfl (.inl rfl)) (pgs_cons (pg_name (i := 4) sc_cover_rows.nd rfl (.inl rfl)) pgs_nil)))
  (pss_cons (ps_set (i := 5) sc_cover_rows.nd rfl (.inl rfl) (pe_call (ok_sweep T) (hr.mono (by decide)) (by rfl) T.m_sweep T.F_sweep.kp T.b_sweep .nil (passes_call (takes_of rfl rfl rfl rfl) (fun _ _ _ _ h => h)) (pa_cons (pv 0) (pa_cons (pv 3) (pa_cons (pv 4) pa_nil)))))
  (pss_one (ps_expr (pe_bm PySem.F.plainAttrs_list PySem.F.slot_list_extend PySem.F.type_list_extend mt_extend (pv 2) (pa_cons (pe_call (ok_changes_of T) (hr.mono (by decide)) (by rfl) T.m_changes_of T.F_changes_of.kp T.b_changes_of .nil (passes_call (takes_of rfl rfl rfl rfl) (fun _ _ _ _ h => h)) (pa_cons (pe_op op_cat (pv 5) (pe_slice sl_list (pv 5) po_none (po_some pe_int))) pa_nil)) pa_nil))))))
  (pss_one (ps_ret (pe_lc (own := [("row", 7)]) (g := gName 7) (tt := tYes) rfl sc_cover_rows.nd (pi_list (pe_call (ok_rows_of T) (hr.mono (by decide)) (by rfl) T.m_rows_of T.F_rows_of.kp T.b_rows_of .nil (passes_call (takes_of rfl rfl rfl rfl) (fun _ _ _ _ h => h)) (pa_cons (pv 2) pa_nil))) (blkOk_by (N := ["pen", "outline", "changes", "p", "q", "swept", "number", "row"]) (sc := defScope s_cover_rows) (by decide +kernel)) (fun _ _ _ _ _ => pg_name (i := 7) sc_cover_rows.nd rfl (Or.inl rfl)) (fun _ _ _ _ _ => pts_nil) (fun _ _ _ _ _ => (pe_lc (own := [("number", 6)]) (g := gName 6) (tt := tYes) rfl sc_cover_rows.nd (show PI _ _ _ (iList K _) from pi_list (pv 7)) (blkOk_by (N := ["pen", "outline", "changes", "p", "q", "swept", "number", "row"]) (by rfl)) (fun _ _ _ _ _ => pg_name (i := 6) sc_cover_rows.nd rfl (Or.inl rfl)) (fun _ _ _ _ _ => pts_nil) (fun _ _ _ _ _ => (pe_ifExp (show PT _ _ (tTru K _) from Z.pt_tru (pv 6) (by intro _; rfl)) pe_int pe_int))))))))), ?_⟩
  walk_at "z"
  intro ch H1 f1 s1 e1
  walk_at "z"
  refine z_forE ?_
  walk_at "z"
  refine ⟨o, ws, zs, rfl, s1 _ _ ho, g.mono s1, h1, hl, fun ql H2 us2 f2 s2 e2 l2 it2 => ?_⟩
  unfold ForL
  have s02 := s1.trans s2
  have ech2 := s2 _ _ e1
  have nlq : ql ≠ ch := fun z => by rw [z, e1] at f2; cases f2
  refine z_forL (xs := us2) (fun R q => q) (.inl (.inl e2)) (fun i σ' H' => Same H H' ∧ Kp ch H2 H' ∧ ∃ (us : List V) (es : List Chg) (hs : List (List GP)) (u1 u2 u3 u4 u5 : Option V), σ' = [some (.ref f), some (.ref o), some (.ref ch), u1, u2, u3, u4, u5] ∧ H' ch = some (.lst us) ∧ DpAll K H' us (es.map cD) ∧ es.length ≤ 3000 * i ∧ OnC es ∧ hs.length = i ∧
    (∀ (k : Nat) (a b : GP), k < i → (dl zs)[k]? = some (a, b) → ∃ us, hs[k]? = some (hull us) ∧ Set (ps.map (add a) ++ ps.map (add b)) us) ∧ ∀ r c, 0 ≤ r → r < 48 → 0 ≤ c → c < 48 → val es r c = cvs (Xc c) (Yr r) hs)
    ⟨s02, fun b o hb e => e, [], [], [], _, _, _, _, _, rfl, ech2, .nil, Nat.le_refl 0, fun e he => (by cases he), rfl, fun k a b hk => absurd hk (Nat.not_lt_zero _), fun r c _ _ _ _ => rfl⟩ (fun i σ' H' _ h => .inl (.inl (h.2.1 _ _ nlq e2))) ?_ ?_
  · rintro i x σ' H3 hx ⟨s3, k3, us, es, hs, u1, u2, u3, u4, u5, rfl, e3, d3, le, oc, lh, sets, hval⟩
    obtain ⟨p, u, v, a, b, rfl, hp2, du2, dv2, hab⟩ := it2 i x hx
    have hi : i < us2.length := (List.getElem?_eq_some_iff.mp hx).1
    have npc : p ≠ ch := fun z => by rw [z, ech2] at hp2; cases hp2
    have hp3 := k3 _ _ npc hp2
    have hi100 : i < 100 := by
      have := dl_len zs
      omega
    have du3 := dp_kp k3 ech2 rfl du2
    have dv3 := dp_kp k3 ech2 rfl dv2
    obtain ⟨ba, bb⟩ := dl_br bz hab
    refine z_gT (.inl (.inl hp3)) rfl ?_
    walk_at "z"
    refine ⟨f, u, v, wp, ps, a, b, rfl, s3 _ _ hf, gp.mono s3, du3, dv3, lp, hne, bp, ba, bb, fun sw H4 vh uh f4 s4 e4 g4 hset lu => ?_⟩
    walk_at "z"
    have s34 := s3.trans s4
    have nsw : sw ≠ ch := fun z => by rw [z, e3] at f4; cases f4
    have e34 := s4 _ _ e3
    have lvh := g4.len
    have hun := set_ne hne hset
    obtain ⟨z0, hz0, hz1⟩ := hull_take hset.up hun
    have gmS : ∀ z ∈ hull uh, Gm z := fun z hz => by
      have hz := (hset.mem z).mp ((hull_around hset.up hun).sub z hz)
      rcases List.mem_append.mp hz with h | h
      · obtain ⟨x, hx, rfl⟩ := List.mem_map.mp h
        exact gm_add ba (bp x hx)
      · obtain ⟨x, hx, rfl⟩ := List.mem_map.mp h
        exact gm_add bb (bp x hx)
    have lh60 : (hull uh).length ≤ 60 := Nat.le_trans (Sc.nodup_len (hull_around hset.up hun).nodup (hull_around hset.up hun).sub) lu
    have lpos : 1 ≤ (hull uh).length := by
      have := (List.getElem?_eq_some_iff.mp hz0).1
      omega
    refine z_bmL (fun R q => by walk_at "z"; exact q) e34 ?_
    walk_at "z"
    refine ⟨_, rfl, ?_⟩
    refine z_slL (.inl (.inl e4)) (cut_to (k := 1) (by omega)) fun t1 H5 f5 s5 e5 => ?_
    refine z_cat (s5 _ _ e4) e5 (by rw [List.length_take]; omega) fun t2 H6 f6 s6 e6 => ?_
    have s46 := s5.trans s6
    have g6 : Gs K H6 (vh ++ vh.take 1) (hull uh ++ (hull uh).take 1) := (g4.mono s46).app ((g4.mono s46).take 1)
    refine ⟨t2, _, hull uh ++ (hull uh).take 1, rfl, e6, g6, fun z hz => ?_, by rw [List.length_append, List.length_take]; omega, fun t3 H7 us3 es3 f7 s7 e7 d7 le7 oc7 hv7 => ?_⟩
    · rcases List.mem_append.mp hz with h | h
      · exact gmS z h
      · exact gmS z (List.mem_of_mem_take h)
    have s37 := (s4.trans s46).trans s7
    have lus : us.length = es.length := by rw [dpa_len d3, List.length_map]
    have lus3 : us3.length = es3.length := by rw [dpa_len d7, List.length_map]
    have l122 : (vh ++ vh.take 1).length ≤ 61 := by rw [List.length_append, List.length_take]; omega
    have le7' : es3.length ≤ 3000 := by omega
    walk_at "z"
    refine z_extendW (s37 _ _ e3) e7 (by omega) ?_
    have kU : Kp ch H7 (upd H7 ch (.lst (us ++ us3))) := fun b o hb h => by
      rw [upd_ne hb]
      exact h
    have fch : H ch = none := f1
    refine ⟨fun b o h => ?_, fun b o hb h => ?_, us ++ us3, es ++ es3, hs ++ [hull uh], _, _, _, _, _, rfl, upd_same, ?_, by simp; omega, fun e he => ?_, by simp [lh], fun k a' b' hk hk' => ?_, fun r c h1 h2 h3 h4 => ?_⟩
    · rw [upd_ne (ne_of_none h fch)]
      exact s37 _ _ (s3 _ _ h)
    · rw [upd_ne hb]
      exact s37 _ _ (k3 _ _ hb h)
    · have d4 : DpAll K H7 (us ++ us3) ((es ++ es3).map cD) := by
        rw [List.map_append]
        exact dpa_app (dp_monoA s37 d3) d7
      exact dp_kpA kU (s37 _ _ e3) (tup_chg _) d4
    · rcases List.mem_append.mp he with h | h
      · exact oc e h
      · exact oc7 e h
    · rcases Nat.lt_or_ge k i with z | z
      · obtain ⟨us', hu', hs'⟩ := sets k a' b' z hk'
        exact ⟨us', by rw [List.getElem?_append_left (by omega)]; exact hu', hs'⟩
      · have : k = i := by omega
        subst this
        rw [hab] at hk'
        cases hk'
        exact ⟨uh, by rw [List.getElem?_append_right (by omega), lh, Nat.sub_self]; rfl, hset⟩
    · rw [val_app, hval r c h1 h2 h3 h4, hv7 r c h1 h2 h3 h4, cvs_app]
      show _ + wn _ _ _ = _ + (wl _ _ + 0)
      unfold wn
      rw [psum_wl _ (by rw [List.length_append]; omega)]
      omega
  · rintro σ' H3 ⟨s3, k3, us, es, hs, u1, u2, u3, u4, u5, rfl, e3, d3, le, oc, lh, sets, hval⟩
    walk_at "z"
    refine z_lcE ?_
    walk_at "z"
    have ls2 : hs.length = (dl zs).length := by omega
    have sets' : ∀ (i : Nat) (a b : GP), (dl zs)[i]? = some (a, b) → ∃ us, hs[i]? = some (hull us) ∧ Set (ps.map (add a) ++ ps.map (add b)) us := fun i a b e => sets i a b (by have := (List.getElem?_eq_some_iff.mp e).1; omega) e
    have hup : ∀ h ∈ hs, ∃ us, h = hull us ∧ Up us ∧ us ≠ [] := fun h m => by
      obtain ⟨k, hk⟩ := List.mem_iff_getElem?.mp m
      have kl := (List.getElem?_eq_some_iff.mp hk).1
      obtain ⟨ab, hab⟩ : ∃ x, (dl zs)[k]? = some x := ⟨_, List.getElem?_eq_getElem (by omega)⟩
      obtain ⟨us', h1, h2⟩ := sets' k ab.1 ab.2 hab
      rw [hk] at h1
      exact ⟨us', Option.some.inj h1, h2.up, set_ne hne h2⟩
    refine ⟨ch, us, es, rfl, e3, d3, oc, fun R H4 as f4 s4 rd => ?_⟩
    have rd1 : RdRows H4 R as (fun r c => cvs (Xc (c : Int)) (Yr (r : Int)) hs) := rd.congr fun r c hr hc => hval _ _ (by omega) (by omega) (by omega) (by omega)
    clear rd sets hval d3 e3 oc le k3 it2 f4
    refine z_lcLs (by rw [List.length_map, rd1.2.1]; decide) (.inl (.inl rd1.1)) (fun _ => rfl) (fun i D acc H' => Same H4 H' ∧ H4 D = none ∧ ∃ bs : List Addr, acc = bs.map V.ref ∧ D ∉ bs ∧ ∀ r b, bs[r]? = some b → H' b = some (.lst ((mrow (fun r c => ind01 (cvs (Xc (c : Int)) (Yr (r : Int)) hs)) r).map V.int))) (fun D H' f s _ => ⟨s, f, [], rfl, List.not_mem_nil, fun r b h => (by simp at h)⟩)
      (fun i D acc H' h => .inl (.inl (h.1 _ _ rd1.1))) (fun i x D acc H' hx hl hD ⟨s', fD, bs, eb, nD, hv⟩ => ?_) (fun D acc H' fD hl hD ⟨s', _, bs, eb, nD, hv⟩ => ?_)
    · rw [List.getElem?_map] at hx
      cases hj : as[i]? with
      | none => rw [hj] at hx; cases hx
      | some a =>
      rw [hj] at hx
      cases hx
      have hi : i < 48 := by
        have := (List.getElem?_eq_some_iff.mp hj).1
        have := rd1.2.1
        omega
      have lb : bs.length = i := by
        have := congrArg List.length eb
        rw [List.length_map, hl] at this
        exact this.symm
      refine z_lcM (xs := (mrow (fun r c => cvs (Xc (c : Int)) (Yr (r : Int)) hs) i).map V.int) (ws := (mrow (fun r c => ind01 (cvs (Xc (c : Int)) (Yr (r : Int)) hs)) i).map V.int) (by rw [List.length_map, List.length_map, mrow_len, mrow_len]) (by rw [List.length_map, mrow_len]; decide) (fun R q => by walk_at "z"; exact q) (s' _ _ (rd1.2.2 i a hj)) (fun _ => rfl) ?_ ?_
      · intro j x w H3 hx hw s3 R q
        have hj48 : j < 48 := by
          have := (List.getElem?_eq_some_iff.mp hx).1
          rw [List.length_map, mrow_len] at this
          exact this
        rw [List.getElem?_map, mrow_get _ _ hj48] at hx hw
        cases hx
        cases hw
        walk_at "z"
        refine z_truI ?_
        refine z_ifB (fun k => ?_) (fun k => ?_)
        · walk_at "z"
          unfold ind01 at q
          rw [if_neg (by simpa using k)] at q
          exact q
        · walk_at "z"
          unfold ind01 at q
          rw [if_pos (by simpa using k)] at q
          exact q
      · intro b H3 f3 s3 h3
        have nDb : b ≠ D := fun z => by
          rw [z, hD] at f3
          cases f3
        refine z_lcB (s3 _ _ hD) hl (by omega) fun H4' hD4 k4 e4 => ⟨fun x o h => ?_, fD, bs ++ [b], by rw [eb, List.map_append]; rfl, ?_, fun r b' hb => ?_⟩
        · rw [e4 x (ne_of_none h fD)]
          exact s3 _ _ (s' _ _ h)
        · rw [List.mem_append, List.mem_singleton]
          rintro (h | h)
          · exact nD h
          · exact nDb h.symm
        · rcases Nat.lt_or_ge r bs.length with h | h
          · rw [List.getElem?_append_left h] at hb
            have hne : b' ≠ D := fun z => nD (by rw [← z]; exact List.mem_of_getElem? hb)
            rw [e4 b' hne]
            exact s3 _ _ (hv r b' hb)
          · have hr : r = i := by
              have := (List.getElem?_eq_some_iff.mp hb).1
              rw [List.length_append, List.length_singleton] at this
              omega
            subst hr
            rw [List.getElem?_append_right h, lb, Nat.sub_self] at hb
            cases hb
            rw [e4 b nDb, h3]
    · have lb : bs.length = 48 := by
        have := congrArg List.length eb
        rw [List.length_map, hl, List.length_map, rd1.2.1] at this
        exact this.symm
      refine q D H' bs hs _ (fresh_of (s3.trans s4) fD) ((s3.trans s4).trans s') ⟨by rw [hD, eb], lb, fun r a ha => hv r a ha⟩ ls2 sets' fun r c hr hc => ?_
      have ci := cvs_in (Xc (c : Int)) (Yr (r : Int)) hs hup
      unfold ind01
      refine ⟨fun ins => ?_, fun no => ?_⟩
      · rw [if_neg (ci.2.mpr ins)]
      · rw [if_pos (Decidable.byContradiction fun h => no (ci.2.mp h))]
end
local macro_rules | `(tactic| walk_at "z1") => `(tactic| first
  | with_reducible refine z_max2 ?_
  | with_reducible refine z_min2 ?_
  | with_reducible refine z_tru ?_
  | with_reducible refine Cw.z_fldE ?_
  | with_reducible refine Cw.z_sfldE ?_
  | with_reducible refine Cw.z_methE ?_
  | with_reducible refine Cw.z_methSE ?_
  | with_reducible refine Cw.z_methNSE ?_
  | with_reducible refine Cw.z_methNE ?_
  | with_reducible refine Cw.z_make ?_)
local macro_rules | `(tactic| walk_at "z1") => `(tactic| first
  | with_reducible refine Co.z_opS ?_
  | with_reducible refine Co.z_unS ?_)
/-! ### rows, once more -/
theorem mrow_i {f : Nat → Nat → Int} {r i : Nat} {v : V} (h : ((mrow f r).map V.int)[i]? = some v) : v = .int (f r i) ∧ i < 48 := by
  have hi := (List.getElem?_eq_some_iff.mp h).1
  rw [List.length_map, mrow_len] at hi
  rw [List.getElem?_map, mrow_get _ _ hi] at h
  cases h
  exact ⟨rfl, hi⟩
theorem mrow_z : List.replicate 48 (V.int 0) = (mrow (fun _ _ => 0) 0).map V.int := rep48
theorem RdRows.kp {H H' : Hp} {R p : Addr} {as : List Addr} {f : Nat → Nat → Int} (h : RdRows H R as f) (k : Kp p H H') (nR : R ≠ p) (na : p ∉ as) : RdRows H' R as f :=
  ⟨k _ _ nR h.1, h.2.1, fun r a e => k _ _ (fun z => na (by rw [← z]; exact List.mem_of_getElem? e)) (h.2.2 r a e)⟩
/-- an address that holds no list is none of theirs -/
theorem RdRows.out {H : Hp} {R p : Addr} {as : List Addr} {f : Nat → Nat → Int} (h : RdRows H R as f) (n : ∀ xs, H p ≠ some (.lst xs)) : R ≠ p ∧ p ∉ as :=
  ⟨fun z => n _ (by rw [← z]; exact h.1), fun m => by
    obtain ⟨k, hk⟩ := List.mem_iff_getElem?.mp m
    exact n _ (h.2.2 k p hk)⟩
theorem OwRows.rd {H0 H : Hp} {R : Addr} {as : List Addr} {f : Nat → Nat → Int} (h : OwRows H0 H R as f) : RdRows H R as f := h.1
section
variable {σ : L2.St} {H : Hp} {Q : VK} {wi : TI} {J : It} {G : Hp → Prop} {Y : Nat → Hp → V → Hp → Prop} {g : TG} {te : TE} {vs : List Nat}
/-- a comprehension that makes rows -/
theorem z_rowsW (f : Nat → Nat → Int) (w : Walk J 48 G Y) (hi : ∀ R : It → Hp → Prop, R J H → wi σ H R) (hG : ∀ H', Same H H' → G H')
    (hs : ∀ i x H' H2 (R : VK), i < 48 → Same H H' → Y i H' x H2 → (∀ a H3, H' a = none → Same H' H3 → H3 a = some (.lst ((mrow f i).map V.int)) → R (.ref a) H3) → g x (wipe σ vs) H2 fun σ2 H3 => wipe σ2 vs = wipe σ vs ∧ te σ2 H3 R)
    (q : ∀ R H' as, Same H H' → OwRows H H' R as f → Q (.ref R) H') : tLc wi g tYes te vs σ H Q :=
  Cw.z_objsW w (by decide) hi hG hs fun D H' as fD s hD la nd nD hv => q D H' as s ⟨⟨hD, la, fun r a ha => (hv r a ha).2⟩, nd, nD, fD, fun a ha => by
    obtain ⟨k, hk⟩ := List.mem_iff_getElem?.mp ha
    exact (hv k a hk).1⟩
/-- a comprehension that makes one row -/
theorem z_rowW (f : Nat → Nat → Int) (r : Nat) (w : Walk J 48 G Y) (hi : ∀ R : It → Hp → Prop, R J H → wi σ H R) (hG : ∀ H', Same H H' → G H')
    (hs : ∀ i x H' H2 (R : VK), i < 48 → Same H H' → Y i H' x H2 → (∀ H3, Same H' H3 → R (.int (f r i)) H3) → g x (wipe σ vs) H2 fun σ2 H3 => wipe σ2 vs = wipe σ vs ∧ te σ2 H3 R)
    (q : ∀ D H', H D = none → Same H H' → H' D = some (.lst ((mrow f r).map V.int)) → Q (.ref D) H') : tLc wi g tYes te vs σ H Q :=
  Cw.z_valsW w (by decide) hi hG (by rw [List.length_map, mrow_len]) (fun i x v H' H2 R hv hi' s y c => hs i x H' H2 R hi' s y fun H3 s3 => by
    obtain ⟨rfl, _⟩ := mrow_i hv
    exact c H3 s3) q
theorem z_blank {k : Nat} (hw : ∀ x, wipe ((wipe σ vs).set k (some x)) vs = wipe σ vs) (q : ∀ R H' as, Same H H' → OwRows H H' R as (fun _ _ => 0) → Q (.ref R) H') :
    tLc (iRng1 (tCons (tC (.int 48)) tNil)) (gName k) tYes (tOp rRep (tLst (tCons (tC (.int 0)) tNil)) (tC (.int 48))) vs σ H Q := by
  refine z_rowsW _ walk_range (fun R h => Cw.z_iRng (k := 48) (fun S h => by walk_at "z"; exact h) (by decide) h) (fun _ _ => trivial) (fun i x H' H2 R hi s y c => ?_) q
  obtain ⟨rfl, rfl⟩ := y
  show wipe _ vs = wipe σ vs ∧ _
  refine ⟨hw _, ?_⟩
  walk_at "z"
  intro a1 H1 f1 s1 h1
  walk_at "z"
  refine z_rep 48 h1 rfl (by decide) fun a2 H2 f2 s2 h2 => c a2 H2 (fresh_of s1 f2) (s1.trans s2) ?_
  rw [h2, rep48]
  rfl
end
def sp__law_blank : Sp := fun vs H Q _ => vs = [] ∧ ∀ R H' as, Same H H' → OwRows H H' R as (fun _ _ => 0) → Q (.ref R) H'
section
theorem ok__law_blank {P : Program} {w : World} {K : PySem.W.Frag} {mg : Str → Option Value} {base : Heap} {A : Nat → Addr} {D : Nat → FuncData} (T : Txt K mg A D) : FnOk P w K mg base (L2.CX P w) 1 (A 36) (D 36) [] (sp__law_blank) := by
  refine T.F__law_blank.okX sc__law_blank (fun vs H Q E h => ?_) (fun cdv A' outer s H vs Q E hr h => ?_)
  · obtain ⟨rfl, _⟩ := h
    rfl
  obtain ⟨rfl, q⟩ := h
  refine ⟨_, (pss_one (ps_ret (pe_lc (own := [("row", 0)]) (g := gName 0) (tt := tYes) rfl sc__law_blank.nd (pi_range1 (by rfl) T.z_range (pa_cons pe_int pa_nil)) (blkOk_by (N := ["row"]) (sc := defScope s__law_blank) (by decide +kernel)) (fun _ _ _ _ _ => pg_name (i := 0) sc__law_blank.nd rfl (Or.inl rfl)) (fun _ _ _ _ _ => pts_nil) (fun _ _ _ _ _ => (pe_op op_rep (pe_lst (pa_cons pe_int pa_nil)) pe_int))))), ?_⟩
  walk_at "z"
  exact z_blank (fun _ => rfl) fun R H' as s o => q R H' as s o
end
theorem walk48 {K : PySem.W.Frag} {R : Addr} {as : List Addr} (h : as.length = 48) : Walk (Itl K R) 48 (fun H => SqL K H R (as.map V.ref)) (YAt (as.map V.ref)) := by
  have := walk_list (K := K) (a := R) (xs := as.map V.ref)
  rwa [List.length_map, h] at this
theorem walkrow {K : PySem.W.Frag} {a : Addr} {f : Nat → Nat → Int} {r : Nat} : Walk (Itl K a) 48 (fun H => SqL K H a ((mrow f r).map V.int)) (YAt ((mrow f r).map V.int)) := by
  have := walk_list (K := K) (a := a) (xs := (mrow f r).map V.int)
  rwa [List.length_map, mrow_len] at this
theorem walk0 {n : Nat} : Walk (Itr 0 n) n (fun _ => True) (fun i H x H' => H' = H ∧ x = .int (i : Int)) :=
  walk_range.mono (fun _ h => h) fun i H x H' _ _ y => ⟨y.1, y.2.trans (congrArg V.int (Int.zero_add _))⟩
/-- a copy of the rows -/
def sp__law_copy : Sp := fun vs H Q _ => ∃ (R : Addr) (as : List Addr) (f : Nat → Nat → Int), vs = [.ref R] ∧ RdRows H R as f ∧ ∀ R' H' as', Same H H' → OwRows H H' R' as' f → Q (.ref R') H'
theorem row_at {H : Hp} {R : Addr} {as : List Addr} {f : Nat → Nat → Int} (h : RdRows H R as f) {r : Nat} (hr : r < 48) : ∃ a, as[r]? = some a ∧ (as.map V.ref)[r]? = some (.ref a) ∧ H a = some (.lst ((mrow f r).map V.int)) := by
  obtain ⟨a, ha⟩ : ∃ a, as[r]? = some a := ⟨_, List.getElem?_eq_getElem (by have := h.2.1; omega)⟩
  exact ⟨a, ha, by rw [List.getElem?_map, ha]; rfl, h.2.2 r a ha⟩
theorem cell_at (f : Nat → Nat → Int) (r : Nat) {c : Nat} (hc : c < 48) : atI ((mrow f r).map V.int) (c : Int) = some (.int (f r c)) := atI_nat (by rw [List.getElem?_map, mrow_get _ _ hc]; rfl)
/-! ### the picture -/
/-- a picture at p with the weights f -/
def Pic (C : Addr) (H : Hp) (p : Addr) (f : Nat → Nat → Int) : Prop := ∃ (dx R : Addr) (as : List Addr), H p = some (.ins C dx [("_weights", .ref R)]) ∧ RdRows H R as f
theorem Pic.mono {C p : Addr} {H H' : Hp} {f : Nat → Nat → Int} (h : Pic C H p f) (s : Same H H') : Pic C H' p f := by
  obtain ⟨dx, R, as, e, rd⟩ := h
  exact ⟨dx, R, as, s _ _ e, rd.mono s⟩
theorem Pic.congr {C p : Addr} {H : Hp} {f g : Nat → Nat → Int} (h : Pic C H p f) (e : ∀ r c, r < 48 → c < 48 → f r c = g r c) : Pic C H p g := by
  obtain ⟨dx, R, as, h1, rd⟩ := h
  exact ⟨dx, R, as, h1, rd.congr e⟩
theorem Pic.nolst {C p : Addr} {H : Hp} {f : Nat → Nat → Int} (h : Pic C H p f) : ∀ xs, H p ≠ some (.lst xs) := fun xs e => by
  obtain ⟨dx, R, as, h1, rd⟩ := h
  rw [h1] at e
  cases e
theorem Pic.kp {C p q : Addr} {H H' : Hp} {f : Nat → Nat → Int} (h : Pic C H p f) (k : Kp q H H') (ne : p ≠ q) (n : ∀ xs, H q ≠ some (.lst xs)) : Pic C H' p f := by
  obtain ⟨dx, R, as, e, rd⟩ := h
  obtain ⟨o1, o2⟩ := rd.out n
  exact ⟨dx, R, as, k _ _ ne e, rd.kp k o1 o2⟩
/-- a picture whose rows are new ones -/
def PicF (C : Addr) (H H' : Hp) (p : Addr) (f : Nat → Nat → Int) : Prop := ∃ (dx R : Addr) (as : List Addr), H' p = some (.ins C dx [("_weights", .ref R)]) ∧ RdRows H' R as f ∧ H R = none ∧ ∀ a ∈ as, H a = none
def sp_Picture___init__ (C : Addr) : Sp := fun vs H Q _ => ∃ (p dx : Addr), vs = [.ref p] ∧ H p = some (.ins C dx []) ∧ ∀ H', Kp p H H' → Pic C H' p (fun _ _ => 0) → Q .non H'
section
theorem ok_Picture___init__ {P : Program} {w : World} {K : PySem.W.Frag} {mg : Str → Option Value} {base : Heap} {A : Nat → Addr} {D : Nat → FuncData} (T : Txt K mg A D) : FnOk P w K mg base (L2.CX P w) 2 (A 12) (D 12) ["self"] (sp_Picture___init__ (A 2)) := by
  refine T.F_Picture___init__.okX sc_Picture___init__ (fun vs H Q E h => ?_) (fun cdv A' outer s H vs Q E hr h => ?_)
  · obtain ⟨p, dx, rfl, _⟩ := h
    rfl
  obtain ⟨p, dx, rfl, hp, q⟩ := h
  refine ⟨_, (pss_one (ps_fld (pv 0) (pe_call0 (ok_blank_rows T) (hr.mono (by decide)) (by rfl) T.m_blank_rows T.F_blank_rows.kp T.b_blank_rows .nil (passes_call (takes_of rfl rfl rfl rfl) (fun _ _ _ _ h => h))) rfl)), ?_⟩
  walk_at "z"
  refine ⟨rfl, fun R H1 as s1 ow => ?_⟩
  walk_at "z"
  refine Cw.z_sfld (s1 _ _ hp) T.q_Picture T.nf_Picture__weights (by decide) ?_
  walk_at "z"
  have hp1 := s1 _ _ hp
  have no : ∀ xs, H1 p ≠ some (.lst xs) := fun xs e => by rw [hp1] at e; cases e
  have kk : Kp p H1 (upd H1 p (.ins (A 2) dx (putF "_weights" (.ref R) []))) := fun b o hb e => by rw [upd_ne hb]; exact e
  obtain ⟨o1, o2⟩ := ow.1.out no
  exact q _ ((kp_of s1).trans' kk) ⟨dx, R, as, upd_same, ow.1.kp kk o1 o2⟩
end
theorem pic_new {C x dx : Addr} {H : Hp} {R : VK} {E : XK} (nx : H x = none) (ndx : H dx = none) (q : ∀ H', Same H H' → Pic C H' x (fun _ _ => 0) → R .non H') :
    sp_Picture___init__ C (.ref x :: ([] ++ [])) (upd (upd H dx (.own x)) x (.ins C dx [])) R E :=
  ⟨x, dx, rfl, upd_same, fun H' k p => q H' (fun b o e => k b o (ne_of_none e nx) (by rw [upd_ne (ne_of_none e nx), upd_ne (ne_of_none e ndx)]; exact e)) p⟩
def InR (f : Nat → Nat → Int) : Prop := ∀ r c, r < 48 → c < 48 → -9999 ≤ f r c ∧ f r c ≤ 9999
def BdR (f : Nat → Nat → Int) : Prop := ∀ r c, r < 48 → c < 48 → (f r c).natAbs < 2 ^ 200
theorem walkzip {K : PySem.W.Frag} {a b : Addr} {xs ys : List V} (h1 : xs.length = 48) (h2 : ys.length = 48) : Walk (Itz K a b) 48 (fun H => SqL K H a xs ∧ SqL K H b ys) (YPair (fun i => xs[i]?) (fun i => ys[i]?)) :=
  walk_zip (by rw [h1, h2]; rfl)
/-- a table of numbers from -most to most -/
def LeR (m : Int) (f : Nat → Nat → Int) : Prop := ∀ r c, r < 48 → c < 48 → -m ≤ f r c ∧ f r c ≤ m
/-- the same rows where all but p is as it was -/
theorem OwRows.eqo {H H1 H2 : Hp} {p R : Addr} {as : List Addr} {f : Nat → Nat → Int} (h : OwRows H H1 R as f) (e : ∀ b, b ≠ p → H2 b = H1 b) (n : R ≠ p) (na : ∀ a ∈ as, a ≠ p) : OwRows H H2 R as f :=
  ⟨⟨by rw [e _ n]; exact h.1.1, h.1.2.1, fun r a ha => by rw [e _ (na a (List.mem_of_getElem? ha))]; exact h.1.2.2 r a ha⟩, h.2⟩
theorem OwRows.kpo {H H1 H2 : Hp} {p R : Addr} {as : List Addr} {f : Nat → Nat → Int} (h : OwRows H H1 R as f) (k : Kp p H1 H2) (hp : H p ≠ none) : OwRows H H2 R as f :=
  ⟨h.1.kp k (fun z => hp (by rw [← z]; exact h.2.2.2.1)) (fun m => hp (h.2.2.2.2 p m)), h.2⟩
theorem OwRows.base {H H1 H2 : Hp} {p R : Addr} {as : List Addr} {f : Nat → Nat → Int} (h : OwRows H1 H2 R as f) (k : Kp p H H1) (hp : H1 p ≠ none) : OwRows H H2 R as f := by
  have n : ∀ b, H1 b = none → H b = none := fun b e => kp_none k e fun z => hp (by rw [← z]; exact e)
  exact ⟨h.1, h.2.1, h.2.2.1, n _ h.2.2.2.1, fun a ha => n _ (h.2.2.2.2 a ha)⟩
theorem repc (x : Int) (i : Nat) : List.replicate 48 (V.int x) = (mrow (fun _ _ => x) i).map V.int := by
  unfold mrow
  rw [List.map_map]
  refine List.ext_getElem? fun k => ?_
  by_cases hk : k < 48
  · rw [List.getElem?_replicate, if_pos hk, List.getElem?_map, List.getElem?_range hk]
    rfl
  · rw [List.getElem?_eq_none (by simp; omega), List.getElem?_eq_none (by simp; omega)]
/-! ### what leaves the range -/
def FitI (i : Int) : Prop := -9999 ≤ i ∧ i ≤ 9999
def sp_checked (A : Nat → Addr) : Sp := fun vs H Q E => ∃ i : Int, vs = [.int i] ∧ (FitI i → Q (.int i) H) ∧ (¬ FitI i → E (.ref (A 1)) none H)
section
theorem ok_checked {P : Program} {w : World} {K : PySem.W.Frag} {mg : Str → Option Value} {base : Heap} {A : Nat → Addr} {D : Nat → FuncData} (T : Txt K mg A D) : FnOk P w K mg base (L2.CX P w) 1 (A 24) (D 24) ["weight"] (sp_checked A) := by
  refine T.F_checked.okX sc_checked (fun vs H Q E h => ?_) (fun cdv A' outer s H vs Q E hr h => ?_)
  · obtain ⟨i, rfl, _⟩ := h
    rfl
  obtain ⟨i, rfl, q, no⟩ := h
  refine ⟨_, (pss_cons (ps_if (pt_not (pt_chain op_le op_le (pe_un un_neg (Z.pe_globE T.c_GREATEST_WEIGHT)) (pv 0) (Z.pe_globE T.c_GREATEST_WEIGHT)))
  (pss_one (ps_raise rfl (takes_of rfl rfl rfl rfl) (Z.pmk T.x_TooGreat (by rfl))))
  pss_nil)
  (pss_one (ps_ret (pv 0)))), ?_⟩
  walk_at "z"
  refine z_if (fun h1 => ?_) (fun h => ⟨false, rfl, no fun z => h z.1⟩)
  walk_at "z"
  refine z_ifN (fun h => no fun z => h z.2) (fun h2 => ?_)
  walk_at "z"
  exact q ⟨h1, h2⟩
end
def sp_sums (A : Nat → Addr) : Sp := fun vs H Q E => ∃ (R S : Addr) (as bs : List Addr) (f g : Nat → Nat → Int) (k : Int), vs = [.ref R, .ref S, .int k] ∧ RdRows H R as f ∧ RdRows H S bs g ∧ k.natAbs < 2 ^ 200 ∧ BdR g ∧
  (InR (fun r c => f r c + k * g r c) → ∀ R' H' as', Same H H' → OwRows H H' R' as' (fun r c => f r c + k * g r c) → Q (.ref R') H') ∧ (¬ InR (fun r c => f r c + k * g r c) → ∀ H', Same H H' → E (.ref (A 1)) none H')
section
theorem ok_sums {P : Program} {w : World} {K : PySem.W.Frag} {mg : Str → Option Value} {base : Heap} {A : Nat → Addr} {D : Nat → FuncData} (T : Txt K mg A D) : FnOk P w K mg base (L2.CX P w) 2 (A 23) (D 23) ["rows", "others", "factor"] (sp_sums A) := by
  refine T.F_sums.okX sc_sums (fun vs H Q E h => ?_) (fun cdv A' outer s H vs Q E hr h => ?_)
  · obtain ⟨R, S, as, bs, f, g, k, rfl, _⟩ := h
    rfl
  obtain ⟨R, S, as, bs, f, g, k, rfl, rd, rd2, hk, bg, q, no⟩ := h
  refine ⟨_, (pss_one (ps_ret (Xc.pe_lcX (own := [("row", 5), ("other", 6)]) (g := gTup K 2 (gCons (gName 5) (gCons (gName 6) gNil))) (tt := tYes) (Xc.tk_def rfl rfl (takes_of rfl rfl rfl rfl)) rfl sc_sums.nd (pi_zip (by rfl) T.z_zip (pa_cons (pv 0) (pa_cons (pv 1) pa_nil))) (blkOk_by (N := ["rows", "others", "factor", "item", "addend", "row", "other"]) (sc := defScope s_sums) (by decide +kernel)) (fun _ _ _ _ _ _ tk => pg_tup (by rfl) (pgs_cons (pg_name (i := 5) sc_sums.nd rfl (Or.inl rfl)) (pgs_cons (pg_name (i := 6) sc_sums.nd rfl (Or.inl rfl)) pgs_nil))) (fun _ _ _ _ _ _ tk => pts_nil) (fun _ _ _ _ _ _ tk => (Xc.pe_lcX (own := [("item", 3), ("addend", 4)]) (g := gTup K 2 (gCons (gName 3) (gCons (gName 4) gNil))) (tt := tYes) tk rfl sc_sums.nd (show PI _ _ _ (iZip K _) from (pi_zip (by rfl) T.z_zip (pa_cons (pv 5) (pa_cons (pv 6) pa_nil)))) (blkOk_by (N := ["rows", "others", "factor", "item", "addend", "row", "other"]) (by rfl)) (fun _ _ _ _ _ _ tk => pg_tup (by rfl) (pgs_cons (pg_name (i := 3) sc_sums.nd rfl (Or.inl rfl)) (pgs_cons (pg_name (i := 4) sc_sums.nd rfl (Or.inl rfl)) pgs_nil))) (fun _ _ _ _ _ _ tk => pts_nil) (fun _ _ _ _ _ _ tk => (pe_call (ok_checked T) (hr.mono (by decide)) (by rfl) T.m_checked T.F_checked.kp T.b_checked .nil (Xc.pass tk) (pa_cons (pe_op op_add (pv 3) (pe_op op_mulW (pv 2) (pv 4))) pa_nil)))))))), ?_⟩
  walk_at "z"
  have l1 : (as.map V.ref).length = 48 := by rw [List.length_map, rd.2.1]
  have l2 : (bs.map V.ref).length = 48 := by rw [List.length_map, rd2.2.1]
  by_cases ir : InR (fun r c => f r c + k * g r c)
  · replace q := q ir
    clear no
    refine z_rowsW _ (walkzip (K := K) (a := R) (b := S) l1 l2) (fun S' h => Cw.z_iZip (fun S h => by walk_at "z"; exact h) (.inl (.inl rd.1)) (.inl (.inl rd2.1)) h) (fun H' s => ⟨.inl (.inl (s _ _ rd.1)), .inl (.inl (s _ _ rd2.1))⟩) (fun i x H' H2 S' hi s y c => ?_) q
    obtain ⟨t, u, v, rfl, ft, rfl, hu, hv⟩ := y
    obtain ⟨a, ha, hma, hra⟩ := row_at rd hi
    obtain ⟨b, hb, hmb, hrb⟩ := row_at rd2 hi
    have hu : (as.map V.ref)[i]? = some u := hu
    have hv : (bs.map V.ref)[i]? = some v := hv
    rw [hma] at hu
    rw [hmb] at hv
    cases hu
    cases hv
    have s2 : Same H' (upd H' t (.tup [.ref a, .ref b])) := same_upd ft
    have ht : upd H' t (HO.tup [.ref a, .ref b]) t = some (.tup [.ref a, .ref b]) := upd_same
    generalize upd H' t (HO.tup [.ref a, .ref b]) = H2 at *
    refine z_gT (.inl (.inl ht)) rfl ?_
    walk_at "z"
    refine ⟨rfl, ?_⟩
    walk_at "z"
    have hra2 := s2 _ _ (s _ _ hra)
    have hrb2 := s2 _ _ (s _ _ hrb)
    refine z_rowW (fun r c => f r c + k * g r c) i (walkzip (K := K) (a := a) (b := b) (by rw [List.length_map, mrow_len]) (by rw [List.length_map, mrow_len])) (fun S' h => Cw.z_iZip (fun S h => by walk_at "z"; exact h) (.inl (.inl hra2)) (.inl (.inl hrb2)) h) (fun H' s => ⟨.inl (.inl (s _ _ hra2)), .inl (.inl (s _ _ hrb2))⟩) (fun j x H3 H4 S3 hj s3 y c3 => ?_) (fun D H3 fD s3 hD => c D H3 (fresh_of s2 fD) (s2.trans s3) hD)
    obtain ⟨t2, u, v, rfl, ft2, rfl, hu, hv⟩ := y
    obtain ⟨rfl, _⟩ := mrow_i hu
    obtain ⟨rfl, _⟩ := mrow_i hv
    have s4 : Same H3 (upd H3 t2 (.tup [.int (f i j), .int (g i j)])) := same_upd ft2
    have ht2 : upd H3 t2 (HO.tup [.int (f i j), .int (g i j)]) t2 = some (.tup [.int (f i j), .int (g i j)]) := upd_same
    generalize upd H3 t2 (HO.tup [.int (f i j), .int (g i j)]) = H4 at *
    refine z_gT (.inl (.inl ht2)) rfl ?_
    walk_at "z"
    refine ⟨rfl, ?_⟩
    walk_at "z"
    refine z_I (wide_mul hk (bg i j hi hj) (by decide) (by decide) (by decide)) ?_
    walk_at "z"
    exact ⟨_, rfl, fun _ => c3 H4 s4, fun z => absurd (ir i j hi hj) z⟩
  · replace no := no ir
    refine Xc.z_failW (fun i => ∀ j, j < 48 → FitI (f i j + k * g i j)) (walkzip (K := K) (a := R) (b := S) l1 l2) (by decide) (fun S' h => Cw.z_iZip (fun S h => by walk_at "z"; exact h) (.inl (.inl rd.1)) (.inl (.inl rd2.1)) h) (fun H' s => ⟨.inl (.inl (s _ _ rd.1)), .inl (.inl (s _ _ rd2.1))⟩) (fun z => ir fun r c hr hc => z r hr c hc) (fun i x H' H2 S' hi s y c => ?_)
    obtain ⟨t, u, v, rfl, ft, rfl, hu, hv⟩ := y
    obtain ⟨a, ha, hma, hra⟩ := row_at rd hi
    obtain ⟨b, hb, hmb, hrb⟩ := row_at rd2 hi
    have hu : (as.map V.ref)[i]? = some u := hu
    have hv : (bs.map V.ref)[i]? = some v := hv
    rw [hma] at hu
    rw [hmb] at hv
    cases hu
    cases hv
    have s2 : Same H' (upd H' t (.tup [.ref a, .ref b])) := same_upd ft
    have ht : upd H' t (HO.tup [.ref a, .ref b]) t = some (.tup [.ref a, .ref b]) := upd_same
    generalize upd H' t (HO.tup [.ref a, .ref b]) = H2 at *
    refine z_gT (.inl (.inl ht)) rfl ?_
    walk_at "z"
    refine ⟨rfl, ?_⟩
    walk_at "z"
    have hra2 := s2 _ _ (s _ _ hra)
    have hrb2 := s2 _ _ (s _ _ hrb)
    by_cases ok : ∀ j, j < 48 → FitI (f i j + k * g i j)
    · refine z_rowW (fun r c => f r c + k * g r c) i (walkzip (K := K) (a := a) (b := b) (by rw [List.length_map, mrow_len]) (by rw [List.length_map, mrow_len])) (fun S' h => Cw.z_iZip (fun S h => by walk_at "z"; exact h) (.inl (.inl hra2)) (.inl (.inl hrb2)) h) (fun H' s => ⟨.inl (.inl (s _ _ hra2)), .inl (.inl (s _ _ hrb2))⟩) (fun j x H3 H4 S3 hj s3 y c3 => ?_) (fun D H3 fD s3 hD => c ok _ H3 (s2.trans s3))
      obtain ⟨t2, u, v, rfl, ft2, rfl, hu, hv⟩ := y
      obtain ⟨rfl, _⟩ := mrow_i hu
      obtain ⟨rfl, _⟩ := mrow_i hv
      have s4 : Same H3 (upd H3 t2 (.tup [.int (f i j), .int (g i j)])) := same_upd ft2
      have ht2 : upd H3 t2 (HO.tup [.int (f i j), .int (g i j)]) t2 = some (.tup [.int (f i j), .int (g i j)]) := upd_same
      generalize upd H3 t2 (HO.tup [.int (f i j), .int (g i j)]) = H4 at *
      refine z_gT (.inl (.inl ht2)) rfl ?_
      walk_at "z"
      refine ⟨rfl, ?_⟩
      walk_at "z"
      refine z_I (wide_mul hk (bg i j hi hj) (by decide) (by decide) (by decide)) ?_
      walk_at "z"
      exact ⟨_, rfl, fun _ => c3 H4 s4, fun z => absurd (ok j hj) z⟩
    · refine Xc.z_failW (fun j => FitI (f i j + k * g i j)) (walkzip (K := K) (a := a) (b := b) (by rw [List.length_map, mrow_len]) (by rw [List.length_map, mrow_len])) (by decide) (fun S' h => Cw.z_iZip (fun S h => by walk_at "z"; exact h) (.inl (.inl hra2)) (.inl (.inl hrb2)) h) (fun H' s => ⟨.inl (.inl (s _ _ hra2)), .inl (.inl (s _ _ hrb2))⟩) ok (fun j x H3 H4 S3 hj s3 y c3 => ?_)
      obtain ⟨t2, u, v, rfl, ft2, rfl, hu, hv⟩ := y
      obtain ⟨rfl, _⟩ := mrow_i hu
      obtain ⟨rfl, _⟩ := mrow_i hv
      have s4 : Same H3 (upd H3 t2 (.tup [.int (f i j), .int (g i j)])) := same_upd ft2
      have ht2 : upd H3 t2 (HO.tup [.int (f i j), .int (g i j)]) t2 = some (.tup [.int (f i j), .int (g i j)]) := upd_same
      generalize upd H3 t2 (HO.tup [.int (f i j), .int (g i j)]) = H4 at *
      refine z_gT (.inl (.inl ht2)) rfl ?_
      walk_at "z"
      refine ⟨rfl, ?_⟩
      walk_at "z"
      refine z_I (wide_mul hk (bg i j hi hj) (by decide) (by decide) (by decide)) ?_
      walk_at "z"
      exact ⟨_, rfl, fun z => c3 z _ H4 s4, fun _ => no H4 (((s.trans s2).trans s3).trans s4)⟩
end
def sp_Picture_add_rows (C : Addr) (A : Nat → Addr) : Sp := fun vs H Q E => ∃ (p S : Addr) (bs : List Addr) (f g : Nat → Nat → Int) (k : Int), vs = [.ref p, .ref S, .int k] ∧ Pic C H p f ∧ RdRows H S bs g ∧ k.natAbs < 2 ^ 200 ∧ BdR g ∧
  (InR (fun r c => f r c + k * g r c) → ∀ H', Kp p H H' → PicF C H H' p (fun r c => f r c + k * g r c) → Q .non H') ∧ (¬ InR (fun r c => f r c + k * g r c) → ∀ H', Same H H' → E (.ref (A 1)) none H')
section
theorem ok_Picture_add_rows {P : Program} {w : World} {K : PySem.W.Frag} {mg : Str → Option Value} {base : Heap} {A : Nat → Addr} {D : Nat → FuncData} (T : Txt K mg A D) : FnOk P w K mg base (L2.CX P w) 3 (A 14) (D 14) ["self", "rows", "factor"] (sp_Picture_add_rows (A 2) A) := by
  refine T.F_Picture_add_rows.okX sc_Picture_add_rows (fun vs H Q E h => ?_) (fun cdv A' outer s H vs Q E hr h => ?_)
  · obtain ⟨p, S, bs, f, g, k, rfl, _⟩ := h
    rfl
  obtain ⟨p, S, bs, f, g, k, rfl, hp, rd2, hk, bg, q, no⟩ := h
  refine ⟨_, (pss_one (ps_fld (pv 0) (pe_call (ok_sums T) (hr.mono (by decide)) (by rfl) T.m_sums T.F_sums.kp T.b_sums .nil (passes_call (takes_of rfl rfl rfl rfl) (fun _ _ _ _ h => h)) (pa_cons (pe_fld (pv 0) rfl) (pa_cons (pv 1) (pa_cons (pv 2) pa_nil)))) rfl)), ?_⟩
  have no' := hp.nolst
  obtain ⟨dx, R, as, e, rd⟩ := hp
  walk_at "z"
  refine Cw.z_fld e T.q_Picture T.nf_Picture__weights Cw.look1 ?_
  walk_at "z"
  refine ⟨R, S, as, bs, f, g, k, rfl, rd, rd2, hk, bg, fun ir R' H1 as' s1 ow => ?_, fun ir H' s => no ir H' s⟩
  walk_at "z"
  have e1 := s1 _ _ e
  refine Cw.z_sfld e1 T.q_Picture T.nf_Picture__weights (by simp) ?_
  rw [Cw.put1]
  walk_at "z"
  have kk : Kp p H1 (upd H1 p (.ins (A 2) dx [("_weights", .ref R')])) := fun b o hb e => by rw [upd_ne hb]; exact e
  obtain ⟨o1, o2⟩ := ow.1.out (fun xs h => by rw [e1] at h; cases h)
  exact q ir _ ((kp_of s1).trans' kk) ⟨dx, R', as', upd_same, ow.1.kp kk o1 o2, ow.2.2.2.1, ow.2.2.2.2⟩
end
/-! ### sums, differences and negations of pictures -/
theorem PicF.pic {C p : Addr} {H H' : Hp} {f : Nat → Nat → Int} (h : PicF C H H' p f) : Pic C H' p f := by
  obtain ⟨dx, R, as, e, rd, _⟩ := h
  exact ⟨dx, R, as, e, rd⟩
def sp_own (C : Addr) (A : Nat → Addr) (k : Int) : Sp := fun vs H Q E => ∃ (p q : Addr) (f g : Nat → Nat → Int), vs = [.ref p, .ref q] ∧ Pic C H p f ∧ Pic C H q g ∧ BdR g ∧ (InR (fun r c => f r c + k * g r c) → ∀ x H', H x = none → Same H H' → PicF C H H' x (fun r c => f r c + k * g r c) → Q (.ref x) H') ∧ (¬ InR (fun r c => f r c + k * g r c) → ∀ H', Same H H' → E (.ref (A 1)) none H')
section
theorem ok_Picture___add__ {P : Program} {w : World} {K : PySem.W.Frag} {mg : Str → Option Value} {base : Heap} {A : Nat → Addr} {D : Nat → FuncData} (T : Txt K mg A D) : FnOk P w K mg base (L2.CX P w) 4 (A 19) (D 19) ["self", "other"] (sp_own (A 2) A 1) := by
  refine T.F_Picture___add__.okX sc_Picture___add__ (fun vs H Q E h => ?_) (fun cdv A' outer s H vs Q E hr h => ?_)
  · obtain ⟨p, q', f, g, rfl, _⟩ := h
    rfl
  obtain ⟨p, q', f, g, rfl, P, P2, bg, q, no⟩ := h
  refine ⟨_, (pss_cons (ps_set (i := 2) sc_Picture___add__.nd rfl (.inl rfl) (pe_make0 T.M_Picture (ok_Picture___init__ T) (hr.mono (by decide)) (by rfl) T.g_Picture T.b_Picture___init__ .nil (passes_call (takes_of rfl rfl rfl rfl) (fun _ _ _ _ h => h))))
  (pss_cons (ps_fld (pv 2) (pe_call (ok_sums T) (hr.mono (by decide)) (by rfl) T.m_sums T.F_sums.kp T.b_sums .nil (passes_call (takes_of rfl rfl rfl rfl) (fun _ _ _ _ h => h)) (pa_cons (pe_fld (pv 0) rfl) (pa_cons (pe_fld (pv 1) rfl) (pa_cons pe_int pa_nil)))) rfl)
  (pss_one (ps_ret (pv 2))))), ?_⟩
  obtain ⟨dx0, R, as, e, rd⟩ := id P
  obtain ⟨dx1, R1, as1, e1, rd1⟩ := id P2
  walk_at "z"
  intro x dx fx fdx nex
  refine pic_new fx fdx fun H2 s2 P3 => ⟨rfl, ?_⟩
  walk_at "z"
  refine Cw.z_fld (s2 _ _ e) T.q_Picture T.nf_Picture__weights Cw.look1 ?_
  walk_at "z"
  refine Cw.z_fld (s2 _ _ e1) T.q_Picture T.nf_Picture__weights Cw.look1 ?_
  walk_at "z"
  refine ⟨R, R1, as, as1, f, g, 1, rfl, rd.mono s2, rd1.mono s2, by decide, bg, fun ir R' H3 as' s3 ow => ?_, fun ir H' s => no ir H' (s2.trans s)⟩
  walk_at "z"
  obtain ⟨dx3, R3, as3, e3, rd3⟩ := P3
  have e4 := s3 _ _ e3
  refine Cw.z_sfld e4 T.q_Picture T.nf_Picture__weights (by simp) ?_
  rw [Cw.put1]
  walk_at "z"
  have kk : Kp x H3 (upd H3 x (.ins (A 2) dx3 [("_weights", .ref R')])) := fun b o hb e => by rw [upd_ne hb]; exact e
  obtain ⟨o1, o2⟩ := ow.1.out (fun xs h => by rw [e4] at h; cases h)
  exact q ir x _ fx (fun b o h => kk b o (ne_of_none h fx) (s3 _ _ (s2 _ _ h))) ⟨dx3, R', as', upd_same, ow.1.kp kk o1 o2, fresh_of s2 ow.2.2.2.1, fun a ha => fresh_of s2 (ow.2.2.2.2 a ha)⟩
theorem ok_Picture___sub__ {P : Program} {w : World} {K : PySem.W.Frag} {mg : Str → Option Value} {base : Heap} {A : Nat → Addr} {D : Nat → FuncData} (T : Txt K mg A D) : FnOk P w K mg base (L2.CX P w) 4 (A 20) (D 20) ["self", "other"] (sp_own (A 2) A (-1)) := by
  refine T.F_Picture___sub__.okX sc_Picture___sub__ (fun vs H Q E h => ?_) (fun cdv A' outer s H vs Q E hr h => ?_)
  · obtain ⟨p, q', f, g, rfl, _⟩ := h
    rfl
  obtain ⟨p, q', f, g, rfl, P, P2, bg, q, no⟩ := h
  refine ⟨_, (pss_cons (ps_set (i := 2) sc_Picture___sub__.nd rfl (.inl rfl) (pe_make0 T.M_Picture (ok_Picture___init__ T) (hr.mono (by decide)) (by rfl) T.g_Picture T.b_Picture___init__ .nil (passes_call (takes_of rfl rfl rfl rfl) (fun _ _ _ _ h => h))))
  (pss_cons (ps_fld (pv 2) (pe_call (ok_sums T) (hr.mono (by decide)) (by rfl) T.m_sums T.F_sums.kp T.b_sums .nil (passes_call (takes_of rfl rfl rfl rfl) (fun _ _ _ _ h => h)) (pa_cons (pe_fld (pv 0) rfl) (pa_cons (pe_fld (pv 1) rfl) (pa_cons (pe_un un_neg pe_int) pa_nil)))) rfl)
  (pss_one (ps_ret (pv 2))))), ?_⟩
  obtain ⟨dx0, R, as, e, rd⟩ := id P
  obtain ⟨dx1, R1, as1, e1, rd1⟩ := id P2
  walk_at "z"
  intro x dx fx fdx nex
  refine pic_new fx fdx fun H2 s2 P3 => ⟨rfl, ?_⟩
  walk_at "z"
  refine Cw.z_fld (s2 _ _ e) T.q_Picture T.nf_Picture__weights Cw.look1 ?_
  walk_at "z"
  refine Cw.z_fld (s2 _ _ e1) T.q_Picture T.nf_Picture__weights Cw.look1 ?_
  walk_at "z"
  refine ⟨R, R1, as, as1, f, g, -1, rfl, rd.mono s2, rd1.mono s2, by decide, bg, fun ir R' H3 as' s3 ow => ?_, fun ir H' s => no ir H' (s2.trans s)⟩
  walk_at "z"
  obtain ⟨dx3, R3, as3, e3, rd3⟩ := P3
  have e4 := s3 _ _ e3
  refine Cw.z_sfld e4 T.q_Picture T.nf_Picture__weights (by simp) ?_
  rw [Cw.put1]
  walk_at "z"
  have kk : Kp x H3 (upd H3 x (.ins (A 2) dx3 [("_weights", .ref R')])) := fun b o hb e => by rw [upd_ne hb]; exact e
  obtain ⟨o1, o2⟩ := ow.1.out (fun xs h => by rw [e4] at h; cases h)
  exact q ir x _ fx (fun b o h => kk b o (ne_of_none h fx) (s3 _ _ (s2 _ _ h))) ⟨dx3, R', as', upd_same, ow.1.kp kk o1 o2, fresh_of s2 ow.2.2.2.1, fun a ha => fresh_of s2 (ow.2.2.2.2 a ha)⟩
end
def sp__law_sum : Sp := fun vs H Q _ => ∃ (R S : Addr) (as bs : List Addr) (f g : Nat → Nat → Int) (k : Int), vs = [.ref R, .ref S, .int k] ∧ RdRows H R as f ∧ RdRows H S bs g ∧ k.natAbs < 2 ^ 200 ∧ BdR g ∧
  ∀ R' H' as', Same H H' → OwRows H H' R' as' (fun r c => f r c + k * g r c) → Q (.ref R') H'
section
theorem ok__law_sum {P : Program} {w : World} {K : PySem.W.Frag} {mg : Str → Option Value} {base : Heap} {A : Nat → Addr} {D : Nat → FuncData} (T : Txt K mg A D) : FnOk P w K mg base (L2.CX P w) 1 (A 37) (D 37) ["rows", "other", "times"] (sp__law_sum) := by
  refine T.F__law_sum.okX sc__law_sum (fun vs H Q E h => ?_) (fun cdv A' outer s H vs Q E hr h => ?_)
  · obtain ⟨R, S, as, bs, f, g, k, rfl, _⟩ := h
    rfl
  obtain ⟨R, S, as, bs, f, g, k, rfl, rd, rd2, hk, bg, q⟩ := h
  refine ⟨_, (pss_one (ps_ret (pe_lc (own := [("row", 4)]) (g := gName 4) (tt := tYes) rfl sc__law_sum.nd (pi_range1 (by rfl) T.z_range (pa_cons pe_int pa_nil)) (blkOk_by (N := ["rows", "other", "times", "column", "row"]) (sc := defScope s__law_sum) (by decide +kernel)) (fun _ _ _ _ _ => pg_name (i := 4) sc__law_sum.nd rfl (Or.inr rfl)) (fun _ _ _ _ _ => pts_nil) (fun _ _ _ _ _ => (pe_lc (own := [("column", 3)]) (g := gName 3) (tt := tYes) rfl sc__law_sum.nd (pi_range1 (by rfl) T.z_range (pa_cons pe_int pa_nil)) (blkOk_by (N := ["rows", "other", "times", "column", "row"]) (by rfl)) (fun _ _ _ _ _ => pg_name (i := 3) sc__law_sum.nd rfl (Or.inl rfl)) (fun _ _ _ _ _ => pts_nil) (fun _ _ _ _ _ => (pe_op op_add (pe_ix (show IxR _ (rIxL K) from ix_list) (pe_ix (show IxR _ (rIxL K) from ix_list) (pv 0) (pv 4) (fun _ _ => rfl)) (pv 3) (fun _ _ => rfl)) (pe_op op_mulW (pv 2) (pe_ix (show IxR _ (rIxL K) from ix_list) (pe_ix (show IxR _ (rIxL K) from ix_list) (pv 1) (pv 4) (fun _ _ => rfl)) (pv 3) (fun _ _ => rfl)))))))))), ?_⟩
  walk_at "z"
  refine z_rowsW (fun r c => f r c + k * g r c) walk0 (fun R h => Cw.z_iRng (k := 48) (fun S h => by walk_at "z"; exact h) (by decide) h) (fun _ _ => trivial) (fun i x H' H2 S' hi s y c => ?_) q
  obtain ⟨rfl, rfl⟩ := y
  refine ⟨rfl, ?_⟩
  refine z_rowW (fun r c => f r c + k * g r c) i walk0 (fun R h => Cw.z_iRng (k := 48) (fun S h => by walk_at "z"; exact h) (by decide) h) (fun _ _ => trivial) (fun j x H3 H4 S3 hj s3 y c3 => ?_) (fun D H3 fD s3 hD => c D H3 fD s3 hD)
  obtain ⟨rfl, rfl⟩ := y
  have s4 := s.trans s3
  obtain ⟨a, ha, hma, hra⟩ := row_at (rd.mono s4) hi
  obtain ⟨b, hb, hmb, hrb⟩ := row_at (rd2.mono s4) hi
  refine ⟨rfl, ?_⟩
  walk_at "z"
  refine z_ixL (.inl (.inl (s4 _ _ rd.1))) (atI_nat hma) ?_
  walk_at "z"
  refine z_ixL (.inl (.inl hra)) (cell_at f i hj) ?_
  walk_at "z"
  refine z_ixL (.inl (.inl (s4 _ _ rd2.1))) (atI_nat hmb) ?_
  walk_at "z"
  refine z_ixL (.inl (.inl hrb)) (cell_at g i hj) ?_
  refine z_I (wide_mul hk (bg i j hi hj) (by decide) (by decide) (by decide)) ?_
  walk_at "z"
  exact c3 _ (Same.refl _)
end
/-! ### the total, the pixels that are on -/
def tot (f : Nat → Nat → Int) : Int := ((List.range 48).map fun r => (mrow f r).sum).sum
theorem mrow_self (f : Nat → Nat → Int) (r : Nat) : ((List.range 48).map (f r)) = mrow f r := rfl
def sp_Picture_total (C : Addr) : Sp := fun vs H Q _ => ∃ (p : Addr) (f : Nat → Nat → Int), vs = [.ref p] ∧ Pic C H p f ∧ ∀ H', Same H H' → Q (.int (tot f)) H'
section
theorem ok_Picture_total {P : Program} {w : World} {K : PySem.W.Frag} {mg : Str → Option Value} {base : Heap} {A : Nat → Addr} {D : Nat → FuncData} (T : Txt K mg A D) : FnOk P w K mg base (L2.CX P w) 1 (A 16) (D 16) ["self"] (sp_Picture_total (A 2)) := by
  refine T.F_Picture_total.okX sc_Picture_total (fun vs H Q E h => ?_) (fun cdv A' outer s H vs Q E hr h => ?_)
  · obtain ⟨p, f, rfl, _⟩ := h
    rfl
  obtain ⟨p, f, rfl, hp, q⟩ := h
  refine ⟨_, (pss_one (ps_ret (pe_callB (cr_sum rfl) (by rfl) T.z_sum (by decide +kernel) (pa_cons (pe_lc (own := [("row", 1)]) (g := gName 1) (tt := tYes) rfl sc_Picture_total.nd (pi_list (pe_fld (pv 0) rfl)) (blkOk_by (N := ["self", "row"]) (sc := defScope s_Picture_total) (by decide +kernel)) (fun _ _ _ _ _ => pg_name (i := 1) sc_Picture_total.nd rfl (Or.inl rfl)) (fun _ _ _ _ _ => pts_nil) (fun _ _ _ _ _ => (pe_callB (show CallR _ (.builtin "sum") (rSum K) from cr_sum rfl) (by rfl) T.z_sum (by decide +kernel) (pa_cons (pv 1) pa_nil)))) pa_nil)))), ?_⟩
  obtain ⟨dx, R, as, e, rd⟩ := hp
  walk_at "z"
  refine Cw.z_valsW (ws := (List.range 48).map fun r => V.int (mrow f r).sum) (walk48 (K := K) (R := R) rd.2.1) (by decide) (fun S h => Cw.z_iList (fun S h => by walk_at "z"; refine Cw.z_fld e T.q_Picture T.nf_Picture__weights Cw.look1 ?_; exact h) (.inl (.inl rd.1)) h) (fun H' s => .inl (.inl (s _ _ rd.1))) (by simp) (fun i x v H' H2 S hv hi s y c => ?_) fun D H' fD s hD => ?_
  · obtain ⟨rfl, hx⟩ := y
    obtain ⟨a, ha, hm, hrow⟩ := row_at rd hi
    rw [hm] at hx
    cases hx
    rw [List.getElem?_map, List.getElem?_range hi] at hv
    cases hv
    walk_at "z"
    refine ⟨rfl, ?_⟩
    walk_at "z"
    exact Cw.z_sum (.inl (.inl (s _ _ hrow))) (c _ (Same.refl _))
  · refine Cw.z_sum (ns := (List.range 48).map fun r => (mrow f r).sum) (.inl (.inl ?_)) (q H' s)
    rw [hD, List.map_map]
    rfl
end
def pixR (f : Nat → Nat → Int) (r : Nat) : Nat → List GP
  | 0 => []
  | c + 1 => pixR f r c ++ (if f r c > 0 then [((c : Int) - 8, (r : Int) - 16)] else [])
def pixA (f : Nat → Nat → Int) : Nat → List GP
  | 0 => []
  | r + 1 => pixA f r ++ pixR f r 48
theorem pixR_len (f : Nat → Nat → Int) (r : Nat) : ∀ c, (pixR f r c).length ≤ c
  | 0 => Nat.le_refl 0
  | c + 1 => by
    have := pixR_len f r c
    show (pixR f r c ++ _).length ≤ c + 1
    rw [List.length_append]
    split <;> simp <;> omega
theorem pixA_len (f : Nat → Nat → Int) : ∀ r, (pixA f r).length ≤ 48 * r
  | 0 => Nat.le_refl 0
  | r + 1 => by
    have := pixA_len f r
    have := pixR_len f r 48
    show (pixA f r ++ _).length ≤ 48 * (r + 1)
    rw [List.length_append]
    omega
def sp_Picture_on_pixels (K : PySem.W.Frag) (C : Addr) : Sp := fun vs H Q _ => ∃ (p : Addr) (f : Nat → Nat → Int), vs = [.ref p] ∧ Pic C H p f ∧ ∀ D H' ws, H D = none → Same H H' → H' D = some (.lst ws) → Gs K H' ws (pixA f 48) → Q (.ref D) H'
section
theorem ok_Picture_on_pixels {P : Program} {w : World} {K : PySem.W.Frag} {mg : Str → Option Value} {base : Heap} {A : Nat → Addr} {D : Nat → FuncData} (T : Txt K mg A D) : FnOk P w K mg base (L2.CX P w) 1 (A 17) (D 17) ["self"] (sp_Picture_on_pixels K (A 2)) := by
  refine T.F_Picture_on_pixels.okX sc_Picture_on_pixels (fun vs H Q E h => ?_) (fun cdv A' outer s H vs Q E hr h => ?_)
  · obtain ⟨p, f, rfl, _⟩ := h
    rfl
  obtain ⟨p, f, rfl, hp, q⟩ := h
  refine ⟨_, (pss_cons (ps_set (i := 1) sc_Picture_on_pixels.nd rfl (.inl rfl) (pe_lst pa_nil))
  (pss_cons (ps_for (passes_of rfl) rfl (pi_enum (by rfl) T.z_enumerate (pa_cons (pe_fld (pv 0) rfl) pa_nil)) (pg_tup (by rfl) (pgs_cons (pg_name (i := 2) sc_Picture_on_pixels.nd rfl (.inl rfl)) (pgs_cons (pg_name (i := 3) sc_Picture_on_pixels.nd rfl (.inl rfl)) pgs_nil)))
  (pss_one (ps_for (passes_of rfl) rfl (pi_enum (by rfl) T.z_enumerate (pa_cons (pv 3) pa_nil)) (pg_tup (by rfl) (pgs_cons (pg_name (i := 4) sc_Picture_on_pixels.nd rfl (.inl rfl)) (pgs_cons (pg_name (i := 5) sc_Picture_on_pixels.nd rfl (.inl rfl)) pgs_nil)))
  (pss_one (ps_if (pt_cmpR op_gt (pv 5) pe_int (nomark _))
  (pss_one (ps_expr (pe_bm PySem.F.plainAttrs_list PySem.F.slot_list_append PySem.F.type_list_append mt_append (pv 1) (pa_cons (pe_tup (pa_cons (pe_op op_add (pv 4) (Z.pe_globE T.c_LEFT)) (pa_cons (pe_op op_add (pv 2) (Z.pe_globE T.c_BOTTOM)) pa_nil))) pa_nil))))
  pss_nil)))))
  (pss_one (ps_ret (pv 1))))), ?_⟩
  obtain ⟨dx, R, as, e, rd⟩ := hp
  walk_at "z"
  intro l H1 f1 s1 h1
  walk_at "z"
  refine Cw.z_forW (walk_enum (K := K) (a := R) (xs := as.map V.ref)) (fun S h => Cw.z_iEnum (fun S h => by walk_at "z"; refine Cw.z_fld (s1 _ _ e) T.q_Picture T.nf_Picture__weights Cw.look1 ?_; walk_at "z"; exact h) (.inl (.inl (s1 _ _ rd.1))) h)
    (fun i σ' H' => Same H H' ∧ ∃ (ws : List V) (u2 u3 u4 u5 : Option V), σ' = [some (.ref p), some (.ref l), u2, u3, u4, u5] ∧ H' l = some (.lst ws) ∧ Gs K H' ws (pixA f i)) ⟨s1, [], _, _, _, _, rfl, h1, trivial⟩ (fun i σ' H' _ h => .inl (.inl (h.1 _ _ rd.1))) ?_ ?_
  · rintro i x σ' H2 H3 hi ⟨s2, ws, u2, u3, u4, u5, rfl, h2, g2⟩ ⟨t, u, v, rfl, ft, rfl, hu, hv⟩
    rw [List.length_map, rd.2.1] at hi
    obtain ⟨a, ha, hma, hra⟩ := row_at rd hi
    have hv : (as.map V.ref)[i]? = some v := hv
    rw [hma] at hv
    cases hv
    cases hu
    have s23 : Same H2 (upd H2 t (.tup [.int (i : Int), .ref a])) := same_upd ft
    have ht : upd H2 t (HO.tup [.int (i : Int), .ref a]) t = some (.tup [.int (i : Int), .ref a]) := upd_same
    generalize upd H2 t (HO.tup [.int (i : Int), .ref a]) = H3 at *
    refine z_gT (.inl (.inl ht)) rfl ?_
    walk_at "z"
    have s3 := s2.trans s23
    refine Cw.z_forW (walk_enum (K := K) (a := a) (xs := (mrow f i).map V.int)) (fun S h => Cw.z_iEnum (fun S h => by walk_at "z"; exact h) (.inl (.inl (s3 _ _ hra))) h)
      (fun j σ' H' => Same H H' ∧ ∃ (ws : List V) (u4 u5 : Option V), σ' = [some (.ref p), some (.ref l), some (.int (i : Int)), some (.ref a), u4, u5] ∧ H' l = some (.lst ws) ∧ Gs K H' ws (pixA f i ++ pixR f i j)) ⟨s3, ws, _, _, rfl, s23 _ _ h2, ?_⟩ (fun i σ' H' _ h => .inl (.inl (h.1 _ _ hra))) ?_ ?_
    · show Gs K H3 ws (pixA f i ++ [])
      rw [List.append_nil]
      exact g2.mono s23
    · rintro j x σ' H4 H5 hj ⟨s4, ws, u4, u5, rfl, h4, g4⟩ ⟨t2, u, v, rfl, ft2, rfl, hu, hv⟩
      rw [List.length_map, mrow_len] at hj
      obtain ⟨rfl, _⟩ := mrow_i hv
      cases hu
      have s45 : Same H4 (upd H4 t2 (.tup [.int (j : Int), .int (f i j)])) := same_upd ft2
      have ht2 : upd H4 t2 (HO.tup [.int (j : Int), .int (f i j)]) t2 = some (.tup [.int (j : Int), .int (f i j)]) := upd_same
      generalize upd H4 t2 (HO.tup [.int (j : Int), .int (f i j)]) = H5 at *
      refine z_gT (.inl (.inl ht2)) rfl ?_
      walk_at "z"
      have h5 := s45 _ _ h4
      have g5 := g4.mono s45
      refine z_if (fun k => ?_) (fun k => ?_)
      · walk_at "z"
        refine z_bmL (fun R q => by walk_at "z"; exact q) h5 ?_
        walk_at "z"
        intro t3 H6 f6 s6 h6
        have h6l := s6 _ _ h5
        have lw : ws.length ≤ 48 * 48 + 48 := by
          have l1 := pixA_len f i
          have l2 := pixR_len f i j
          rw [g4.len, List.length_append]
          omega
        walk_at "z"
        refine z_appendW h6l (by omega) ?_
        have kk : Kp l H6 (upd H6 l (.lst (ws ++ [.ref t3]))) := fun b o hb e => by
          rw [upd_ne hb]
          exact e
        refine ⟨same_put ((s4.trans s45).trans s6) f1, ws ++ [.ref t3], _, _, rfl, upd_same, ?_⟩
        have e1 : pixR f i (j + 1) = pixR f i j ++ [((j : Int) - 8, (i : Int) - 16)] := by
          show pixR f i j ++ _ = _
          rw [if_pos k]
        rw [e1, ← List.append_assoc]
        exact Gs.kp kk h6l ((g5.mono s6).app (gs_one (dp_mkg h6)))
      · walk_at "z"
        refine ⟨s4.trans s45, ws, _, _, rfl, h5, ?_⟩
        have e1 : pixR f i (j + 1) = pixR f i j := by
          show pixR f i j ++ _ = _
          rw [if_neg k, List.append_nil]
        rw [e1]
        exact g5
    · rintro σ' H4 ⟨s4, ws, u4, u5, rfl, h4, g4⟩
      rw [List.length_map, mrow_len] at g4
      exact ⟨s4, ws, _, _, _, _, rfl, h4, g4⟩
  · rintro σ' H2 ⟨s2, ws, u2, u3, u4, u5, rfl, h2, g2⟩
    rw [List.length_map, rd.2.1] at g2
    walk_at "z"
    exact q l H2 ws f1 s2 h2 g2
end
def sp__law_pixels (K : PySem.W.Frag) : Sp := fun vs H Q _ => ∃ (R : Addr) (as : List Addr) (f : Nat → Nat → Int), vs = [.ref R] ∧ RdRows H R as f ∧ ∀ D H' ws, H D = none → Same H H' → H' D = some (.lst ws) → Gs K H' ws (pixA f 48) → Q (.ref D) H'
theorem ty_pic {K : PySem.W.Frag} {C p : Addr} {H : Hp} {f : Nat → Nat → Int} {Q : VK} (P : Pic C H p f) (c : Cls K C) (ha : PySem.W.findIn K (.ref C) "__class__" = some (some (.builtin "object.__class__")))
    (hn : PySem.W.specialIn K (.builtin "object.__class__") "__get__" = some (some (.builtin "getset_descriptor.__get__"))) (ht : PySem.W.takesIn K (.builtin "object.__class__") = some true) (hm : PySem.W.mroIn K C (.type "object") = some true) (q : Q (.bl true) H) : rIsi K [.ref p, .ref C] H Q := by
  obtain ⟨dx, R, as, e, rd⟩ := P
  refine ⟨_, _, _, _, true, rfl, .own C, .base (.ins e c ha hn ht hm), ?_, q⟩
  unfold PySem.W.kitOne
  rw [if_pos (by simp)]
def sp_is_inside : Sp := fun vs H Q _ => ∃ r c : Int, vs = [.int r, .int c] ∧ Q (.bl (decide (0 ≤ r ∧ r < 48 ∧ 0 ≤ c ∧ c < 48))) H
section
theorem ok_is_inside {P : Program} {w : World} {K : PySem.W.Frag} {mg : Str → Option Value} {base : Heap} {A : Nat → Addr} {D : Nat → FuncData} (T : Txt K mg A D) : FnOk P w K mg base (L2.CX P w) 1 (A 22) (D 22) ["row", "column"] (sp_is_inside) := by
  refine T.F_is_inside.okX sc_is_inside (fun vs H Q E h => ?_) (fun cdv A' outer s H vs Q E hr h => ?_)
  · obtain ⟨r, c, rfl, _⟩ := h
    rfl
  obtain ⟨r, c, rfl, q⟩ := h
  refine ⟨_, (pss_one (ps_ret (pe_and (pe_chain op_le op_lt pe_int (pv 0) (Z.pe_globE T.c_SIZE)) (pe_one (pe_chain op_le op_lt pe_int (pv 1) (Z.pe_globE T.c_SIZE)))))), ?_⟩
  have no : ¬ (0 ≤ r ∧ r < 48 ∧ 0 ≤ c ∧ c < 48) → Q (.bl false) H := fun n => by rw [decide_eq_false n] at q; exact q
  walk_at "z"
  refine z_if (fun h1 => ?_) (fun h1 => ?_)
  · walk_at "z"
    refine z_if (fun h2 => ?_) (fun h2 => ?_)
    · walk_at "z"
      refine z_if (fun h3 => ?_) (fun h3 => ?_)
      · walk_at "z"
        rw [show decide (c < 48) = decide (0 ≤ r ∧ r < 48 ∧ 0 ≤ c ∧ c < 48) from decide_eq_decide.mpr (by omega)]
        exact q
      · walk_at "z"
        exact no (fun z => h3 z.2.2.1)
    · walk_at "z"
      exact no (fun z => h2 z.2.1)
  · walk_at "z"
    exact no (fun z => h1 z.1)
end
def sp_Picture_rows (C : Addr) : Sp := fun vs H Q _ => ∃ (p : Addr) (f : Nat → Nat → Int), vs = [.ref p] ∧ Pic C H p f ∧ ∀ R' H' as', Same H H' → OwRows H H' R' as' f → Q (.ref R') H'
section
theorem ok_Picture_rows {P : Program} {w : World} {K : PySem.W.Frag} {mg : Str → Option Value} {base : Heap} {A : Nat → Addr} {D : Nat → FuncData} (T : Txt K mg A D) : FnOk P w K mg base (L2.CX P w) 1 (A 13) (D 13) ["self"] (sp_Picture_rows (A 2)) := by
  refine T.F_Picture_rows.okX sc_Picture_rows (fun vs H Q E h => ?_) (fun cdv A' outer s H vs Q E hr h => ?_)
  · obtain ⟨p, f, rfl, _⟩ := h
    rfl
  obtain ⟨p, f, rfl, hp, q⟩ := h
  refine ⟨_, (pss_one (ps_ret (pe_lc (own := [("row", 1)]) (g := gName 1) (tt := tYes) rfl sc_Picture_rows.nd (pi_list (pe_fld (pv 0) rfl)) (blkOk_by (N := ["self", "row"]) (sc := defScope s_Picture_rows) (by decide +kernel)) (fun _ _ _ _ _ => pg_name (i := 1) sc_Picture_rows.nd rfl (Or.inl rfl)) (fun _ _ _ _ _ => pts_nil) (fun _ _ _ _ _ => (pe_callTy (show CallR _ (.type "list") (Z.rListOf K) from Z.c_listOf) (by rfl) T.z_list (by decide +kernel) (pa_cons (pv 1) pa_nil)))))), ?_⟩
  obtain ⟨dx, R, as, e, rd⟩ := hp
  walk_at "z"
  refine z_rowsW f (walk48 (K := K) (R := R) rd.2.1) (fun S h => Cw.z_iList (fun S h => by walk_at "z"; refine Cw.z_fld e T.q_Picture T.nf_Picture__weights Cw.look1 ?_; exact h) (.inl (.inl rd.1)) h) (fun H' s => .inl (.inl (s _ _ rd.1))) (fun i x H' H2 S hi s y c => ?_) q
  obtain ⟨rfl, hx⟩ := y
  obtain ⟨a, ha, hm, hrow⟩ := row_at rd hi
  rw [hm] at hx
  cases hx
  walk_at "z"
  refine ⟨rfl, ?_⟩
  walk_at "z"
  exact z_listOf (.inl (.inl (s _ _ hrow))) fun p H3 f3 s3 h3 => c p H3 f3 s3 h3
end
def it0 (f : Nat → Nat → Int) (r c : Int) : Int := if 0 ≤ r ∧ r < 48 ∧ 0 ≤ c ∧ c < 48 then f r.toNat c.toNat else 0
def sp_item_or_zero : Sp := fun vs H Q _ => ∃ (R : Addr) (as : List Addr) (f : Nat → Nat → Int) (r c : Int), vs = [.ref R, .int r, .int c] ∧ RdRows H R as f ∧ Q (.int (it0 f r c)) H
section
theorem ok_item_or_zero {P : Program} {w : World} {K : PySem.W.Frag} {mg : Str → Option Value} {base : Heap} {A : Nat → Addr} {D : Nat → FuncData} (T : Txt K mg A D) : FnOk P w K mg base (L2.CX P w) 2 (A 26) (D 26) ["rows", "row", "column"] (sp_item_or_zero) := by
  refine T.F_item_or_zero.okX sc_item_or_zero (fun vs H Q E h => ?_) (fun cdv A' outer s H vs Q E hr h => ?_)
  · obtain ⟨R, as, f, r, c, rfl, _⟩ := h
    rfl
  obtain ⟨R, as, f, r, c, rfl, rd, q⟩ := h
  refine ⟨_, (pss_cons (ps_if (pt_val (pe_call (ok_is_inside T) (hr.mono (by decide)) (by rfl) T.m_is_inside T.F_is_inside.kp T.b_is_inside .nil (passes_call (takes_of rfl rfl rfl rfl) (fun _ _ _ _ h => h)) (pa_cons (pv 1) (pa_cons (pv 2) pa_nil))))
  (pss_one (ps_ret (pe_ix ix_list (pe_ix ix_list (pv 0) (pv 1) (fun _ _ => rfl)) (pv 2) (fun _ _ => rfl))))
  pss_nil)
  (pss_one (ps_ret pe_int))), ?_⟩
  unfold it0 at q
  walk_at "z"
  refine ⟨r, c, rfl, ?_⟩
  walk_at "z"
  refine z_if (fun h => ?_) (fun h => ?_)
  · rw [if_pos h] at q
    obtain ⟨i, rfl⟩ : ∃ i : Nat, r = (i : Int) := ⟨r.toNat, by omega⟩
    obtain ⟨j, rfl⟩ : ∃ i : Nat, c = (i : Int) := ⟨c.toNat, by omega⟩
    obtain ⟨a, ha, hma, hra⟩ := row_at rd (r := i) (by omega)
    walk_at "z"
    refine z_ixL (.inl (.inl rd.1)) (atI_nat hma) ?_
    walk_at "z"
    exact z_ixL (.inl (.inl hra)) (cell_at f i (by omega)) q
  · rw [if_neg h] at q
    walk_at "z"
    exact q
end
def mvd (f : Nat → Nat → Int) (di dj : Int) (r c : Nat) : Int := it0 f ((r : Int) - dj) ((c : Int) - di)
def sp_moved_rows : Sp := fun vs H Q _ => ∃ (R : Addr) (as : List Addr) (f : Nat → Nat → Int) (di dj : Int), vs = [.ref R, .int di, .int dj] ∧ RdRows H R as f ∧ ∀ R' H' as', Same H H' → OwRows H H' R' as' (mvd f di dj) → Q (.ref R') H'
section
theorem ok_moved_rows {P : Program} {w : World} {K : PySem.W.Frag} {mg : Str → Option Value} {base : Heap} {A : Nat → Addr} {D : Nat → FuncData} (T : Txt K mg A D) : FnOk P w K mg base (L2.CX P w) 3 (A 25) (D 25) ["rows", "di", "dj"] (sp_moved_rows) := by
  refine T.F_moved_rows.okX sc_moved_rows (fun vs H Q E h => ?_) (fun cdv A' outer s H vs Q E hr h => ?_)
  · obtain ⟨R, as, f, di, dj, rfl, _⟩ := h
    rfl
  obtain ⟨R, as, f, di, dj, rfl, rd, q⟩ := h
  refine ⟨_, (pss_one (ps_ret (pe_lc (own := [("row", 4)]) (g := gName 4) (tt := tYes) rfl sc_moved_rows.nd (pi_range1 (by rfl) T.z_range (pa_cons (Z.pe_globE T.c_SIZE) pa_nil)) (blkOk_by (N := ["rows", "di", "dj", "column", "row"]) (sc := defScope s_moved_rows) (by decide +kernel)) (fun _ _ _ _ _ => pg_name (i := 4) sc_moved_rows.nd rfl (Or.inr rfl)) (fun _ _ _ _ _ => pts_nil) (fun _ _ _ _ _ => (pe_lc (own := [("column", 3)]) (g := gName 3) (tt := tYes) rfl sc_moved_rows.nd (pi_range1 (by rfl) T.z_range (pa_cons (Z.pe_globE T.c_SIZE) pa_nil)) (blkOk_by (N := ["rows", "di", "dj", "column", "row"]) (by rfl)) (fun _ _ _ _ _ => pg_name (i := 3) sc_moved_rows.nd rfl (Or.inl rfl)) (fun _ _ _ _ _ => pts_nil) (fun _ _ _ _ _ => (pe_call (ok_item_or_zero T) (hr.mono (by decide)) (by rfl) T.m_item_or_zero T.F_item_or_zero.kp T.b_item_or_zero .nil passL (pa_cons (pv 0) (pa_cons (pe_op op_sub (pv 4) (pv 2)) (pa_cons (pe_op op_sub (pv 3) (pv 1)) pa_nil)))))))))), ?_⟩
  walk_at "z"
  refine z_rowsW (mvd f di dj) walk0 (fun R h => Cw.z_iRng (k := 48) (fun S h => by walk_at "z"; exact h) (by decide) h) (fun _ _ => trivial) (fun i x H' H2 S' hi s y c => ?_) q
  obtain ⟨rfl, rfl⟩ := y
  refine ⟨rfl, ?_⟩
  refine z_rowW (mvd f di dj) i walk0 (fun R h => Cw.z_iRng (k := 48) (fun S h => by walk_at "z"; exact h) (by decide) h) (fun _ _ => trivial) (fun j x H3 H4 S3 hj s3 y c3 => ?_) (fun D H3 fD s3 hD => c D H3 fD s3 hD)
  obtain ⟨rfl, rfl⟩ := y
  refine ⟨rfl, ?_⟩
  walk_at "z"
  exact ⟨R, as, f, _, _, rfl, rd.mono (s.trans s3), c3 _ (Same.refl _)⟩
end
def sp_Picture_shifted (C : Addr) : Sp := fun vs H Q _ => ∃ (p : Addr) (f : Nat → Nat → Int) (di dj : Int), vs = [.ref p, .int di, .int dj] ∧ Pic C H p f ∧ ∀ x H', H x = none → Same H H' → Pic C H' x (mvd f di dj) → Q (.ref x) H'
section
theorem ok_Picture_shifted {P : Program} {w : World} {K : PySem.W.Frag} {mg : Str → Option Value} {base : Heap} {A : Nat → Addr} {D : Nat → FuncData} (T : Txt K mg A D) : FnOk P w K mg base (L2.CX P w) 4 (A 18) (D 18) ["self", "di", "dj"] (sp_Picture_shifted (A 2)) := by
  refine T.F_Picture_shifted.okX sc_Picture_shifted (fun vs H Q E h => ?_) (fun cdv A' outer s H vs Q E hr h => ?_)
  · obtain ⟨p, f, di, dj, rfl, _⟩ := h
    rfl
  obtain ⟨p, f, di, dj, rfl, P, q⟩ := h
  refine ⟨_, (pss_cons (ps_set (i := 3) sc_Picture_shifted.nd rfl (.inl rfl) (pe_make0 T.M_Picture (ok_Picture___init__ T) (hr.mono (by decide)) (by rfl) T.g_Picture T.b_Picture___init__ .nil (passes_call (takes_of rfl rfl rfl rfl) (fun _ _ _ _ h => h))))
  (pss_cons (ps_fld (pv 3) (pe_call (ok_moved_rows T) (hr.mono (by decide)) (by rfl) T.m_moved_rows T.F_moved_rows.kp T.b_moved_rows .nil (passes_call (takes_of rfl rfl rfl rfl) (fun _ _ _ _ h => h)) (pa_cons (pe_fld (pv 0) rfl) (pa_cons (pv 1) (pa_cons (pv 2) pa_nil)))) rfl)
  (pss_one (ps_ret (pv 3))))), ?_⟩
  obtain ⟨dx0, R, as, e, rd⟩ := id P
  walk_at "z"
  intro x dx fx fdx nex
  refine pic_new fx fdx fun H2 s2 P2 => ⟨rfl, ?_⟩
  walk_at "z"
  refine Cw.z_fld (s2 _ _ e) T.q_Picture T.nf_Picture__weights Cw.look1 ?_
  walk_at "z"
  refine ⟨R, as, f, di, dj, rfl, rd.mono s2, fun R' H3 as' s3 ow => ?_⟩
  walk_at "z"
  obtain ⟨dx1, R1, as1, e1, rd1⟩ := P2
  have e3 := s3 _ _ e1
  refine Cw.z_sfld e3 T.q_Picture T.nf_Picture__weights (by simp) ?_
  rw [Cw.put1]
  walk_at "z"
  have kk : Kp x H3 (upd H3 x (.ins (A 2) dx1 [("_weights", .ref R')])) := fun b o hb e => by rw [upd_ne hb]; exact e
  obtain ⟨o1, o2⟩ := ow.1.out (fun xs h => by rw [e3] at h; cases h)
  exact q x _ fx (fun b o h => kk b o (ne_of_none h fx) (s3 _ _ (s2 _ _ h))) ⟨dx1, R', as', upd_same, ow.1.kp kk o1 o2⟩
end
def sp__law_same_rows (K : PySem.W.Frag) : Sp := fun vs H Q _ => ∃ (R S : Addr) (as bs : List Addr) (f g : Nat → Nat → Int), vs = [.ref R, .ref S] ∧ RdRows H R as f ∧ RdRows H S bs g ∧ (∀ r c, r < 48 → c < 48 → f r c = g r c) ∧ Q (.bl true) H
section
theorem ok__law_same_rows {P : Program} {w : World} {K : PySem.W.Frag} {mg : Str → Option Value} {base : Heap} {A : Nat → Addr} {D : Nat → FuncData} (T : Txt K mg A D) : FnOk P w K mg base (L2.CX P w) 1 (A 39) (D 39) ["actual", "expected"] (sp__law_same_rows K) := by
  refine T.F__law_same_rows.okX sc__law_same_rows (fun vs H Q E h => ?_) (fun cdv A' outer s H vs Q E hr h => ?_)
  · obtain ⟨R, S, as, bs, f, g, rfl, _⟩ := h
    rfl
  obtain ⟨R, S, as, bs, f, g, rfl, hR, hS, e, q⟩ := h
  refine ⟨_, (pss_cons (ps_if (PW.pt (pw_or (pt_not (pt_val (pe_callB call_isi (by rfl) T.z_isinstance (by decide +kernel) (pa_cons (pv 0) (pa_cons (pe_bltn (v := .ty "list") (by rfl) T.z_list (by decide +kernel) rfl) pa_nil))))) (pw_or1 (pt_cmpR op_ne (pe_callB Z.c_len (by rfl) T.z_len (by decide +kernel) (pa_cons (pv 0) pa_nil)) pe_int (nomark _)))))
  (pss_one (ps_ret pe_bl))
  pss_nil)
  (pss_cons (ps_for (passes_of rfl) rfl (pi_range1 (by rfl) T.z_range (pa_cons pe_int pa_nil)) (pg_name (i := 2) sc__law_same_rows.nd rfl (.inl rfl))
  (pss_cons (ps_if (PW.pt (pw_or (pt_not (pt_val (pe_callB call_isi (by rfl) T.z_isinstance (by decide +kernel) (pa_cons (pe_ix ix_list (pv 0) (pv 2) (fun _ _ => rfl)) (pa_cons (pe_bltn (v := .ty "list") (by rfl) T.z_list (by decide +kernel) rfl) pa_nil))))) (pw_or1 (pt_cmpR (op_neD hr.units) (pe_ix ix_list (pv 0) (pv 2) (fun _ _ => rfl)) (pe_ix ix_list (pv 1) (pv 2) (fun _ _ => rfl)) (nomark _)))))
  (pss_one (ps_ret pe_bl))
  pss_nil)
  (pss_one (ps_for (passes_of rfl) rfl (pi_list (pe_ix ix_list (pv 0) (pv 2) (fun _ _ => rfl))) (pg_name (i := 3) sc__law_same_rows.nd rfl (.inl rfl))
  (pss_one (ps_if (PW.pt (pw_or (pt_not (pt_val (pe_callB call_isi (by rfl) T.z_isinstance (by decide +kernel) (pa_cons (pv 3) (pa_cons (pe_bltn (v := .ty "int") (by rfl) T.z_int (by decide +kernel) rfl) pa_nil))))) (pw_or1 (pt_val (pe_callB call_isi (by rfl) T.z_isinstance (by decide +kernel) (pa_cons (pv 3) (pa_cons (pe_bltn (v := .ty "bool") (by rfl) T.z_bool (by decide +kernel) rfl) pa_nil)))))))
  (pss_one (ps_ret pe_bl))
  pss_nil))))))
  (pss_one (ps_ret pe_bl)))), ?_⟩
  have hR1 := hR.1
  have hS1 := hS.1
  have la := hR.2.1
  have lb := hS.2.1
  walk_at "z"
  rw [List.length_map, la]
  walk_at "z"
  refine z_forR1 48 (by decide) (fun R q => by walk_at "z"; exact q) (fun i σ' H' => H' = H ∧ ∃ (u2 u3 : Option V), σ' = [some (.ref R), some (.ref S), u2, u3]) ⟨rfl, _, _, rfl⟩ ?_ ?_
  · rintro r σ' H6 hr ⟨rfl, u2, u3, rfl⟩
    obtain ⟨a, ha⟩ : ∃ a, as[r]? = some a := ⟨_, List.getElem?_eq_getElem (by omega)⟩
    obtain ⟨b, hb⟩ : ∃ a, bs[r]? = some a := ⟨_, List.getElem?_eq_getElem (by omega)⟩
    have hrow := hR.2.2 r a ha
    have hrow2 := hS.2.2 r b hb
    have hat : atI (as.map V.ref) (r : Int) = some (.ref a) := atI_nat (by rw [List.getElem?_map, ha]; rfl)
    have hbt : atI (bs.map V.ref) (r : Int) = some (.ref b) := atI_nat (by rw [List.getElem?_map, hb]; rfl)
    walk_at "z"
    refine z_ixL (.inl (.inl hR1)) hat ?_
    walk_at "z"
    refine z_ixL (.inl (.inl hR1)) hat ?_
    walk_at "z"
    refine z_ixL (.inl (.inl hS1)) hbt ?_
    walk_at "z"
    refine z_neInts hrow hrow2 ?_
    walk_at "z"
    refine z_if (fun z => absurd (mrow_congr fun c hc => e r c hr hc) z) (fun _ => ?_)
    walk_at "z"
    refine z_forE ?_
    walk_at "z"
    refine z_ixL (.inl (.inl hR1)) hat ?_
    unfold ForL
    refine z_forL (xs := (mrow f r).map V.int) (fun R q => q) (.inl (.inl hrow)) (fun i σ' H' => H' = H6 ∧ ∃ (u3 : Option V), σ' = [some (.ref R), some (.ref S), some (.int (r : Int)), u3]) ⟨rfl, _, rfl⟩ (fun i σ' H' _ h => by rw [h.1]; exact .inl (.inl hrow)) ?_ ?_
    · rintro j x σ' H7 hx ⟨rfl, u3, rfl⟩
      have hm := List.mem_of_getElem? hx
      obtain ⟨n, _, rfl⟩ := List.mem_map.mp hm
      walk_at "z"
      exact ⟨rfl, _, rfl⟩
    · rintro σ' H7 ⟨rfl, u3, rfl⟩
      exact ⟨rfl, _, _, rfl⟩
  · rintro σ' H6 ⟨rfl, u2, u3, rfl⟩
    walk_at "z"
    exact q
end
theorem not48 {x y z : V} {l : List V} (h : l.length = 48) (e : some (HO.lst [x, y, z]) = some (HO.lst l)) : False := by
  cases e
  exact absurd h (by decide : ¬ 3 = 48)
theorem rd_st {p R : Addr} {H : Hp} {as : List Addr} {f : Nat → Nat → Int} (rd : RdRows H R as f) (st : IsStm H p) : R ≠ p ∧ p ∉ as := by
  obtain ⟨_, _, _, st⟩ := st
  exact ⟨fun z => by
    have := rd.1
    rw [z, st] at this
    exact not48 (by rw [List.length_map, rd.2.1]) this, fun m => by
    obtain ⟨k, hk⟩ := List.mem_iff_getElem?.mp m
    have := rd.2.2 k p hk
    rw [st] at this
    exact not48 (by rw [List.length_map, mrow_len]) this⟩
theorem rd_kpst {p R : Addr} {H H' : Hp} {as : List Addr} {f : Nat → Nat → Int} (rd : RdRows H R as f) (st : IsStm H p) (k : Kp p H H') : RdRows H' R as f := rd.kp k (rd_st rd st).1 (rd_st rd st).2
theorem pic_kpst {C p x : Addr} {H H' : Hp} {f : Nat → Nat → Int} (P : Pic C H x f) (st : IsStm H p) (k : Kp p H H') (n : x ≠ p) : Pic C H' x f := by
  obtain ⟨dx', R', as', e', rd'⟩ := P
  exact ⟨dx', R', as', k _ _ n e', rd_kpst rd' st k⟩
theorem same_kp {x : Addr} {H H1 H2 : Hp} (s : Same H H1) (k : Kp x H1 H2) (h : H x = none) : Same H H2 := fun b o e => k b o (ne_of_none e h) (s b o e)
theorem le_bd {f : Nat → Nat → Int} {m : Int} (h : LeR m f) (m1 : m ≤ 100000) : BdR f := fun r c hr hc => by
  have := h r c hr hc
  exact Nat.lt_of_le_of_lt (show (f r c).natAbs ≤ 100000 by omega) (by decide)
def QBM (K : PySem.W.Frag) (r : V → List V → Hp → VK → Prop) (t : TA) (σ : L2.St) (Q : VK) : VK := fun x H1 => tyV K "list" x H1 ∧ t σ H1 fun xs H2 => r x xs H2 Q
theorem z_bmE {K : PySem.W.Frag} {r : V → List V → Hp → VK → Prop} {t : TA} {σ : L2.St} {H : Hp} {Q : VK} {to : TE} (h : to σ H (QBM K r t σ Q)) : tBM K "list" r to t σ H Q := h
theorem z_bmR {K : PySem.W.Frag} {r : V → List V → Hp → VK → Prop} {t : TA} {σ : L2.St} {H : Hp} {Q : VK} {p : Addr} {xs : List V} (hp : H p = some (.lst xs)) (h : t σ H fun vs H2 => r (.ref p) vs H2 Q) : QBM K r t σ Q (.ref p) H := ⟨.inl ⟨rfl, _, .inl (.inl hp)⟩, h⟩
theorem sd_kp {H0 H H' : Hp} {p x : Addr} (S : Sd H0 H p) (k : Kp x H H') (h : H0 x = none) (n : x ≠ p) : Sd H0 H' p := by
  obtain ⟨a, b, c, e⟩ := S.stm
  exact ⟨same_kp S.same k h, S.fresh, a, b, c, k _ _ n.symm e⟩
def sp_Picture_wipe (C : Addr) : Sp := fun vs H Q _ => ∃ (p : Addr) (f : Nat → Nat → Int), vs = [.ref p] ∧ Pic C H p f ∧ ∀ H', Kp p H H' → Pic C H' p (fun _ _ => 0) → Q .non H'
section
theorem ok_Picture_wipe {P : Program} {w : World} {K : PySem.W.Frag} {mg : Str → Option Value} {base : Heap} {A : Nat → Addr} {D : Nat → FuncData} (T : Txt K mg A D) : FnOk P w K mg base (L2.CX P w) 2 (A 15) (D 15) ["self"] (sp_Picture_wipe (A 2)) := by
  refine T.F_Picture_wipe.okX sc_Picture_wipe (fun vs H Q E h => ?_) (fun cdv A' outer s H vs Q E hr h => ?_)
  · obtain ⟨p, f, rfl, _⟩ := h
    rfl
  obtain ⟨p, f, rfl, hp, q⟩ := h
  refine ⟨_, (pss_one (ps_fld (pv 0) (pe_call0 (ok_blank_rows T) (hr.mono (by decide)) (by rfl) T.m_blank_rows T.F_blank_rows.kp T.b_blank_rows .nil (passes_call (takes_of rfl rfl rfl rfl) (fun _ _ _ _ h => h))) rfl)), ?_⟩
  obtain ⟨dx, R, as, e, rd⟩ := hp
  walk_at "z"
  refine ⟨rfl, fun R' H1 as' s1 ow => ?_⟩
  walk_at "z"
  have e1 := s1 _ _ e
  refine Cw.z_sfld e1 T.q_Picture T.nf_Picture__weights (by simp) ?_
  rw [Cw.put1]
  walk_at "z"
  have kk : Kp p H1 (upd H1 p (.ins (A 2) dx [("_weights", .ref R')])) := fun b o hb e => by rw [upd_ne hb]; exact e
  obtain ⟨o1, o2⟩ := ow.1.out (fun xs h => by rw [e1] at h; cases h)
  exact q _ ((kp_of s1).trans' kk) ⟨dx, R', as', upd_same, ow.1.kp kk o1 o2⟩
end
def sp_own1 (C : Addr) : Sp := fun vs H Q _ => ∃ (p : Addr) (f : Nat → Nat → Int), vs = [.ref p] ∧ Pic C H p f ∧ BdR f ∧ InR (fun r c => 0 + -1 * f r c) ∧ ∀ x H', H x = none → Same H H' → Pic C H' x (fun r c => 0 + -1 * f r c) → Q (.ref x) H'
section
theorem ok_Picture___neg__ {P : Program} {w : World} {K : PySem.W.Frag} {mg : Str → Option Value} {base : Heap} {A : Nat → Addr} {D : Nat → FuncData} (T : Txt K mg A D) : FnOk P w K mg base (L2.CX P w) 4 (A 21) (D 21) ["self"] (sp_own1 (A 2)) := by
  refine T.F_Picture___neg__.okX sc_Picture___neg__ (fun vs H Q E h => ?_) (fun cdv A' outer s H vs Q E hr h => ?_)
  · obtain ⟨p, f, rfl, _⟩ := h
    rfl
  obtain ⟨p, f, rfl, P, bg, ir, q⟩ := h
  refine ⟨_, (pss_cons (ps_set (i := 1) sc_Picture___neg__.nd rfl (.inl rfl) (pe_make0 T.M_Picture (ok_Picture___init__ T) (hr.mono (by decide)) (by rfl) T.g_Picture T.b_Picture___init__ .nil (passes_call (takes_of rfl rfl rfl rfl) (fun _ _ _ _ h => h))))
  (pss_cons (ps_fld (pv 1) (pe_call (ok_sums T) (hr.mono (by decide)) (by rfl) T.m_sums T.F_sums.kp T.b_sums .nil (passes_call (takes_of rfl rfl rfl rfl) (fun _ _ _ _ h => h)) (pa_cons (pe_call0 (ok_blank_rows T) (hr.mono (by decide)) (by rfl) T.m_blank_rows T.F_blank_rows.kp T.b_blank_rows .nil (passes_call (takes_of rfl rfl rfl rfl) (fun _ _ _ _ h => h))) (pa_cons (pe_fld (pv 0) rfl) (pa_cons (pe_un un_neg pe_int) pa_nil)))) rfl)
  (pss_one (ps_ret (pv 1))))), ?_⟩
  obtain ⟨dx0, R, as, e, rd⟩ := id P
  walk_at "z"
  intro x dx fx fdx nex
  refine pic_new fx fdx fun H2 s2 P3 => ⟨rfl, ?_⟩
  walk_at "z"
  refine ⟨rfl, fun Rb H2b asb s2b owb => ?_⟩
  walk_at "z"
  have s2' := s2.trans s2b
  refine Cw.z_fld (s2' _ _ e) T.q_Picture T.nf_Picture__weights Cw.look1 ?_
  walk_at "z"
  refine ⟨Rb, R, asb, as, _, f, -1, rfl, owb.1, rd.mono s2', by decide, bg, fun _ R' H3 as' s3 ow => ?_, fun no => absurd ir no⟩
  walk_at "z"
  obtain ⟨dx3, R3, as3, e3, rd3⟩ := P3.mono s2b
  have e4 := s3 _ _ e3
  refine Cw.z_sfld e4 T.q_Picture T.nf_Picture__weights (by simp) ?_
  rw [Cw.put1]
  walk_at "z"
  have kk : Kp x H3 (upd H3 x (.ins (A 2) dx3 [("_weights", .ref R')])) := fun b o hb e => by rw [upd_ne hb]; exact e
  obtain ⟨o1, o2⟩ := ow.1.out (fun xs h => by rw [e4] at h; cases h)
  exact q x _ fx (fun b o h => kk b o (ne_of_none h fx) (s3 _ _ (s2' _ _ h))) ⟨dx3, R', as', upd_same, ow.1.kp kk o1 o2⟩
end
theorem at_ints {ns : List Int} {w : Int} (h0 : 0 ≤ w) (h1 : w < ns.length) : ∃ x, atI (ns.map V.int) w = some (.int x) ∧ x ∈ ns := by
  obtain ⟨n, rfl⟩ := Int.eq_ofNat_of_zero_le h0
  have h : n < ns.length := by omega
  exact ⟨ns[n], atI_nat (by rw [List.getElem?_map, List.getElem?_eq_getElem h]; rfl), List.getElem_mem h⟩
def sp__law_fits : Sp := fun vs H Q _ => ∃ (R : Addr) (as : List Addr) (f : Nat → Nat → Int), vs = [.ref R] ∧ RdRows H R as f ∧ (InR f → Q (.bl true) H) ∧ (¬ InR f → Q (.bl false) H)
section
theorem ok__law_fits {P : Program} {w : World} {K : PySem.W.Frag} {mg : Str → Option Value} {base : Heap} {A : Nat → Addr} {D : Nat → FuncData} (T : Txt K mg A D) : FnOk P w K mg base (L2.CX P w) 1 (A 38) (D 38) ["rows"] (sp__law_fits) := by
  refine T.F__law_fits.okX sc__law_fits (fun vs H Q E h => ?_) (fun cdv A' outer s H vs Q E hr h => ?_)
  · obtain ⟨R, as, f, rfl, _⟩ := h
    rfl
  obtain ⟨R, as, f, rfl, rd, q, no⟩ := h
  refine ⟨_, (pss_cons (ps_for (passes_of rfl) rfl (pi_list (pv 0)) (pg_name (i := 1) sc__law_fits.nd rfl (.inl rfl))
  (pss_one (ps_for (passes_of rfl) rfl (pi_list (pv 1)) (pg_name (i := 2) sc__law_fits.nd rfl (.inl rfl))
  (pss_one (ps_if (PW.pt (pw_or (pt_cmpR op_lt (pv 2) (pe_un un_neg pe_int) (nomark _)) (pw_or1 (pt_cmpR op_gt (pv 2) pe_int (nomark _)))))
  (pss_one (ps_ret pe_bl))
  pss_nil)))))
  (pss_one (ps_ret pe_bl))), ?_⟩
  walk_at "z"
  refine Cw.z_forW (walk48 (K := K) (R := R) rd.2.1) (fun S h => Cw.z_iList (fun S h => by walk_at "z"; exact h) (.inl (.inl rd.1)) h) (fun i σ' H' => H' = H ∧ (∀ r, r < i → ∀ c, c < 48 → FitI (f r c)) ∧ ∃ (u1 u2 : Option V), σ' = [some (.ref R), u1, u2]) ⟨rfl, fun r h => absurd h (Nat.not_lt_zero _), _, _, rfl⟩ (fun i σ H' _ h => by rw [h.1]; exact .inl (.inl rd.1)) ?_ ?_
  · rintro r x σ' H6 H7 hr ⟨rfl, ok, u1, u2, rfl⟩ ⟨rfl, hx⟩
    obtain ⟨a, ha, hma, hra⟩ := row_at rd hr
    rw [hma] at hx
    cases hx
    walk_at "z"
    refine Cw.z_forW (walkrow (K := K) (a := a) (f := f) (r := r)) (fun S h => Cw.z_iList (fun S h => by walk_at "z"; exact h) (.inl (.inl hra)) h) (fun i σ' H' => H' = H7 ∧ (∀ c, c < i → FitI (f r c)) ∧ ∃ (u2 : Option V), σ' = [some (.ref R), some (.ref a), u2]) ⟨rfl, fun r h => absurd h (Nat.not_lt_zero _), _, rfl⟩ (fun i σ H' _ h => by rw [h.1]; exact .inl (.inl hra)) ?_ ?_
    · rintro c x σ' H8 H9 hc ⟨rfl, okr, u2, rfl⟩ ⟨rfl, hx⟩
      obtain ⟨rfl, _⟩ := mrow_i hx
      walk_at "z"
      refine z_if (fun h => ?_) (fun h1 => ?_)
      · walk_at "z"
        exact no fun z => absurd (z r c hr hc).1 (by omega)
      · walk_at "z"
        refine z_if (fun h => ?_) (fun h2 => ?_)
        · walk_at "z"
          exact no fun z => absurd (z r c hr hc).2 (by omega)
        · walk_at "z"
          refine ⟨rfl, fun c' h => ?_, _, rfl⟩
          rcases Nat.lt_succ_iff_lt_or_eq.mp h with h | h
          · exact okr c' h
          · exact h ▸ ⟨by omega, by omega⟩
    · rintro σ' H8 ⟨rfl, okr, u2, rfl⟩
      walk_at "z"
      refine ⟨rfl, fun r' h => ?_, _, _, rfl⟩
      rcases Nat.lt_succ_iff_lt_or_eq.mp h with h | h
      · exact ok r' h
      · exact h ▸ okr
  · rintro σ' H6 ⟨rfl, ok, u1, u2, rfl⟩
    walk_at "z"
    exact q fun r c hr hc => ok r hr c hc
end
/-- the rows moved, as the law makes them -/
def sp__law_moved : Sp := fun vs H Q _ => ∃ (R : Addr) (as : List Addr) (f : Nat → Nat → Int) (x y : Int), vs = [.ref R, .int x, .int y] ∧ RdRows H R as f ∧ ∀ R' H' as' g, Same H H' → OwRows H H' R' as' g → (∀ r c, r < 48 → c < 48 → g r c = mvd f x y r c) → Q (.ref R') H'
open Classical in
noncomputable def mvP (f : Nat → Nat → Int) (x y : Int) (i j : Nat) (r c : Nat) : Int := if ∃ i' j' : Nat, i' < 48 ∧ j' < 48 ∧ (i' < i ∨ (i' = i ∧ j' < j)) ∧ (r : Int) = i' + y ∧ (c : Int) = j' + x then f ((r : Int) - y).toNat ((c : Int) - x).toNat else 0
theorem mvP_end (f : Nat → Nat → Int) (x y : Int) {r c : Nat} (hr : r < 48) (hc : c < 48) : mvP f x y 48 0 r c = mvd f x y r c := by
  unfold mvP mvd it0
  by_cases h : 0 ≤ (r : Int) - y ∧ (r : Int) - y < 48 ∧ 0 ≤ (c : Int) - x ∧ (c : Int) - x < 48
  · rw [if_pos h, if_pos ⟨((r : Int) - y).toNat, ((c : Int) - x).toNat, by omega, by omega, by omega, by omega, by omega⟩]
  · rw [if_neg h, if_neg (fun ⟨i', j', h1, h2, h3, h4, h5⟩ => h ⟨by omega, by omega, by omega, by omega⟩)]
theorem mvP_row (f : Nat → Nat → Int) (x y : Int) (i : Nat) : mvP f x y i 48 = mvP f x y (i + 1) 0 := by
  funext r c
  unfold mvP
  have e : (∃ i' j' : Nat, i' < 48 ∧ j' < 48 ∧ (i' < i ∨ (i' = i ∧ j' < 48)) ∧ (r : Int) = i' + y ∧ (c : Int) = j' + x) ↔ (∃ i' j' : Nat, i' < 48 ∧ j' < 48 ∧ (i' < i + 1 ∨ (i' = i + 1 ∧ j' < 0)) ∧ (r : Int) = i' + y ∧ (c : Int) = j' + x) :=
    ⟨fun ⟨i', j', h1, h2, h3, h4⟩ => ⟨i', j', h1, h2, by omega, h4⟩, fun ⟨i', j', h1, h2, h3, h4⟩ => ⟨i', j', h1, h2, by omega, h4⟩⟩
  by_cases h : ∃ i' j' : Nat, i' < 48 ∧ j' < 48 ∧ (i' < i ∨ (i' = i ∧ j' < 48)) ∧ (r : Int) = i' + y ∧ (c : Int) = j' + x
  · rw [if_pos h, if_pos (e.mp h)]
  · rw [if_neg h, if_neg (fun z => h (e.mpr z))]
theorem mvP_skip (f : Nat → Nat → Int) (x y : Int) {i j : Nat} (no : ¬(0 ≤ (i : Int) + y ∧ (i : Int) + y < 48 ∧ 0 ≤ (j : Int) + x ∧ (j : Int) + x < 48)) {r c : Nat} (hr : r < 48) (hc : c < 48) : mvP f x y i j r c = mvP f x y i (j + 1) r c := by
  unfold mvP
  have e : (∃ i' j' : Nat, i' < 48 ∧ j' < 48 ∧ (i' < i ∨ (i' = i ∧ j' < j)) ∧ (r : Int) = i' + y ∧ (c : Int) = j' + x) ↔ (∃ i' j' : Nat, i' < 48 ∧ j' < 48 ∧ (i' < i ∨ (i' = i ∧ j' < j + 1)) ∧ (r : Int) = i' + y ∧ (c : Int) = j' + x) :=
    ⟨fun ⟨i', j', h1, h2, h3, h4⟩ => ⟨i', j', h1, h2, by omega, h4⟩, fun ⟨i', j', h1, h2, h3, h4, h5⟩ => ⟨i', j', h1, h2, by
      by_cases c1 : i' = i ∧ j' = j
      · exact absurd ⟨by omega, by omega, by omega, by omega⟩ no
      · omega, h4, h5⟩⟩
  by_cases h : ∃ i' j' : Nat, i' < 48 ∧ j' < 48 ∧ (i' < i ∨ (i' = i ∧ j' < j)) ∧ (r : Int) = i' + y ∧ (c : Int) = j' + x
  · rw [if_pos h, if_pos (e.mp h)]
  · rw [if_neg h, if_neg (fun z => h (e.mpr z))]
theorem mvP_put (f : Nat → Nat → Int) (x y : Int) {i j r0 c0 : Nat} (hi : i < 48) (hj : j < 48) (er : (r0 : Int) = i + y) (ec : (c0 : Int) = j + x) {r c : Nat} : (if r = r0 ∧ c = c0 then f i j else mvP f x y i j r c) = mvP f x y i (j + 1) r c := by
  by_cases h : r = r0 ∧ c = c0
  · obtain ⟨rfl, rfl⟩ := h
    rw [if_pos ⟨rfl, rfl⟩]
    unfold mvP
    rw [if_pos ⟨i, j, hi, hj, by omega, er, ec⟩, show ((r : Int) - y).toNat = i by omega, show ((c : Int) - x).toNat = j by omega]
  · rw [if_neg h]
    unfold mvP
    have e : (∃ i' j' : Nat, i' < 48 ∧ j' < 48 ∧ (i' < i ∨ (i' = i ∧ j' < j)) ∧ (r : Int) = i' + y ∧ (c : Int) = j' + x) ↔ (∃ i' j' : Nat, i' < 48 ∧ j' < 48 ∧ (i' < i ∨ (i' = i ∧ j' < j + 1)) ∧ (r : Int) = i' + y ∧ (c : Int) = j' + x) :=
      ⟨fun ⟨i', j', h1, h2, h3, h4⟩ => ⟨i', j', h1, h2, by omega, h4⟩, fun ⟨i', j', h1, h2, h3, h4, h5⟩ => ⟨i', j', h1, h2, by
        by_cases c1 : i' = i ∧ j' = j
        · exact absurd ⟨by omega, by omega⟩ h
        · omega, h4, h5⟩⟩
    by_cases h : ∃ i' j' : Nat, i' < 48 ∧ j' < 48 ∧ (i' < i ∨ (i' = i ∧ j' < j)) ∧ (r : Int) = i' + y ∧ (c : Int) = j' + x
    · rw [if_pos h, if_pos (e.mp h)]
    · rw [if_neg h, if_neg (fun z => h (e.mpr z))]
theorem mvP_0 (f : Nat → Nat → Int) (x y : Int) (r c : Nat) : mvP f x y 0 0 r c = 0 := by
  unfold mvP
  rw [if_neg (fun ⟨i', j', h1, h2, h3, _⟩ => by omega)]
section
theorem ok__law_moved {P : Program} {w : World} {K : PySem.W.Frag} {mg : Str → Option Value} {base : Heap} {A : Nat → Addr} {D : Nat → FuncData} (T : Txt K mg A D) : FnOk P w K mg base (L2.CX P w) 2 (A 48) (D 48) ["rows", "right", "up"] (sp__law_moved) := by
  refine T.F__law_moved.okX sc__law_moved (fun vs H Q E h => ?_) (fun cdv A' outer s H vs Q E hr h => ?_)
  · obtain ⟨R, as, f, x, y, rfl, _⟩ := h
    rfl
  obtain ⟨R, as, f, x, y, rfl, rd, q⟩ := h
  refine ⟨_, (pss_cons (ps_set (i := 3) sc__law_moved.nd rfl (.inl rfl) (pe_call0 (ok__law_blank T) (hr.mono (by decide)) (by rfl) T.m__law_blank T.F__law_blank.kp T.b__law_blank .nil (passes_call (takes_of rfl rfl rfl rfl) (fun _ _ _ _ h => h))))
  (pss_cons (ps_for (passes_of rfl) rfl (pi_range1 (by rfl) T.z_range (pa_cons pe_int pa_nil)) (pg_name (i := 4) sc__law_moved.nd rfl (.inl rfl))
  (pss_one (ps_for (passes_of rfl) rfl (pi_range1 (by rfl) T.z_range (pa_cons pe_int pa_nil)) (pg_name (i := 5) sc__law_moved.nd rfl (.inl rfl))
  (pss_one (ps_if (PW.pt (pw_and (pt_cmpR op_le pe_int (pe_op op_add (pv 4) (pv 2)) (nomark _)) (pw_and (pt_cmpR op_lt (pe_op op_add (pv 4) (pv 2)) pe_int (nomark _)) (pw_and (pt_cmpR op_le pe_int (pe_op op_add (pv 5) (pv 1)) (nomark _)) (pw_and1 (pt_cmpR op_lt (pe_op op_add (pv 5) (pv 1)) pe_int (nomark _)))))))
  (pss_one (ps_asg (pe_ix ix_list (pe_ix ix_list (pv 0) (pv 4) (fun _ _ => rfl)) (pv 5) (fun _ _ => rfl)) (pg_sub (pe_ix ix_list (pv 3) (pe_op op_add (pv 4) (pv 2)) (fun _ _ => rfl)) (pe_op op_add (pv 5) (pv 1)) set_list)))
  pss_nil)))))
  (pss_one (ps_ret (pv 3))))), ?_⟩
  walk_at "z"
  refine ⟨rfl, fun R' H1 bs s1 ow => ?_⟩
  walk_at "z"
  refine z_forR1 48 (by decide) (fun R q => by walk_at "z"; exact q) (fun i σ' H' => Same H H' ∧ ∃ (g : Nat → Nat → Int) (u4 u5 : Option V), σ' = [some (.ref R), some (.int x), some (.int y), some (.ref R'), u4, u5] ∧ OwRows H H' R' bs g ∧ ∀ r c, r < 48 → c < 48 → g r c = mvP f x y i 0 r c) ⟨s1, _, _, _, rfl, ow, fun r c _ _ => (mvP_0 f x y r c).symm⟩ ?_ ?_
  · rintro i σ' H2 hi ⟨s2, g, u4, u5, rfl, ow2, hg⟩
    walk_at "z"
    refine z_forR1 48 (by decide) (fun R q => by walk_at "z"; exact q) (fun j σ' H' => Same H H' ∧ ∃ (g : Nat → Nat → Int) (u5 : Option V), σ' = [some (.ref R), some (.int x), some (.int y), some (.ref R'), some (.int (i : Int)), u5] ∧ OwRows H H' R' bs g ∧ ∀ r c, r < 48 → c < 48 → g r c = mvP f x y i j r c) ⟨s2, g, _, rfl, ow2, hg⟩ ?_ ?_
    · clear hg ow2
      clear g
      rintro j σ' H3 hj ⟨s3, g, u5, rfl, ow3, hg⟩
      have keep : ¬(0 ≤ (i : Int) + y ∧ (i : Int) + y < 48 ∧ 0 ≤ (j : Int) + x ∧ (j : Int) + x < 48) → ∀ r c, r < 48 → c < 48 → g r c = mvP f x y i (j + 1) r c := fun no r c hr hc => by rw [hg r c hr hc, mvP_skip f x y no hr hc]
      walk_at "z"
      refine z_if (fun k1 => ?_) (fun k1 => by walk_at "z"; exact ⟨s3, g, _, rfl, ow3, keep fun z => k1 z.1⟩)
      walk_at "z"
      refine z_if (fun k2 => ?_) (fun k2 => by walk_at "z"; exact ⟨s3, g, _, rfl, ow3, keep fun z => k2 z.2.1⟩)
      walk_at "z"
      refine z_if (fun k3 => ?_) (fun k3 => by walk_at "z"; exact ⟨s3, g, _, rfl, ow3, keep fun z => k3 z.2.2.1⟩)
      walk_at "z"
      refine z_if (fun k4 => ?_) (fun k4 => by walk_at "z"; exact ⟨s3, g, _, rfl, ow3, keep fun z => k4 z.2.2.2⟩)
      obtain ⟨r0, er⟩ : ∃ r' : Nat, (i : Int) + y = (r' : Int) := ⟨((i : Int) + y).toNat, by omega⟩
      obtain ⟨c0, ec⟩ : ∃ c' : Nat, (j : Int) + x = (c' : Int) := ⟨((j : Int) + x).toNat, by omega⟩
      obtain ⟨a, ha, hma, hra⟩ := row_at (rd.mono s3) hi
      obtain ⟨b, hb, hmb, hrb⟩ := row_at ow3.1 (r := r0) (by omega)
      have hc0 : c0 < 48 := by omega
      walk_at "z"
      refine z_ixL (.inl (.inl (s3 _ _ rd.1))) (atI_nat hma) ?_
      walk_at "z"
      refine z_ixL (.inl (.inl hra)) (cell_at f i hj) ?_
      walk_at "z"
      rw [er]
      refine z_ixL (.inl (.inl ow3.1.1)) (atI_nat hmb) ?_
      walk_at "z"
      rw [ec]
      refine z_setL hrb (k := c0) (ixN_nat (by rw [List.length_map, mrow_len]; exact hc0)) ?_
      refine ⟨same_put s3 (ow3.2.2.2.2 b (List.mem_of_getElem? hb)), _, _, rfl, ow3.put hb hc0, fun r c hr hc => ?_⟩
      have := mvP_put f x y hi hj er.symm ec.symm (r := r) (c := c)
      rw [← this]
      show (if r = r0 ∧ c = c0 then f i j else g r c) = _
      rw [hg r c hr hc]
    · rintro σ' H3 ⟨s3, g, u5, rfl, ow3, hg⟩
      exact ⟨s3, g, _, _, rfl, ow3, fun r c hr hc => by rw [hg r c hr hc, mvP_row]⟩
  · rintro σ' H2 ⟨s2, g, u4, u5, rfl, ow2, hg⟩
    walk_at "z"
    exact q R' H2 bs g s2 ow2 fun r c hr hc => by rw [hg r c hr hc, mvP_end f x y hr hc]
end
theorem mvd_le {f : Nat → Nat → Int} {m : Int} (h : LeR m f) (m0 : 0 ≤ m) (x y : Int) : LeR m (mvd f x y) := fun r c _ _ => by
  unfold mvd it0
  split
  · rename_i k
    exact h _ _ (by omega) (by omega)
  · omega

theorem bdr_in {f : Nat → Nat → Int} (h : InR f) : BdR f := fun r c hr hc => by
  have := h r c hr hc
  exact Nat.lt_of_le_of_lt (show (f r c).natAbs ≤ 10000 by omega) (by decide)
def sp__law_sparse : Sp := fun vs H Q _ => ∃ (p : Addr) (H0 : Hp), vs = [.ref p] ∧ Sd H0 H p ∧ ∀ R H' as f, Sd H0 H' p → Kp p H H' → OwRows H H' R as f → InR f → Q (.ref R) H'
section
theorem ok__law_sparse {P : Program} {w : World} {K : PySem.W.Frag} {mg : Str → Option Value} {base : Heap} {A : Nat → Addr} {D : Nat → FuncData} (T : Txt K mg A D) : FnOk P w K mg base (L2.CX P w) 2 (A 51) (D 51) ["stream"] (sp__law_sparse) := by
  refine T.F__law_sparse.okX sc__law_sparse (fun vs H Q E h => ?_) (fun cdv A' outer s H vs Q E hr h => ?_)
  · obtain ⟨p, H0, rfl, _⟩ := h
    rfl
  obtain ⟨p, H0, rfl, S, q⟩ := h
  refine ⟨_, (pss_cons (ps_set (i := 1) sc__law_sparse.nd rfl (.inl rfl) (pe_call0 (ok__law_blank T) (hr.mono (by decide)) (by rfl) T.m__law_blank T.F__law_blank.kp T.b__law_blank .nil (passes_call (takes_of rfl rfl rfl rfl) (fun _ _ _ _ h => h))))
  (pss_cons (ps_for (passes_of rfl) rfl (pi_range1 (by rfl) T.z_range (pa_cons (pe_call (ok__law_draw T) (hr.mono (by decide)) (by rfl) T.m__law_draw T.F__law_draw.kp T.b__law_draw .nil (passes_call (takes_of rfl rfl rfl rfl) (fun _ _ _ _ h => h)) (pa_cons (pv 0) (pa_cons pe_int pa_nil))) pa_nil)) (pg_name (i := 2) sc__law_sparse.nd rfl (.inl rfl))
  (pss_cons (ps_set (i := 3) sc__law_sparse.nd rfl (.inl rfl) (pe_call (ok__law_draw T) (hr.mono (by decide)) (by rfl) T.m__law_draw T.F__law_draw.kp T.b__law_draw .nil (passes_call (takes_of rfl rfl rfl rfl) (fun _ _ _ _ h => h)) (pa_cons (pv 0) (pa_cons pe_int pa_nil))))
  (pss_cons (ps_set (i := 4) sc__law_sparse.nd rfl (.inl rfl) (pe_call (ok__law_draw T) (hr.mono (by decide)) (by rfl) T.m__law_draw T.F__law_draw.kp T.b__law_draw .nil (passes_call (takes_of rfl rfl rfl rfl) (fun _ _ _ _ h => h)) (pa_cons (pv 0) (pa_cons pe_int pa_nil))))
  (pss_cons (ps_set (i := 5) sc__law_sparse.nd rfl (.inl rfl) (pe_ix ix_list (pe_lst (pa_cons pe_int (pa_cons pe_int (pa_cons pe_int pa_nil)))) (pe_call (ok__law_draw T) (hr.mono (by decide)) (by rfl) T.m__law_draw T.F__law_draw.kp T.b__law_draw .nil (passes_call (takes_of rfl rfl rfl rfl) (fun _ _ _ _ h => h)) (pa_cons (pv 0) (pa_cons pe_int pa_nil))) (fun _ _ => rfl)))
  (pss_one (ps_asg (pe_op op_sub (pe_call (ok__law_draw T) (hr.mono (by decide)) (by rfl) T.m__law_draw T.F__law_draw.kp T.b__law_draw .nil (passes_call (takes_of rfl rfl rfl rfl) (fun _ _ _ _ h => h)) (pa_cons (pv 0) (pa_cons (pe_op op_add (pe_op op_mul pe_int (pv 5)) pe_int) pa_nil))) (pv 5)) (pg_sub (pe_ix ix_list (pv 1) (pv 3) (fun _ _ => rfl)) (pv 4) set_list)))))))
  (pss_one (ps_ret (pv 1))))), ?_⟩
  walk_at "z"
  refine ⟨rfl, fun R H3 as s3 ow => ?_⟩
  have p1 : H p ≠ none := by
    obtain ⟨_, _, _, st⟩ := S.stm
    rw [st]
    simp
  have S3 := S.mono s3
  have k3 : Kp p H H3 := kp_of s3
  have le : InR (fun _ _ => 0) := fun r c _ _ => ⟨show (-9999 : Int) ≤ 0 by decide, show (0 : Int) ≤ 9999 by decide⟩
  walk_at "z"
  refine Z.z_forRE ?_
  walk_at "z"
  refine nx S3 (by decide) (lt1000 (by decide)) fun n H5 n0 n1 S5 e5 => ?_
  walk_at "z"
  obtain ⟨n, rfl⟩ : ∃ n' : Nat, n = (n' : Int) := ⟨n.toNat, by omega⟩
  refine Z.z_forRr n (by omega) (fun i σ' H' => Sd H0 H' p ∧ Kp p H H' ∧ ∃ (f : Nat → Nat → Int) (u2 u3 u4 u5 : Option V), σ' = [some (.ref p), some (.ref R), u2, u3, u4, u5] ∧ OwRows H H' R as f ∧ InR f) ⟨S5, k3.trans' (kp_eq e5), _, _, _, _, _, rfl, ow.kpo (kp_eq e5) p1, le⟩ ?_ ?_
  · clear ow le S5 S3 k3 e5
    rintro i σ' H6 hi ⟨S6, k6, f, u2, u3, u4, u5, rfl, ow, le⟩
    walk_at "z"
    refine nx S6 (by decide) (lt1000 (by decide)) fun r H7 r0 r1 S7 e7 => ?_
    walk_at "z"
    refine nx S7 (by decide) (lt1000 (by decide)) fun c H8 c0 c1 S8 e8 => ?_
    walk_at "z"
    intro t H9 f9 s9 h9
    walk_at "z"
    have S9 := S8.mono s9
    refine nx S9 (by decide) (lt1000 (by decide)) fun w HA w0 w1 SA eA => ?_
    have htA : HA t = some (.lst (([3, 200, 9999] : List Int).map V.int)) := (eA t (S8.ne0 f9)).trans h9
    obtain ⟨most, hm, mm⟩ := at_ints (ns := [3, 200, 9999]) w0 w1
    have mb : 3 ≤ most ∧ most ≤ 9999 := (by decide : ∀ x ∈ ([3, 200, 9999] : List Int), 3 ≤ x ∧ x ≤ 9999) most mm
    refine z_ixL (.inl (.inl htA)) hm ?_
    walk_at "z"
    refine nx SA (by omega) (lt1000 (Nat.lt_of_le_of_lt (show (2 * most + 1).natAbs ≤ 100000 by omega) (by decide))) fun x HB x0 x1 SB eB => ?_
    walk_at "z"
    have kB : Kp p H6 HB := ((((kp_eq e7).trans' (kp_eq e8)).trans' (kp_of s9)).trans' (kp_eq eA)).trans' (kp_eq eB)
    have owB := ow.kpo kB p1
    have k6B := k6.trans' kB
    obtain ⟨r, rfl⟩ : ∃ n' : Nat, r = (n' : Int) := ⟨r.toNat, by omega⟩
    obtain ⟨c, rfl⟩ : ∃ n' : Nat, c = (n' : Int) := ⟨c.toNat, by omega⟩
    have hr : r < 48 := by omega
    have hc : c < 48 := by omega
    obtain ⟨a, ha, hma, hra⟩ := row_at owB.1 hr
    have fa := owB.2.2.2.2 a (List.mem_of_getElem? ha)
    have nap : a ≠ p := fun z => p1 (by rw [← z]; exact fa)
    refine z_ixL (.inl (.inl owB.1.1)) (atI_nat hma) ?_
    walk_at "z"
    refine z_setL hra (k := c) (ixN_nat (by rw [List.length_map, mrow_len]; exact hc)) ?_
    refine ⟨SB.put (S.none0 fa) nap, kp_put k6B fa, _, _, _, _, _, rfl, owB.put ha hc, fun i j hi hj => ?_⟩
    show -9999 ≤ (if i = r ∧ j = c then x - most else f i j) ∧ (if i = r ∧ j = c then x - most else f i j) ≤ 9999
    split
    · omega
    · exact le i j hi hj
  · rintro σ' H6 ⟨S6, k6, f, u2, u3, u4, u5, rfl, ow, le⟩
    walk_at "z"
    exact q R H6 as f S6 k6 ow le
end
/-! ### one line's count -/
def sp__law_count_line (K : PySem.W.Frag) : Sp := fun vs H Q _ => ∃ (R : Addr) (as : List Addr) (f : Nat → Nat → Int) (H0 : Hp) (v w : V) (a b : GP), vs = [.ref R, v, w] ∧ OwRows H0 H R as f ∧ Same H0 H ∧ Dp K H0 v (gD a) ∧ Dp K H0 w (gD b) ∧ Gm a ∧ Gm b ∧
  ∀ H' f', Same H0 H' → OwRows H0 H' R as f' → (∀ r c, r < 48 → c < 48 → f' r c = f r c + rcn a b (Xc (c : Int)) (Yr (r : Int))) → Q .non H'
/-- the part of the first i rows and, in row i, of the first j columns -/
def cl1 (lo hi : GP) (s : Int) (x y : Int) : Int := if lo.2 ≤ y ∧ y < hi.2 ∧ ¬ left lo hi x y then s else 0
theorem rcn_cl (a b : GP) (x y : Int) : rcn a b x y = if b.2 < a.2 then cl1 b a (-1) x y else cl1 a b 1 x y := rfl
section
theorem ok__law_count_line {P : Program} {w : World} {K : PySem.W.Frag} {mg : Str → Option Value} {base : Heap} {A : Nat → Addr} {D : Nat → FuncData} (T : Txt K mg A D) : FnOk P w K mg base (L2.CX P w) 1 (A 47) (D 47) ["rows", "a", "b"] (sp__law_count_line K) := by
  refine T.F__law_count_line.okX sc__law_count_line (fun vs H Q E h => ?_) (fun cdv A' outer s H vs Q E hr h => ?_)
  · obtain ⟨R, as, f, H0, v, w', a, b, rfl, _⟩ := h
    rfl
  obtain ⟨R, as, f, H0, v, w', a, b, rfl, ow, s0, d1, d2, ga, gb, q⟩ := h
  refine ⟨_, (pss_cons (ps_set (i := 3) sc__law_count_line.nd rfl (.inl rfl) pe_int)
  (Evl.pss_cut (ps_if (pt_cmpR op_lt (pe_ix ix_tup (pv 2) pe_int (fun _ _ => rfl)) (pe_ix ix_tup (pv 1) pe_int (fun _ _ => rfl)) (nomark _))
  (pss_cons (ps_par (i := 1) (j := 2) (by rfl) sc__law_count_line.nd rfl rfl (by decide) rfl rfl (pa_cons (pv 2) (pa_cons (pv 1) pa_nil)) (by rfl))
  (pss_one (ps_set (i := 3) sc__law_count_line.nd rfl (.inl rfl) (pe_un un_neg pe_int))))
  pss_nil)
  (pss_one (ps_for (passes_of rfl) rfl (pi_range1 (by rfl) T.z_range (pa_cons pe_int pa_nil)) (pg_name (i := 4) sc__law_count_line.nd rfl (.inl rfl))
  (pss_cons (ps_set (i := 5) sc__law_count_line.nd rfl (.inl rfl) (pe_op op_add (pe_op op_mul pe_int (pe_op op_sub (pv 4) pe_int)) pe_int))
  (pss_one (ps_if (PW.pt (pw_and (pt_cmpR op_le (pe_ix ix_tup (pv 1) pe_int (fun _ _ => rfl)) (pv 5) (nomark _)) (pw_and1 (pt_cmpR op_lt (pv 5) (pe_ix ix_tup (pv 2) pe_int (fun _ _ => rfl)) (nomark _)))))
  (pss_one (ps_for (passes_of rfl) rfl (pi_range1 (by rfl) T.z_range (pa_cons pe_int pa_nil)) (pg_name (i := 6) sc__law_count_line.nd rfl (.inl rfl))
  (pss_cons (ps_set (i := 7) sc__law_count_line.nd rfl (.inl rfl) (pe_op op_add (pe_op op_mul pe_int (pe_op op_sub (pv 6) pe_int)) pe_int))
  (pss_one (ps_if (pt_cmpR op_gt (pe_op op_mulW (pe_op op_sub (pe_ix ix_tup (pv 2) pe_int (fun _ _ => rfl)) (pe_ix ix_tup (pv 1) pe_int (fun _ _ => rfl))) (pe_op op_sub (pv 5) (pe_ix ix_tup (pv 1) pe_int (fun _ _ => rfl)))) (pe_op op_mulW (pe_op op_sub (pe_ix ix_tup (pv 2) pe_int (fun _ _ => rfl)) (pe_ix ix_tup (pv 1) pe_int (fun _ _ => rfl))) (pe_op op_sub (pv 7) (pe_ix ix_tup (pv 1) pe_int (fun _ _ => rfl)))) (nomark _))
  (pss_one (ps_asg (pe_op op_add (pe_ix ix_list (pe_ix ix_list (pv 0) (pv 4) (fun _ _ => rfl)) (pv 6) (fun _ _ => rfl)) (pv 3)) (pg_sub (pe_ix ix_list (pv 0) (pv 4) (fun _ _ => rfl)) (pv 6) set_list)))
  pss_nil)))))
  pss_nil))))))), ?_⟩
  obtain ⟨pa, rfl, hpa⟩ := dp_g d1
  obtain ⟨pb, rfl, hpb⟩ := dp_g d2
  have hpa1 := seqT s0 hpa
  have hpb1 := seqT s0 hpb
  walk_at "z"
  refine z_cut (fun σ' H' => H' = H ∧ ∃ (pa pb : Addr) (lo hi : GP) (s : Int), σ' = [some (.ref R), some (.ref pa), some (.ref pb), some (.int s), none, none, none, none] ∧ SqT K H0 pa [.int lo.1, .int lo.2] ∧ SqT K H0 pb [.int hi.1, .int hi.2] ∧ Gm lo ∧ Gm hi ∧ s.natAbs ≤ 1 ∧ ∀ x y, rcn a b x y = cl1 lo hi s x y) ?_ ?_
  · walk_at "z"
    refine z_if (fun h => ?_) (fun h => ?_)
    · walk_at "z"
      exact ⟨rfl, pb, pa, b, a, -1, rfl, hpb, hpa, gb, ga, by decide, fun x y => by rw [rcn_cl, if_pos h]⟩
    · walk_at "z"
      exact ⟨rfl, pa, pb, a, b, 1, rfl, hpa, hpb, ga, gb, by decide, fun x y => by rw [rcn_cl, if_neg h]⟩
  clear hpa1 hpb1 hpa hpb d1 d2
  clear pa pb
  rintro σ' H1 ⟨rfl, pa, pb, lo, hi, s', rfl, hpa, hpb, glo, ghi, hs, hr⟩
  have yr : ∀ r : Nat, 64 * ((r : Int) - 16) + 32 = Yr (r : Int) := fun r => by
    unfold Yr
    omega
  have xc : ∀ c : Nat, 64 * ((c : Int) - 8) + 32 = Xc (c : Int) := fun c => by
    unfold Xc
    omega
  have gy : ∀ r : Nat, r < 48 → (Yr (r : Int)).natAbs ≤ 10000000000000 := fun r h => by
    unfold Yr
    omega
  have gx : ∀ r : Nat, r < 48 → (Xc (r : Int)).natAbs ≤ 10000000000000 := fun r h => by
    unfold Xc
    omega
  walk_at "z"
  refine z_forR1 48 (by decide) (fun R q => by walk_at "z"; exact q) (fun r σ' H' => ∃ (f' : Nat → Nat → Int) (u4 u5 u6 u7 : Option V), σ' = [some (.ref R), some (.ref pa), some (.ref pb), some (.int s'), u4, u5, u6, u7] ∧ Same H0 H' ∧ OwRows H0 H' R as f' ∧
    ∀ i c, i < 48 → c < 48 → f' i c = f i c + (if i < r then cl1 lo hi s' (Xc (c : Int)) (Yr (i : Int)) else 0)) ⟨f, _, _, _, _, rfl, s0, ow, fun i c _ _ => by rw [if_neg (Nat.not_lt_zero _), Int.add_zero]⟩ ?_ ?_
  · clear ow s0
    rintro r σ' H2 hr48 ⟨f', u4, u5, u6, u7, rfl, s2, ow2, hf⟩
    have hpa2 := seqT s2 hpa
    have hpb2 := seqT s2 hpb
    have skip : ¬ (lo.2 ≤ Yr (r : Int) ∧ Yr (r : Int) < hi.2) → ∀ i c, i < 48 → c < 48 → f' i c = f i c + (if i < r + 1 then cl1 lo hi s' (Xc (c : Int)) (Yr (i : Int)) else 0) := fun no i c hi' hc => by
      rw [hf i c hi' hc]
      congr 1
      by_cases z : i < r
      · rw [if_pos z, if_pos (by omega)]
      · rw [if_neg z]
        by_cases z2 : i < r + 1
        · have : i = r := by omega
          subst this
          rw [if_pos z2]
          unfold cl1
          rw [if_neg (fun w => no ⟨w.1, w.2.1⟩)]
        · rw [if_neg z2]
    walk_at "z"
    rw [yr]
    refine z_if (fun k => ?_) (fun k => ?_)
    · walk_at "z"
      refine z_if (fun k2 => ?_) (fun k2 => ?_)
      · walk_at "z"
        refine z_forR1 48 (by decide) (fun R q => by walk_at "z"; exact q) (fun c σ' H' => ∃ (f' : Nat → Nat → Int) (u6 u7 : Option V), σ' = [some (.ref R), some (.ref pa), some (.ref pb), some (.int s'), some (.int (r : Int)), some (.int (Yr (r : Int))), u6, u7] ∧ Same H0 H' ∧ OwRows H0 H' R as f' ∧
          ∀ i j, i < 48 → j < 48 → f' i j = f i j + (if i < r ∨ (i = r ∧ j < c) then cl1 lo hi s' (Xc (j : Int)) (Yr (i : Int)) else 0)) ⟨f', _, _, rfl, s2, ow2, fun i j hi' hj => by
            rw [hf i j hi' hj]
            congr 1
            by_cases z : i < r
            · rw [if_pos z, if_pos (.inl z)]
            · rw [if_neg z, if_neg (fun w => by omega)]⟩ ?_ ?_
        · clear skip ow2 hf hpa2 hpb2
          clear f'
          rintro c σ' H3 hc48 ⟨f', u6, u7, rfl, s3, ow3, hf⟩
          have hpa3 := seqT s3 hpa
          have hpb3 := seqT s3 hpb
          have hl : left lo hi (Xc (c : Int)) (Yr (r : Int)) ↔ (hi.1 - lo.1) * (Yr (r : Int) - lo.2) ≤ (hi.2 - lo.2) * (Xc (c : Int) - lo.1) := by
            unfold left
            rw [Int.mul_comm (Xc (c : Int) - lo.1)]
          obtain ⟨a, ha, hma, hra⟩ := row_at ow3.1 hr48
          walk_at "z"
          rw [xc]
          refine z_I (gm_mul (gm_sub ghi.1 glo.1) (gm_sub (gy r hr48) glo.2)) ?_
          walk_at "z"
          refine z_I (gm_mul (gm_sub ghi.2 glo.2) (gm_sub (gx c hc48) glo.1)) ?_
          walk_at "z"
          refine z_if (fun w => ?_) (fun w => ?_)
          · walk_at "z"
            refine z_ixL (.inl (.inl ow3.1.1)) (atI_nat hma) ?_
            walk_at "z"
            refine z_ixL (.inl (.inl hra)) (cell_at f' r hc48) ?_
            walk_at "z"
            refine z_ixL (.inl (.inl ow3.1.1)) (atI_nat hma) ?_
            walk_at "z"
            refine z_setL hra (k := c) (ixN_nat (by rw [List.length_map, mrow_len]; exact hc48)) ?_
            have fa := ow3.2.2.2.2 a (List.mem_of_getElem? ha)
            refine ⟨_, _, _, rfl, same_put s3 fa, ow3.put ha hc48, fun i j hi' hj => ?_⟩
            have one : cl1 lo hi s' (Xc (c : Int)) (Yr (r : Int)) = s' := by
              unfold cl1
              rw [if_pos ⟨k, k2, fun z => by have := hl.mp z; have w : (hi.2 - lo.2) * (Xc (c : Int) - lo.1) < (hi.1 - lo.1) * (Yr (r : Int) - lo.2) := w; omega⟩]
            show (if i = r ∧ j = c then f' r c + s' else f' i j) = _
            by_cases z : i = r ∧ j = c
            · obtain ⟨rfl, rfl⟩ := z
              rw [if_pos ⟨rfl, rfl⟩, hf i j hr48 hc48, if_neg (by omega), if_pos (.inr ⟨rfl, Nat.lt_succ_self _⟩), one]
              omega
            · rw [if_neg z, hf i j hi' hj]
              congr 1
              by_cases z2 : i < r ∨ (i = r ∧ j < c)
              · rw [if_pos z2, if_pos (by omega)]
              · rw [if_neg z2, if_neg (by omega)]
          · walk_at "z"
            refine ⟨f', _, _, rfl, s3, ow3, fun i j hi' hj => ?_⟩
            have none' : cl1 lo hi s' (Xc (c : Int)) (Yr (r : Int)) = 0 := by
              unfold cl1
              rw [if_neg (fun z => z.2.2 (hl.mpr (by have w : ¬ (hi.2 - lo.2) * (Xc (c : Int) - lo.1) < (hi.1 - lo.1) * (Yr (r : Int) - lo.2) := w; omega)))]
            rw [hf i j hi' hj]
            congr 1
            by_cases z2 : i < r ∨ (i = r ∧ j < c)
            · rw [if_pos z2, if_pos (by omega)]
            · rw [if_neg z2]
              by_cases z3 : i < r ∨ (i = r ∧ j < c + 1)
              · have e1 : i = r := by omega
                have e2 : j = c := by omega
                subst e1 e2
                rw [if_pos z3, none']
              · rw [if_neg z3]
        · clear skip ow2 hf hpa2 hpb2
          clear f'
          rintro σ' H3 ⟨f', u6, u7, rfl, s3, ow3, hf⟩
          refine ⟨f', _, _, _, _, rfl, s3, ow3, fun i c hi' hc => ?_⟩
          rw [hf i c hi' hc]
          congr 1
          by_cases z : i < r + 1
          · rw [if_pos z, if_pos (by omega)]
          · rw [if_neg z, if_neg (by omega)]
      · walk_at "z"
        exact ⟨f', _, _, _, _, rfl, s2, ow2, skip fun z => k2 z.2⟩
    · walk_at "z"
      exact ⟨f', _, _, _, _, rfl, s2, ow2, skip fun z => k z.1⟩
  · rintro σ' H2 ⟨f', u4, u5, u6, u7, rfl, s2, ow2, hf⟩
    walk_at "z"
    exact q H2 f' s2 ow2 fun r c hr48 hc => by rw [hf r c hr48 hc, if_pos hr48, hr]
end

/-! ### a filled outline -/
theorem z_places {K : PySem.W.Frag} {H0 H : Hp} {p : Addr} {mo : Int} {m k : Nat} {vs : List Nat} {te : TE} {σ : L2.St} {Q : VK} {v : Int} (S : Sd H0 H p) (hv : v = (m : Int)) (hm : m ≤ 20) (hw : ∀ x, wipe ((wipe σ vs).set k (some x)) vs = wipe σ vs)
    (hte : ∀ (i : Nat) (H' : Hp) (R : VK), (∀ E, sp__law_place K [.ref p, .int mo] H' R E) → te ((wipe σ vs).set k (some (.int (i : Int)))) H' R)
    (q : ∀ (D : Addr) (H' : Hp) (ws : List V) (zs : List GP), H D = none → D ≠ p → Sd H0 H' p → Kp p H H' → H' D = some (.lst ws) → Gs K H' ws zs → zs.length = m → (∀ z ∈ zs, Gb 1000000 z) → Q (.ref D) H') : LcRE (gName k) tYes te vs σ Q [.int v] H := by
  subst hv
  refine z_lcRr m (by omega) hw (fun i D acc H' => Sd H0 H' p ∧ Kp p H H' ∧ D ≠ p ∧ H D = none ∧ ∃ zs : List GP, Gs K H' acc zs ∧ ∀ z ∈ zs, Gb 1000000 z)
    (fun D H' f s e => ⟨S.mono s, kp_of s, S.ne0 f, f, [], trivial, fun x hx => nomatch hx⟩) (fun i D acc H' hi hl hD ⟨S', k', ne, f, zs, g, hb⟩ => ?_)
    (fun D acc H' f hl hD ⟨S', k', ne, _, zs, g, hb⟩ => q D H' acc zs f ne S' k' hD g (by rw [← g.len]; exact hl) hb)
  refine hte i H' _ fun E => ⟨p, H0, mo, rfl, S', fun t x y H2 ft nt ht hxy S2 k2 => ?_⟩
  obtain ⟨a6, b6, m6, st6⟩ := S'.stm
  have g2 : Gs K H2 (acc ++ [.ref t]) (zs ++ [(x, y)]) := (Gs.kp k2 st6 g).app (gs_one (dp_mkg ht))
  have hD2 : H2 D = some (.lst acc) := k2 _ _ ne hD
  refine z_lcB hD2 hl (by omega) fun H3 hD3 k3 e3 => ⟨?_, ?_, ne, f, zs ++ [(x, y)], g2.kp k3 hD2, fun z hz => ?_⟩
  · obtain ⟨a, b, c, st⟩ := S2.stm
    refine ⟨fun b o h => ?_, S2.fresh, a, b, c, by rw [e3 p ne.symm]; exact st⟩
    have hne : b ≠ D := fun z => by
      have h1 := S.same _ _ h
      rw [z, f] at h1
      cases h1
    rw [e3 b hne]
    exact S2.same _ _ h
  · intro b o hb' h
    have hne : b ≠ D := fun z => by
      rw [z, f] at h
      cases h
    rw [e3 b hne]
    exact k2 _ _ hb' (k' b o hb' h)
  · rcases List.mem_append.mp hz with h | h
    · exact hb z h
    · rw [List.mem_singleton.mp h]
      exact hxy
theorem rcn_bd (a b : GP) (x y : Int) : (rcn a b x y).natAbs ≤ 1 := by
  unfold rcn
  repeat' split
  all_goals decide
theorem psum_bd {f : GP → GP → Int} (h : ∀ a b, (f a b).natAbs ≤ 1) (zs : List GP) : ∀ i, (psum f zs i).natAbs ≤ i
  | 0 => Nat.le_refl 0
  | i + 1 => by
    have := psum_bd h zs i
    show (psum f zs i + _).natAbs ≤ i + 1
    split
    · rename_i a b _ _
      have := h a b
      omega
    · omega
def Few (g : Nat → Nat → Int) : Prop := ∀ r c, r < 48 → c < 48 → (g r c).natAbs ≤ 100
def sp__law_filled : Sp := fun vs H Q _ => ∃ (p : Addr) (H0 : Hp), vs = [.ref p] ∧ Sd H0 H p ∧
  ∀ t P S pb sb g H', Sd H0 H' p → Kp p H H' → H' t = some (.tup [.ref P, .ref S]) → RdRows H' P pb g → RdRows H' S sb g → Few g → Q (.ref t) H'
section
theorem ok__law_filled {P : Program} {w : World} {K : PySem.W.Frag} {mg : Str → Option Value} {base : Heap} {A : Nat → Addr} {D : Nat → FuncData} (T : Txt K mg A D) : FnOk P w K mg base (L2.CX P w) 5 (A 49) (D 49) ["stream"] (sp__law_filled) := by
  refine T.F__law_filled.okX sc__law_filled (fun vs H Q E h => ?_) (fun cdv A' outer s H vs Q E hr h => ?_)
  · obtain ⟨p, H0, rfl, _⟩ := h
    rfl
  obtain ⟨p, H0, rfl, S, q⟩ := h
  refine ⟨_, (pss_cons (ps_set (i := 1) sc__law_filled.nd rfl (.inr rfl) (pe_call (ok__law_draw T) (hr.mono (by decide)) (by rfl) T.m__law_draw T.F__law_draw.kp T.b__law_draw .nil (passes_call (takes_of rfl rfl rfl rfl) (fun _ _ _ _ h => h)) (pa_cons (pv 0) (pa_cons pe_int pa_nil))))
  (pss_cons (ps_setLc (i := 2) (own := [("k", 3)]) (g := gName 3) (tt := tYes) rfl sc__law_filled.nd rfl rfl (sw_true rfl rfl rfl (by decide +kernel)) (pi_range1 (by rfl) T.z_range (pa_cons (pe_op op_add (pe_call (ok__law_draw T) (hr.mono (by decide)) (by rfl) T.m__law_draw T.F__law_draw.kp T.b__law_draw .nil (passes_call (takes_of rfl rfl rfl rfl) (fun _ _ _ _ h => h)) (pa_cons (pv 0) (pa_cons pe_int pa_nil))) pe_int) pa_nil)) (blkOk_by (N := ["stream", "mode", "outline", "k", "expected"]) (sc := defScope s__law_filled) (by decide +kernel)) (fun _ _ _ _ _ => pg_name (i := 3) sc__law_filled.nd rfl (Or.inl rfl)) (fun _ _ _ _ _ => pts_nil) (fun _ _ _ _ _ => (pe_call (ok__law_place T) (hr.mono (by decide)) (by rfl) T.m__law_place T.F__law_place.kp T.b__law_place .nil passL (pa_cons (pv 0) (pa_cons (pv 1) pa_nil)))))
  (pss_cons (ps_expr (pe_bm PySem.F.plainAttrs_list PySem.F.slot_list_append PySem.F.type_list_append mt_append (pv 2) (pa_cons (pe_ix ix_list (pv 2) pe_int (fun _ _ => rfl)) pa_nil)))
  (pss_cons (ps_set (i := 4) sc__law_filled.nd rfl (.inl rfl) (pe_call0 (ok__law_blank T) (hr.mono (by decide)) (by rfl) T.m__law_blank T.F__law_blank.kp T.b__law_blank .nil (passes_call (takes_of rfl rfl rfl rfl) (fun _ _ _ _ h => h))))
  (pss_cons (ps_for (passes_of rfl) rfl (pi_range1 (by rfl) T.z_range (pa_cons (pe_op op_sub (pe_callB Z.c_len (by rfl) T.z_len (by decide +kernel) (pa_cons (pv 2) pa_nil)) pe_int) pa_nil)) (pg_name (i := 3) sc__law_filled.nd rfl (.inl rfl))
  (pss_one (ps_expr (pe_call (ok__law_count_line T) (hr.mono (by decide)) (by rfl) T.m__law_count_line T.F__law_count_line.kp T.b__law_count_line .nil (passes_call (takes_of rfl rfl rfl rfl) (fun _ _ _ _ h => h)) (pa_cons (pv 4) (pa_cons (pe_ix ix_list (pv 2) (pv 3) (fun _ _ => rfl)) (pa_cons (pe_ix ix_list (pv 2) (pe_op op_add (pv 3) pe_int) (fun _ _ => rfl)) pa_nil)))))))
  (pss_one (ps_ret (pe_tup (pa_cons (pe_call (ok_fill_rows T) (hr.mono (by decide)) (by rfl) T.m_fill_rows T.F_fill_rows.kp T.b_fill_rows .nil (passes_call (takes_of rfl rfl rfl rfl) (fun _ _ _ _ h => h)) (pa_cons (pv 2) pa_nil)) (pa_cons (pv 4) pa_nil)))))))))), ?_⟩
  walk_at "z"
  refine nx S (by decide) (lt1000 (by decide)) fun mo H1 mo0 mo1 S1 e1 => ?_
  walk_at "z"
  refine z_lcRE ?_
  walk_at "z"
  refine nx S1 (by decide) (lt1000 (by decide)) fun n H2 n0 n1 S2 e2 => ?_
  walk_at "z"
  obtain ⟨m, hm⟩ : ∃ m : Nat, n + 3 = (m : Int) := ⟨(n + 3).toNat, by omega⟩
  refine z_places (K := K) (mo := mo) S2 hm (by omega) (fun _ => rfl) (fun i H' R h => ?_) fun D HB ws zs fD nD SB kB hD g lz hb => ?_
  · walk_at "z"
    exact h E
  have hHD : H D = none := kp_none ((kp_eq e1).trans' (kp_eq e2)) fD nD
  have kHB : Kp p H HB := ((kp_eq e1).trans' (kp_eq e2)).trans' kB
  have lw : ws.length = m := by rw [g.len, lz]
  clear S2 S1 e1 e2 kB
  walk_at "z"
  refine z_bmL (fun R q => by walk_at "z"; exact q) hD ?_
  walk_at "z"
  obtain ⟨z0, hz0⟩ : ∃ z0, zs[0]? = some z0 := ⟨_, List.getElem?_eq_getElem (show 0 < zs.length by omega)⟩
  obtain ⟨v0, hv0, dv0⟩ := g.get hz0
  refine z_ixL (.inl (.inl hD)) (nat_idx hv0) ?_
  walk_at "z"
  refine z_append hD (by omega) ?_
  have p1 : H p ≠ none := by
    obtain ⟨_, _, _, st⟩ := S.stm
    rw [st]
    simp
  have SC := SB.put (o := .lst (ws ++ [v0])) (S.none0 hHD) nD
  have kHC := kp_put (o := .lst (ws ++ [v0])) kHB hHD
  have hC : upd HB D (.lst (ws ++ [v0])) D = some (.lst (ws ++ [v0])) := upd_same
  have gC : Gs K (upd HB D (.lst (ws ++ [v0]))) (ws ++ [v0]) (zs ++ [z0]) := (g.app (gs_one dv0)).kp (fun b o hb' e => by rw [upd_ne hb']; exact e) hD
  have dr : Drawn (zs ++ [z0]) m := ⟨by simp [lz], fun z hz => (by
    rcases List.mem_append.mp hz with h | h
    · exact (hb z h).le (by decide)
    · rw [List.mem_singleton.mp h]
      exact (hb z0 (List.mem_of_getElem? hz0)).le (by decide)), by
    rw [List.getElem?_append_right (by omega), List.getElem?_append_left (by omega), lz, Nat.sub_self, hz0]
    rfl⟩
  clear g hD SB kHB hv0 dv0 hz0 hb lz
  generalize upd HB D (HO.lst (ws ++ [v0])) = HC at *
  generalize zs ++ [z0] = zs at *
  have lw' : (ws ++ [v0]).length = m + 1 := by rw [List.length_append, lw]; rfl
  generalize ws ++ [v0] = ws at *
  clear lw
  have lz := dr.1
  have gm : ∀ z ∈ zs, Gm z := fun z hz => (dr.2.1 z hz).le (by decide)
  walk_at "z"
  refine ⟨rfl, fun R HE as sE ow => ?_⟩
  walk_at "z"
  refine z_forR1 m (by omega) (fun R q => by
    walk_at "z"
    refine z_lenL (.inl (.inl (sE _ _ hC))) ?_
    walk_at "z"
    rw [lw', show ((m + 1 : Nat) : Int) - 1 = (m : Int) by omega]
    exact q) (fun i σ' H' => Same HC H' ∧ ∃ (f' : Nat → Nat → Int) (u3 : Option V), σ' = [some (.ref p), some (.int mo), some (.ref D), u3, some (.ref R)] ∧ OwRows HC H' R as f' ∧ ∀ r c, r < 48 → c < 48 → f' r c = psum (fun a b => rcn a b (Xc (c : Int)) (Yr (r : Int))) zs i) ⟨sE, _, _, rfl, ow, fun r c _ _ => rfl⟩ ?_ ?_
  · rintro i σ' H6 hi ⟨s6, f', u3, rfl, ow6, hf⟩
    obtain ⟨za, hza⟩ : ∃ z, zs[i]? = some z := ⟨_, List.getElem?_eq_getElem (show i < zs.length by omega)⟩
    obtain ⟨zb, hzb⟩ : ∃ z, zs[i + 1]? = some z := ⟨_, List.getElem?_eq_getElem (show i + 1 < zs.length by omega)⟩
    obtain ⟨va, hva, dza⟩ := gC.get hza
    obtain ⟨vb, hvb, dzb⟩ := gC.get hzb
    walk_at "z"
    refine z_ixL (.inl (.inl (s6 _ _ hC))) (nat_idx hva) ?_
    walk_at "z"
    refine z_ixL (.inl (.inl (s6 _ _ hC))) (show atI ws ((i : Int) + 1) = _ from nat_idx hvb) ?_
    walk_at "z"
    refine ⟨R, as, f', HC, va, vb, za, zb, rfl, ow6, s6, dza, dzb, gm _ (List.mem_of_getElem? hza), gm _ (List.mem_of_getElem? hzb), fun H7 f7 s7 ow7 hf7 => ?_⟩
    walk_at "z"
    exact ⟨s7, f7, _, rfl, ow7, fun r c hr hc => by rw [hf7 r c hr hc, hf r c hr hc, psum_s hza hzb]⟩
  · rintro σ' H6 ⟨s6, f', u3, rfl, ow6, hf⟩
    walk_at "z"
    refine ⟨D, ws, zs, rfl, s6 _ _ hC, gC.mono s6, gm, by omega, fun P H7 pb f7 s7 rd => ?_⟩
    walk_at "z"
    intro t H8 f8 s8 h8
    walk_at "z"
    have e : ∀ r c : Nat, r < 48 → c < 48 → f' r c = wn zs (Xc (c : Int)) (Yr (r : Int)) := fun r c hr hc => by rw [hf r c hr hc, rc_wn dr]
    refine q t P R pb as (fun r c => wn zs (Xc (c : Int)) (Yr (r : Int))) H8 (((SC.mono s6).mono s7).mono s8) (((kHC.trans' (kp_of s6)).trans' (kp_of s7)).trans' (kp_of s8)) h8 (rd.mono s8) (((ow6.1.congr e).mono s7).mono s8) fun r c hr hc => ?_
    show (wn zs (Xc (c : Int)) (Yr (r : Int))).natAbs ≤ 100
    rw [← rc_wn dr]
    have := psum_bd (fun a b => rcn_bd a b (Xc (c : Int)) (Yr (r : Int))) zs m
    omega
end
theorem len_two {α : Type} : ∀ {l : List α}, l.length = 2 → ∃ a b, l = [a, b]
  | [a, b], _ => ⟨a, b, rfl⟩
theorem kp_same {p : Addr} {H H' : Hp} (s : Same H H') : Kp p H H' := fun b o _ e => s b o e
theorem set_ins {z : GP} : ∀ us : List GP, Up us → ∃ vs, Up vs ∧ ∀ q, q ∈ vs ↔ (q = z ∨ q ∈ us)
  | [], _ => ⟨[z], List.pairwise_singleton _ _, fun q => by simp⟩
  | u :: us, h => by
    have h' := List.pairwise_cons.mp h
    rcases lx_tri z u with c | c | c
    · refine ⟨z :: u :: us, List.pairwise_cons.mpr ⟨fun x hx => ?_, h⟩, fun q => List.mem_cons⟩
      rcases List.mem_cons.mp hx with rfl | hx
      · exact c
      · exact lx_trans c (h'.1 x hx)
    · subst c
      exact ⟨z :: us, h, fun q => ⟨fun m => .inr m, fun m => by
        rcases m with rfl | m
        · exact .head _
        · exact m⟩⟩
    · obtain ⟨vs, hv, mv⟩ := set_ins us h'.2
      refine ⟨u :: vs, List.pairwise_cons.mpr ⟨fun x hx => ?_, hv⟩, fun q => ?_⟩
      · rcases (mv x).mp hx with rfl | hx
        · exact c
        · exact h'.1 x hx
      · rw [List.mem_cons, mv, List.mem_cons]
        exact ⟨fun m => by rcases m with m | m | m <;> simp [m], fun m => by rcases m with m | m | m <;> simp [m]⟩
theorem set_ex : ∀ zs : List GP, ∃ us, Set zs us
  | [] => ⟨[], List.Pairwise.nil, fun q => Iff.rfl⟩
  | z :: zs => by
    obtain ⟨us, hu, mu⟩ := set_ex zs
    obtain ⟨vs, hv, mv⟩ := set_ins (z := z) us hu
    exact ⟨vs, hv, fun q => by rw [mv, mu, List.mem_cons]⟩
theorem Around.mem {us vs h : List GP} (ar : Around us h) (e : ∀ q, q ∈ us ↔ q ∈ vs) : Around vs h :=
  ⟨ar.ne, ar.nodup, fun x hx => (e x).mp (ar.sub x hx), fun a ha q hq => ar.first a ha q ((e q).mpr hq), fun n a ha q hq => ar.last n a ha q ((e q).mpr hq), ar.turn, fun k a b hk ha hb q hq => ar.edge k a b hk ha hb q ((e q).mpr hq)⟩
/-- the hull of the sums with the corners of the pen is the hull of the sums with its points -/
theorem hull_sums {zs U us2 us : List GP} {a b : GP} (hne : zs ≠ []) (hU : Set zs U) (h2 : Set ((hull U).map (add a) ++ (hull U).map (add b)) us2) (h : Set (zs.map (add a) ++ zs.map (add b)) us) : hull us2 = hull us := by
  have neU : U ≠ [] := fun e => by
    cases zs with
    | nil => exact hne rfl
    | cons z0 zs =>
      have := (hU.mem z0).mpr (.head _)
      rw [e] at this
      cases this
  have ne2 := set_ne (hull_ne hU.up neU) h2
  have ne := set_ne hne h
  have hsubz : ∀ z ∈ hull U, z ∈ zs := fun z hz => (hU.mem z).mp ((hull_around hU.up neU).sub z hz)
  have ar2 : Around (zs.map (add a) ++ zs.map (add b)) (hull us2) := by
    refine around_up (p := a) (q := b) hU.up neU (hull_around h2.up ne2) (fun t ht => ⟨(h2.mem _).mpr (List.mem_append.mpr (.inl (List.mem_map.mpr ⟨t, ht, rfl⟩))), (h2.mem _).mpr (List.mem_append.mpr (.inr (List.mem_map.mpr ⟨t, ht, rfl⟩)))⟩) (fun y hy => ?_) (fun y hy => ?_)
    · rcases List.mem_append.mp hy with h | h
      · obtain ⟨x, hx, rfl⟩ := List.mem_map.mp h
        exact ⟨x, (hU.mem x).mpr hx, .inl rfl⟩
      · obtain ⟨x, hx, rfl⟩ := List.mem_map.mp h
        exact ⟨x, (hU.mem x).mpr hx, .inr rfl⟩
    · rcases List.mem_append.mp ((h2.mem y).mp hy) with h | h
      · obtain ⟨x, hx, rfl⟩ := List.mem_map.mp h
        exact List.mem_append.mpr (.inl (List.mem_map.mpr ⟨x, hsubz x hx, rfl⟩))
      · obtain ⟨x, hx, rfl⟩ := List.mem_map.mp h
        exact List.mem_append.mpr (.inr (List.mem_map.mpr ⟨x, hsubz x hx, rfl⟩))
  exact around_one ar2 ((hull_around h.up ne).mem h.mem)
/-- what the corners of the sums are within -/
theorem sums_gm {zs us : List GP} {a b : GP} (ba : Br a) (bb : Br b) (hb : ∀ z ∈ zs, Bq z) (hne : zs ≠ []) (h : Set (zs.map (add a) ++ zs.map (add b)) us) : (∀ z ∈ zs.map (add a) ++ zs.map (add b), Gm z) ∧ (∀ z ∈ hull us, Gm z) ∧ (hull us).length ≤ 2 * zs.length := by
  have g : ∀ z ∈ zs.map (add a) ++ zs.map (add b), Gm z := fun z hz => by
    rcases List.mem_append.mp hz with h | h
    · obtain ⟨x, hx, rfl⟩ := List.mem_map.mp h
      exact gm_add ba (hb x hx)
    · obtain ⟨x, hx, rfl⟩ := List.mem_map.mp h
      exact gm_add bb (hb x hx)
  have ar := (hull_around h.up (set_ne hne h)).mem h.mem
  have l := Sc.nodup_len ar.nodup ar.sub
  rw [List.length_append, List.length_map, List.length_map] at l
  exact ⟨g, fun z hz => g z (ar.sub z hz), by omega⟩
theorem cross_up {h : List GP} {y : Int} {m : GP} (hm : h[0]? = some m) (my : m.2 ≤ y) : ∀ (j : Nat) (M : GP), h[j]? = some M → y < M.2 → ∃ (k : Nat) (a b : GP), k < j ∧ h[k]? = some a ∧ h[k + 1]? = some b ∧ a.2 ≤ y ∧ y < b.2
  | 0, M, hM, yM => by
    rw [hm] at hM
    cases hM
    omega
  | j + 1, M, hM, yM => by
    have hj := (List.getElem?_eq_some_iff.mp hM).1
    obtain ⟨c, hc⟩ : ∃ c, h[j]? = some c := ⟨_, List.getElem?_eq_getElem (by omega)⟩
    rcases Int.lt_or_le y c.2 with z | z
    · obtain ⟨k, a, b, k1, k2⟩ := cross_up hm my j c hc z
      exact ⟨k, a, b, by omega, k2⟩
    · exact ⟨j, c, M, by omega, hc, hM, z, yM⟩
theorem cross_dn {h : List GP} {y : Int} {m : GP} (hm : h[0]? = some m) (my : m.2 ≤ y) : ∀ (d j : Nat) (M : GP), j + d + 1 = h.length → h[j]? = some M → y < M.2 → ∃ (k : Nat) (a b : GP), k < h.length ∧ h[k]? = some a ∧ h[(k + 1) % h.length]? = some b ∧ b.2 ≤ y ∧ y < a.2
  | 0, j, M, e, hM, yM => ⟨j, M, m, by omega, hM, by rw [show j + 1 = h.length by omega, Nat.mod_self]; exact hm, my, yM⟩
  | d + 1, j, M, e, hM, yM => by
    obtain ⟨c, hc⟩ : ∃ c, h[j + 1]? = some c := ⟨_, List.getElem?_eq_getElem (by omega)⟩
    rcases Int.lt_or_le y c.2 with z | z
    · exact cross_dn hm my d (j + 1) c (by omega) hc z
    · exact ⟨j, M, c, by omega, hM, by rw [Nat.mod_eq_of_lt (by omega)]; exact hc, z, yM⟩
/-- inside a hull of fewer points is inside one of more -/
theorem Inside.mono {A B : List GP} {q : GP} (hA : Up A) (neA : A ≠ []) (hB : Up B) (sub : ∀ x ∈ A, x ∈ B) (ins : Inside (hull A) q) : Inside (hull B) q := by
  have arA := hull_around hA neA
  have neB : B ≠ [] := fun e => by
    cases A with
    | nil => exact neA rfl
    | cons x A =>
      have := sub x (.head _)
      rw [e] at this
      cases this
  have arB := hull_around hB neB
  have pos : 0 < (hull A).length := List.length_pos_iff.mpr arA.ne
  obtain ⟨m, hm⟩ : ∃ z, (hull A)[0]? = some z := ⟨_, List.getElem?_eq_getElem pos⟩
  obtain ⟨_, M, Mh, hM⟩ := hull_lohi hA neA
  obtain ⟨j, hj⟩ := List.mem_iff_getElem?.mp Mh
  obtain ⟨b1, b2⟩ := ins.between arA hm (arA.first m hm) ⟨j, hj⟩ hM
  have jl := (List.getElem?_eq_some_iff.mp hj).1
  obtain ⟨k, a1, c1, k1, p1, p2, p3, p4⟩ := cross_up hm b1 j M hj b2
  obtain ⟨l, a2, c2, l1, r1, r2, r3, r4⟩ := cross_dn hm b1 ((hull A).length - 1 - j) j M (by omega) hj b2
  have w1 := ins.2 k a1 c1 (by omega) p1 (by rw [Nat.mod_eq_of_lt (by omega)]; exact p2)
  have w2 := ins.2 l a2 c2 l1 r1 r2
  have o1 : 0 < ori a1 c1 q := by
    rcases Int.lt_or_le 0 (ori a1 c1 q) with z | z
    · exact z
    · exact absurd (.inl (by omega)) (w1.2 (by omega))
  have inB : ∀ {i : Nat} {x : GP}, (hull A)[i]? = some x → x ∈ B := fun h => sub _ (arA.sub _ (List.mem_of_getElem? h))
  have all : ∀ (k : Nat) (a b : GP), k < (hull B).length → (hull B)[k]? = some a → (hull B)[(k + 1) % (hull B).length]? = some b → 0 ≤ ori a b q ∧ (ori a b q = 0 → ¬(a.2 < b.2 ∨ (a.2 = b.2 ∧ b.1 < a.1))) := fun k a b hk ha hb =>
    arB.inside (inB p1) (inB p2) (inB r1) (inB r2) (inB hj) b2 ⟨p3, p4⟩ ⟨r3, r4⟩ o1 w2.1 hk ha hb
  refine ⟨?_, all⟩
  have posB : 0 < (hull B).length := List.length_pos_iff.mpr arB.ne
  refine Nat.not_lt.mp fun n3 => ?_
  obtain ⟨u, hu⟩ : ∃ z, (hull B)[0]? = some z := ⟨_, List.getElem?_eq_getElem posB⟩
  obtain ⟨v, hv⟩ : ∃ z, (hull B)[(hull B).length - 1]? = some z := ⟨_, List.getElem?_eq_getElem (by omega)⟩
  by_cases n1 : (hull B).length = 1
  · rw [show (hull B).length - 1 = 0 by omega, hu] at hv
    cases hv
    have one : ∀ x ∈ B, x = u := fun x hx => by
      rcases arB.first u hu x hx with e | e
      · exact e
      · rcases arB.last n3 u (by rw [n1]; exact hu) x hx with e' | e'
        · exact e'
        · exact (lx_irr (lx_trans e e')).elim
    have e1 := one a1 (inB p1)
    have e2 := one c1 (inB p2)
    rw [e1] at p3
    rw [e2] at p4
    omega
  · have n2 : (hull B).length = 2 := by omega
    rw [n2] at hv
    have x1 := all 0 u v posB hu (by rw [n2]; exact hv)
    have x2 := all 1 v u (by omega) hv (by rw [n2]; exact hu)
    have e := ori_swap u v q
    have y1 := x1.2 (by omega)
    have y2 := x2.2 (by omega)
    have nd := arB.nodup
    have ne : u ≠ v := cyc_ne nd hu hv (by decide)
    exact ne (Prod.ext (by omega) (by omega))
theorem dl_mem {zs : List GP} {a b : GP} : (a, b) ∈ dl zs ↔ (zs.length = 1 ∧ zs[0]? = some a ∧ a = b) ∨ ∃ i : Nat, zs[i]? = some a ∧ zs[i + 1]? = some b := by
  unfold dl
  by_cases h : zs.length = 1
  · obtain ⟨x, rfl⟩ := List.length_eq_one_iff.mp h
    rw [if_pos h]
    constructor
    · intro m
      have m : (a, b) ∈ [(x, x)] := m
      cases List.mem_singleton.mp m
      exact .inl ⟨rfl, rfl, rfl⟩
    · rintro (⟨_, e, rfl⟩ | ⟨i, e1, e2⟩)
      · cases e
        exact .head _
      · simp at e2
  · rw [if_neg h]
    constructor
    · intro m
      obtain ⟨i, hi⟩ := List.mem_iff_getElem?.mp m
      rw [List.getElem?_zip_eq_some, List.getElem?_tail] at hi
      exact .inr ⟨i, hi⟩
    · rintro (⟨n, _⟩ | ⟨i, e1, e2⟩)
      · exact absurd n h
      · refine List.mem_iff_getElem?.mpr ⟨i, ?_⟩
        rw [List.getElem?_zip_eq_some, List.getElem?_tail]
        exact ⟨e1, e2⟩
/-- a point that one of the lines covers -/
def Cov (ps zs : List GP) (q : GP) : Prop := ∃ (a b : GP) (us : List GP), (a, b) ∈ dl zs ∧ Set (ps.map (add a) ++ ps.map (add b)) us ∧ Inside (hull us) q
theorem cov_of {ps zs : List GP} {hs : List (List GP)} {q : GP} (hl : hs.length = (dl zs).length) (sets : ∀ (i : Nat) (a b : GP), (dl zs)[i]? = some (a, b) → ∃ us, hs[i]? = some (hull us) ∧ Set (ps.map (add a) ++ ps.map (add b)) us) : (∃ h ∈ hs, Inside h q) ↔ Cov ps zs q := by
  constructor
  · rintro ⟨h, hm, ins⟩
    obtain ⟨i, hi⟩ := List.mem_iff_getElem?.mp hm
    have il := (List.getElem?_eq_some_iff.mp hi).1
    obtain ⟨ab, hab⟩ : ∃ x, (dl zs)[i]? = some x := ⟨_, List.getElem?_eq_getElem (by omega)⟩
    obtain ⟨us, h1, h2⟩ := sets i ab.1 ab.2 hab
    rw [hi] at h1
    cases h1
    exact ⟨_, _, us, List.mem_of_getElem? hab, h2, ins⟩
  · rintro ⟨a, b, us, m, hset, ins⟩
    obtain ⟨i, hi⟩ := List.mem_iff_getElem?.mp m
    obtain ⟨us2, h1, h2⟩ := sets i a b hi
    rw [up_one hset.up h2.up fun x => (hset.mem x).trans (h2.mem x).symm] at ins
    exact ⟨_, List.mem_of_getElem? h1, ins⟩
theorem cov_hull {ps U zs : List GP} {q : GP} (hne : ps ≠ []) (hU : Set ps U) : Cov (hull U) zs q ↔ Cov ps zs q := by
  constructor
  · rintro ⟨a, b, us2, m, h2, ins⟩
    obtain ⟨us, h⟩ := set_ex (ps.map (add a) ++ ps.map (add b))
    rw [hull_sums hne hU h2 h] at ins
    exact ⟨a, b, us, m, h, ins⟩
  · rintro ⟨a, b, us, m, h, ins⟩
    obtain ⟨us2, h2⟩ := set_ex ((hull U).map (add a) ++ (hull U).map (add b))
    rw [← hull_sums hne hU h2 h] at ins
    exact ⟨a, b, us2, m, h2, ins⟩
theorem set_swap {ps us : List GP} {a b : GP} (h : Set (ps.map (add a) ++ ps.map (add b)) us) : Set (ps.map (add b) ++ ps.map (add a)) us := ⟨h.up, fun q => (h.mem q).trans (by rw [List.mem_append, List.mem_append]; exact Or.comm)⟩
theorem dl_rev {zs : List GP} {a b : GP} (h : (a, b) ∈ dl zs.reverse) : (b, a) ∈ dl zs := by
  rcases dl_mem.mp h with ⟨n, e, rfl⟩ | ⟨i, e1, e2⟩
  · rw [List.length_reverse] at n
    obtain ⟨x, rfl⟩ := List.length_eq_one_iff.mp n
    cases e
    exact .head _
  · have l2 := (List.getElem?_eq_some_iff.mp e2).1
    rw [List.length_reverse] at l2
    rw [List.getElem?_reverse (by omega)] at e1 e2
    refine dl_mem.mpr (.inr ⟨zs.length - 1 - (i + 1), e2, ?_⟩)
    rw [show zs.length - 1 - (i + 1) + 1 = zs.length - 1 - i by omega]
    exact e1
theorem cov_rev {ps zs : List GP} {q : GP} : Cov ps zs.reverse q ↔ Cov ps zs q := by
  constructor
  · rintro ⟨a, b, us, m, h, ins⟩
    exact ⟨b, a, us, dl_rev m, set_swap h, ins⟩
  · rintro ⟨a, b, us, m, h, ins⟩
    refine ⟨b, a, us, dl_rev (zs := zs.reverse) ?_, set_swap h, ins⟩
    rw [List.reverse_reverse]
    exact m
/-- one grid point twice in turn -/
theorem cov_dup {ps zs : List GP} {q : GP} {k : Nat} (hne : ps ≠ []) (hk : k < zs.length) : Cov ps (zs.take (k + 1) ++ zs.drop k) q ↔ Cov ps zs q := by
  have ln : (zs.take (k + 1) ++ zs.drop k).length = zs.length + 1 := by rw [List.length_append, List.length_take, List.length_drop]; omega
  have at1 : ∀ i, i ≤ k → (zs.take (k + 1) ++ zs.drop k)[i]? = zs[i]? := fun i hi => by
    rw [List.getElem?_append_left (by rw [List.length_take]; omega), List.getElem?_take_of_lt (by omega)]
  have at2 : ∀ i, k ≤ i → (zs.take (k + 1) ++ zs.drop k)[i + 1]? = zs[i]? := fun i hi => by
    rw [List.getElem?_append_right (by rw [List.length_take]; omega), List.length_take, List.getElem?_drop, show k + (i + 1 - min (k + 1) zs.length) = i by omega]
  constructor
  · rintro ⟨a, b, us, m, h, ins⟩
    rcases dl_mem.mp m with ⟨n, _⟩ | ⟨i, e1, e2⟩
    · omega
    · rcases Nat.lt_trichotomy i k with c | c | c
      · rw [at1 i (by omega)] at e1
        rw [at1 (i + 1) (by omega)] at e2
        exact ⟨a, b, us, dl_mem.mpr (.inr ⟨i, e1, e2⟩), h, ins⟩
      · subst c
        rw [at1 i (by omega)] at e1
        rw [at2 i (by omega), e1] at e2
        cases e2
        by_cases n1 : zs.length = 1
        · refine ⟨a, a, us, dl_mem.mpr (.inl ⟨n1, ?_, rfl⟩), h, ins⟩
          rw [show i = 0 by omega] at e1
          exact e1
        · -- a line from or to this grid point covers it
          have big : ∀ x y, (x, y) ∈ dl zs → (x = a ∨ y = a) → Cov ps zs q := fun x y hm hxy => by
            obtain ⟨vs, hv⟩ := set_ex (ps.map (add x) ++ ps.map (add y))
            refine ⟨x, y, vs, hm, hv, Inside.mono h.up (set_ne hne h) hv.up (fun z hz => ?_) ins⟩
            have hz := (h.mem z).mp hz
            have hz : z ∈ ps.map (add a) := by
              rcases List.mem_append.mp hz with e | e <;> exact e
            refine (hv.mem z).mpr (List.mem_append.mpr ?_)
            rcases hxy with rfl | rfl
            · exact .inl hz
            · exact .inr hz
          by_cases c : i + 1 < zs.length
          · exact big a zs[i + 1] (dl_mem.mpr (.inr ⟨i, e1, List.getElem?_eq_getElem c⟩)) (.inl rfl)
          · refine big zs[i - 1] a (dl_mem.mpr (.inr ⟨i - 1, List.getElem?_eq_getElem (by omega), ?_⟩)) (.inr rfl)
            rw [show i - 1 + 1 = i by omega]
            exact e1
      · obtain ⟨j, rfl⟩ : ∃ j, i = j + 1 := ⟨i - 1, by omega⟩
        rw [at2 j (by omega)] at e1
        rw [at2 (j + 1) (by omega)] at e2
        exact ⟨a, b, us, dl_mem.mpr (.inr ⟨j, e1, e2⟩), h, ins⟩
  · rintro ⟨a, b, us, m, h, ins⟩
    rcases dl_mem.mp m with ⟨n, e, rfl⟩ | ⟨i, e1, e2⟩
    · refine ⟨a, a, us, dl_mem.mpr (.inr ⟨0, ?_, ?_⟩), h, ins⟩
      · rw [at1 0 (by omega)]
        exact e
      · rw [show 0 = k by omega, at2 k (by omega), show k = 0 by omega]
        exact e
    · rcases Nat.lt_or_ge i k with c | c
      · exact ⟨a, b, us, dl_mem.mpr (.inr ⟨i, by rw [at1 i (by omega)]; exact e1, by rw [at1 (i + 1) (by omega)]; exact e2⟩), h, ins⟩
      · exact ⟨a, b, us, dl_mem.mpr (.inr ⟨i + 1, by rw [at2 i c]; exact e1, by rw [at2 (i + 1) (by omega)]; exact e2⟩), h, ins⟩
theorem ori_mv (t a b q : GP) : ori (add t a) (add t b) (add t q) = ori a b q := by
  unfold ori add
  grind
theorem add_inj {t a b : GP} (h : add t a = add t b) : a = b := by
  unfold add at h
  have h1 := congrArg Prod.fst h
  have h2 := congrArg Prod.snd h
  exact Prod.ext (by simpa using h1) (by simpa using h2)
theorem Around.moved {us h : List GP} (t : GP) (ar : Around us h) : Around (us.map (add t)) (h.map (add t)) := by
  have g : ∀ {i : Nat} {x : GP}, (h.map (add t))[i]? = some x → ∃ y, h[i]? = some y ∧ x = add t y := fun {i x} e => by
    rw [List.getElem?_map] at e
    cases e' : h[i]? with
    | none => rw [e'] at e; cases e
    | some y =>
      rw [e'] at e
      cases e
      exact ⟨y, rfl, rfl⟩
  refine ⟨fun e => ar.ne (List.map_eq_nil_iff.mp e), List.Pairwise.map _ (fun a b n e => n (add_inj e)) ar.nodup, fun x hx => ?_, fun a ha q hq => ?_, fun n a ha q hq => ?_, fun k a b c n hk ha hb hc => ?_, fun k a b hk ha hb q hq => ?_⟩
  · obtain ⟨y, hy, rfl⟩ := List.mem_map.mp hx
    exact List.mem_map.mpr ⟨y, ar.sub y hy, rfl⟩
  · obtain ⟨y, hy, rfl⟩ := List.mem_map.mp hq
    obtain ⟨a', ha', rfl⟩ := g ha
    rcases ar.first a' ha' y hy with e | e
    · exact .inl (by rw [e])
    · exact .inr (lx_add e)
  · rw [List.length_map] at n ha
    obtain ⟨y, hy, rfl⟩ := List.mem_map.mp hq
    obtain ⟨a', ha', rfl⟩ := g ha
    rcases ar.last n a' ha' y hy with e | e
    · exact .inl (by rw [e])
    · exact .inr (lx_add e)
  · rw [List.length_map] at n hk hb hc
    obtain ⟨a', ha', rfl⟩ := g ha
    obtain ⟨b', hb', rfl⟩ := g hb
    obtain ⟨c', hc', rfl⟩ := g hc
    rw [ori_mv]
    exact ar.turn k a' b' c' n hk ha' hb' hc'
  · rw [List.length_map] at hk hb
    obtain ⟨y, hy, rfl⟩ := List.mem_map.mp hq
    obtain ⟨a', ha', rfl⟩ := g ha
    obtain ⟨b', hb', rfl⟩ := g hb
    rw [ori_mv]
    exact ar.edge k a' b' hk ha' hb' y hy
theorem inside_moved {h : List GP} {q : GP} (t : GP) (ins : Inside h q) : Inside (h.map (add t)) (add t q) := by
  refine ⟨by rw [List.length_map]; exact ins.1, fun k a b hk ha hb => ?_⟩
  rw [List.length_map] at hk hb
  rw [List.getElem?_map] at ha hb
  obtain ⟨a', ha', e⟩ := Option.map_eq_some_iff.mp ha
  obtain ⟨b', hb', e'⟩ := Option.map_eq_some_iff.mp hb
  have := ins.2 k a' b' hk ha' hb'
  rw [← e, ← e', ori_mv]
  refine ⟨this.1, fun z => ?_⟩
  have := this.2 z
  unfold add
  simp only []
  omega
theorem dl_map {zs : List GP} {a b t : GP} (h : (a, b) ∈ dl zs) : (add t a, add t b) ∈ dl (zs.map (add t)) := by
  rcases dl_mem.mp h with ⟨n, e, rfl⟩ | ⟨i, e1, e2⟩
  · exact dl_mem.mpr (.inl ⟨by rw [List.length_map]; exact n, by rw [List.getElem?_map, e]; rfl, rfl⟩)
  · exact dl_mem.mpr (.inr ⟨i, by rw [List.getElem?_map, e1]; rfl, by rw [List.getElem?_map, e2]; rfl⟩)
theorem cov_move1 {ps zs : List GP} {q : GP} (t : GP) (hne : ps ≠ []) (c : Cov ps zs q) : Cov ps (zs.map (add t)) (add t q) := by
  obtain ⟨a, b, us, m, h, ins⟩ := c
  obtain ⟨vs, hv⟩ := set_ex (ps.map (add (add t a)) ++ ps.map (add (add t b)))
  have e : (ps.map (add (add t a)) ++ ps.map (add (add t b))) = (ps.map (add a) ++ ps.map (add b)).map (add t) := by
    rw [List.map_append, List.map_map, List.map_map]
    have f : ∀ c, add (add t c) = add t ∘ add c := fun c => funext fun x => by
      unfold add
      show (_, _) = (_, _)
      simp only [Prod.mk.injEq]
      omega
    rw [f, f]
  have ar := ((hull_around h.up (set_ne hne h)).mem h.mem).moved t
  have ar2 := (hull_around hv.up (set_ne hne hv)).mem hv.mem
  rw [e] at ar2
  refine ⟨_, _, vs, dl_map m, hv, ?_⟩
  rw [← around_one ar ar2]
  exact inside_moved t ins
theorem add_back (t q : GP) : add (-t.1, -t.2) (add t q) = q := by
  unfold add
  exact Prod.ext (by show -t.1 + (t.1 + q.1) = q.1; omega) (by show -t.2 + (t.2 + q.2) = q.2; omega)
theorem cov_move {ps zs : List GP} {q : GP} (t : GP) (hne : ps ≠ []) : Cov ps (zs.map (add t)) (add t q) ↔ Cov ps zs q := by
  refine ⟨fun c => ?_, cov_move1 t hne⟩
  have := cov_move1 (-t.1, -t.2) hne c
  rw [List.map_map, add_back, show add (-t.1, -t.2) ∘ add t = id from funext (add_back t), List.map_id] at this
  exact this
/-- two tables of what is covered -/
theorem cov_eq {f g : Nat → Nat → Int} {C D : GP → Prop} (hf : ∀ r c : Nat, r < 48 → c < 48 → (C (Xc (c : Int), Yr (r : Int)) → f r c = 1) ∧ (¬ C (Xc (c : Int), Yr (r : Int)) → f r c = 0)) (hg : ∀ r c : Nat, r < 48 → c < 48 → (D (Xc (c : Int), Yr (r : Int)) → g r c = 1) ∧ (¬ D (Xc (c : Int), Yr (r : Int)) → g r c = 0))
    {r c r' c' : Nat} (hr : r < 48) (hc : c < 48) (hr' : r' < 48) (hc' : c' < 48) (e : C (Xc (c' : Int), Yr (r' : Int)) ↔ D (Xc (c : Int), Yr (r : Int))) : f r' c' = g r c := by
  obtain ⟨f1, f2⟩ := hf r' c' hr' hc'
  obtain ⟨g1, g2⟩ := hg r c hr hc
  by_cases h : D (Xc (c : Int), Yr (r : Int))
  · rw [f1 (e.mpr h), g1 h]
  · rw [f2 (fun z => h (e.mp z)), g2 h]
def sp__law_drawn : Sp := fun vs H Q _ => ∃ (p : Addr) (H0 : Hp), vs = [.ref p] ∧ Sd H0 H p ∧
  ∀ t P S pb sb g H', Sd H0 H' p → Kp p H H' → H' t = some (.tup [.ref P, .ref S]) → RdRows H' P pb g → RdRows H' S sb g → Few g → Q (.ref t) H'
section
theorem ok__law_drawn {P : Program} {w : World} {K : PySem.W.Frag} {mg : Str → Option Value} {base : Heap} {A : Nat → Addr} {D : Nat → FuncData} (T : Txt K mg A D) : FnOk P w K mg base (L2.CX P w) 6 (A 50) (D 50) ["stream"] (sp__law_drawn) := by
  refine T.F__law_drawn.okX sc__law_drawn (fun vs H Q E h => ?_) (fun cdv A' outer s H vs Q E hr h => ?_)
  · obtain ⟨p, H0, rfl, _⟩ := h
    rfl
  obtain ⟨p, H0, rfl, S, q⟩ := h
  refine ⟨_, (pss_cons (ps_set (i := 1) sc__law_drawn.nd rfl (.inl rfl) (pe_lst pa_nil))
  (pss_cons (ps_for (passes_of rfl) rfl (pi_range1 (by rfl) T.z_range (pa_cons (pe_op op_add (pe_call (ok__law_draw T) (hr.mono (by decide)) (by rfl) T.m__law_draw T.F__law_draw.kp T.b__law_draw .nil (passes_call (takes_of rfl rfl rfl rfl) (fun _ _ _ _ h => h)) (pa_cons (pv 0) (pa_cons pe_int pa_nil))) pe_int) pa_nil)) (pg_name (i := 2) sc__law_drawn.nd rfl (.inl rfl))
  (pss_one (ps_expr (pe_bm PySem.F.plainAttrs_list PySem.F.slot_list_append PySem.F.type_list_append mt_append (pv 1) (pa_cons (pe_tup (pa_cons (pe_op op_sub (pe_op op_mul pe_int (pe_call (ok__law_draw T) (hr.mono (by decide)) (by rfl) T.m__law_draw T.F__law_draw.kp T.b__law_draw .nil (passes_call (takes_of rfl rfl rfl rfl) (fun _ _ _ _ h => h)) (pa_cons (pv 0) (pa_cons pe_int pa_nil)))) pe_int) (pa_cons (pe_op op_sub (pe_op op_mul pe_int (pe_call (ok__law_draw T) (hr.mono (by decide)) (by rfl) T.m__law_draw T.F__law_draw.kp T.b__law_draw .nil (passes_call (takes_of rfl rfl rfl rfl) (fun _ _ _ _ h => h)) (pa_cons (pv 0) (pa_cons pe_int pa_nil)))) pe_int) pa_nil))) pa_nil)))))
  (pss_cons (ps_set (i := 3) sc__law_drawn.nd rfl (.inr rfl) (pe_call (ok__law_draw T) (hr.mono (by decide)) (by rfl) T.m__law_draw T.F__law_draw.kp T.b__law_draw .nil (passes_call (takes_of rfl rfl rfl rfl) (fun _ _ _ _ h => h)) (pa_cons (pv 0) (pa_cons pe_int pa_nil))))
  (pss_cons (ps_setLc (i := 4) (own := [("k", 2)]) (g := gName 2) (tt := tYes) rfl sc__law_drawn.nd rfl rfl (sw_true rfl rfl rfl (by decide +kernel)) (pi_range1 (by rfl) T.z_range (pa_cons (pe_op op_add (pe_call (ok__law_draw T) (hr.mono (by decide)) (by rfl) T.m__law_draw T.F__law_draw.kp T.b__law_draw .nil (passes_call (takes_of rfl rfl rfl rfl) (fun _ _ _ _ h => h)) (pa_cons (pv 0) (pa_cons pe_int pa_nil))) pe_int) pa_nil)) (blkOk_by (N := ["stream", "points", "k", "mode", "outline", "ends", "expected"]) (sc := defScope s__law_drawn) (by decide +kernel)) (fun _ _ _ _ _ => pg_name (i := 2) sc__law_drawn.nd rfl (Or.inl rfl)) (fun _ _ _ _ _ => pts_nil) (fun _ _ _ _ _ => (pe_call (ok__law_place T) (hr.mono (by decide)) (by rfl) T.m__law_place T.F__law_place.kp T.b__law_place .nil passL (pa_cons (pv 0) (pa_cons (pv 3) pa_nil)))))
  (pss_cons (ps_set (i := 5) sc__law_drawn.nd rfl (.inl rfl) (pe_slice sl_list (pv 4) (po_some pe_int) po_none))
  (Evl.pss_cut (ps_if (pt_cmpR op_eq (pe_callB Z.c_len (by rfl) T.z_len (by decide +kernel) (pa_cons (pv 5) pa_nil)) pe_int (nomark _))
  (pss_one (ps_set (i := 5) sc__law_drawn.nd rfl (.inl rfl) (pe_slice sl_list (pv 4) po_none (po_some pe_int))))
  pss_nil)
  (pss_cons (ps_set (i := 6) sc__law_drawn.nd rfl (.inl rfl) (pe_call0 (ok__law_blank T) (hr.mono (by decide)) (by rfl) T.m__law_blank T.F__law_blank.kp T.b__law_blank .nil (passes_call (takes_of rfl rfl rfl rfl) (fun _ _ _ _ h => h))))
  (pss_cons (ps_for (passes_of rfl) rfl (pi_range1 (by rfl) T.z_range (pa_cons (pe_callB Z.c_len (by rfl) T.z_len (by decide +kernel) (pa_cons (pv 5) pa_nil)) pa_nil)) (pg_name (i := 2) sc__law_drawn.nd rfl (.inl rfl))
  (pss_one (ps_expr (pe_call (ok__law_mark T) (hr.mono (by decide)) (by rfl) T.m__law_mark T.F__law_mark.kp T.b__law_mark .nil (passes_call (takes_of rfl rfl rfl rfl) (fun _ _ _ _ h => h)) (pa_cons (pv 6) (pa_cons (pe_call (ok__law_corners T) (hr.mono (by decide)) (by rfl) T.m__law_corners T.F__law_corners.kp T.b__law_corners .nil (passes_call (takes_of rfl rfl rfl rfl) (fun _ _ _ _ h => h)) (pa_cons (pe_call (ok__law_sums T) (hr.mono (by decide)) (by rfl) T.m__law_sums T.F__law_sums.kp T.b__law_sums .nil (passes_call (takes_of rfl rfl rfl rfl) (fun _ _ _ _ h => h)) (pa_cons (pv 1) (pa_cons (pe_ix ix_list (pv 4) (pv 2) (fun _ _ => rfl)) (pa_cons (pe_ix ix_list (pv 5) (pv 2) (fun _ _ => rfl)) pa_nil)))) pa_nil)) pa_nil))))))
  (pss_one (ps_ret (pe_tup (pa_cons (pe_call (ok_cover_rows T) (hr.mono (by decide)) (by rfl) T.m_cover_rows T.F_cover_rows.kp T.b_cover_rows .nil (passes_call (takes_of rfl rfl rfl rfl) (fun _ _ _ _ h => h)) (pa_cons (pe_call (ok_corners T) (hr.mono (by decide)) (by rfl) T.m_corners T.F_corners.kp T.b_corners .nil (passes_call (takes_of rfl rfl rfl rfl) (fun _ _ _ _ h => h)) (pa_cons (pv 1) pa_nil)) (pa_cons (pv 4) pa_nil))) (pa_cons (pv 6) pa_nil))))))))))))), ?_⟩
  walk_at "z"
  intro pp H1 f1 s1 h1
  walk_at "z"
  have S1 := S.mono s1
  have npp := S.ne0 f1
  refine Z.z_forRE ?_
  walk_at "z"
  refine nx S1 (by decide) (lt1000 (by decide)) fun n H2 n0 n1 S2 e2 => ?_
  walk_at "z"
  obtain ⟨m, hm⟩ : ∃ m : Nat, n + 1 = (m : Int) := ⟨(n + 1).toNat, by omega⟩
  rw [hm]
  refine Z.z_forRr m (by omega) (fun i σ' H' => Sd H0 H' p ∧ Kp p H H' ∧ ∃ (ws : List V) (ps : List GP) (u2 : Option V), σ' = [some (.ref p), some (.ref pp), u2, none, none, none, none] ∧ H' pp = some (.lst ws) ∧ Gs K H' ws ps ∧ ps.length = i ∧ ∀ z ∈ ps, Bq z) ⟨S2, (kp_of s1).trans' (kp_eq e2), [], [], _, rfl, (e2 pp npp).trans h1, trivial, rfl, fun z hz => nomatch hz⟩ ?_ ?_
  · rintro i σ' H6 hi ⟨S6, k6, ws, ps, u2, rfl, h6, g6, lz, hb⟩
    have lw := g6.len
    walk_at "z"
    refine z_bmL (fun R q => by walk_at "z"; exact q) h6 ?_
    walk_at "z"
    refine nx S6 (by decide) (lt1000 (by decide)) fun x H7 x0 x1 S7 e7 => ?_
    walk_at "z"
    refine nx S7 (by decide) (lt1000 (by decide)) fun y H8 y0 y1 S8 e8 => ?_
    walk_at "z"
    intro t H9 f9 s9 h9
    walk_at "z"
    have kk : Kp p H6 H9 := ((kp_eq e7).trans' (kp_eq e8)).trans' (kp_of s9)
    have h9p := kk pp _ npp h6
    refine z_append h9p (by omega) ?_
    walk_at "z"
    obtain ⟨_, _, _, st6⟩ := S6.stm
    have g9 : Gs K H9 (ws ++ [.ref t]) (ps ++ [(16 * x - 96, 16 * y - 96)]) := (Gs.kp kk st6 g6).app (gs_one (dp_mkg h9))
    refine ⟨(S8.mono s9).put (S.none0 f1) npp, kp_put (k6.trans' kk) f1, _, _, _, rfl, upd_same, g9.kp (fun b o hb' e => by rw [upd_ne hb']; exact e) h9p, by simp [lz], fun z hz => ?_⟩
    rcases List.mem_append.mp hz with h | h
    · exact hb z h
    · rw [List.mem_singleton.mp h]
      exact ⟨show (16 * x - 96).natAbs ≤ 1000 by omega, show (16 * y - 96).natAbs ≤ 1000 by omega⟩
  rintro σ' H6 ⟨S6, k6, wp, ps, u2, rfl, hpp6, gp6, lp, bp⟩
  walk_at "z"
  refine nx S6 (by decide) (lt1000 (by decide)) fun mo H7 _ _ S7 e7 => ?_
  walk_at "z"
  refine z_lcRE ?_
  walk_at "z"
  refine nx S7 (by decide) (lt1000 (by decide)) fun n2 H8 n20 n21 S8 e8 => ?_
  walk_at "z"
  obtain ⟨m2, hm2⟩ : ∃ m : Nat, n2 + 1 = (m : Int) := ⟨(n2 + 1).toNat, by omega⟩
  refine z_places (K := K) (mo := mo) S8 hm2 (by omega) (fun _ => rfl) (fun i H' R h => ?_) fun o HA ws zs fo no SA kA ho g lz hb => ?_
  · walk_at "z"
    exact h E
  obtain ⟨_, _, _, st6⟩ := S6.stm
  have k6A : Kp p H6 HA := ((kp_eq e7).trans' (kp_eq e8)).trans' kA
  have hpp := k6A pp _ npp hpp6
  have gp := Gs.kp k6A st6 gp6
  have kHA := k6.trans' k6A
  have lws := g.len
  have lwp := gp.len
  clear S8 S7 e7 e8 kA fo k6 S6 hpp6 gp6 st6 k6A S2 S1 e2 h1 s1
  have bz : ∀ z ∈ zs, Br z := fun z hz => (hb z hz).le (by decide)
  have hne : ps ≠ [] := fun e => by rw [e] at lp; simp at lp; omega
  walk_at "z"
  refine ⟨_, rfl, ?_⟩
  walk_at "z"
  refine z_slL (.inl (.inl ho)) (cut_from (k := 1) (by omega)) fun e1 HB fB sB hB => ?_
  walk_at "z"
  refine z_cut (fun σ' H' => Same HB H' ∧ ∃ (e : Addr) (u2 : Option V) (vs : List V) (es : List GP), σ' = [some (.ref p), some (.ref pp), u2, some (.int mo), some (.ref o), some (.ref e), none] ∧ H' e = some (.lst vs) ∧ Gs K H' vs es ∧ es.length = (dl zs).length ∧ ∀ (i : Nat) (a b : GP), (dl zs)[i]? = some (a, b) ↔ (i < es.length ∧ zs[i]? = some a ∧ es[i]? = some b)) ?_ ?_
  · walk_at "z"
    refine z_if (fun k => ?_) (fun k => ?_)
    · rw [List.length_drop] at k
      have n1 : zs.length = 1 := by omega
      walk_at "z"
      refine ⟨_, rfl, ?_⟩
      walk_at "z"
      refine z_slL (.inl (.inl (sB _ _ ho))) (cut_to (k := 1) (by omega)) fun e2 HC fC sC hC => ?_
      walk_at "z"
      have ez : zs.take 1 = zs := List.take_of_length_le (by omega)
      refine ⟨sC, e2, _, ws.take 1, zs.take 1, rfl, hC, ((g.mono sB).mono sC).take 1, ?_, fun i a b => ?_⟩
      · rw [ez]
        unfold dl
        rw [if_pos n1, List.length_map]
      · rw [ez]
        unfold dl
        rw [if_pos n1, List.getElem?_map]
        constructor
        · intro e
          obtain ⟨x, hx, e⟩ := Option.map_eq_some_iff.mp e
          cases e
          exact ⟨(List.getElem?_eq_some_iff.mp hx).1, hx, hx⟩
        · rintro ⟨_, e1, e2⟩
          rw [e1] at e2
          cases e2
          rw [e1]
          rfl
    · rw [List.length_drop] at k
      walk_at "z"
      have n1 : zs.length ≠ 1 := by omega
      refine ⟨Same.refl _, e1, _, ws.drop 1, zs.drop 1, rfl, hB, (g.mono sB).drop 1, ?_, fun i a b => ?_⟩
      · unfold dl
        rw [if_neg n1, List.length_zip, List.length_tail, List.length_drop]
        omega
      · unfold dl
        rw [if_neg n1, List.getElem?_zip_eq_some, List.getElem?_tail, List.getElem?_drop, Nat.add_comm 1 i]
        constructor
        · rintro ⟨x1, x2⟩
          exact ⟨by rw [List.length_drop]; have := (List.getElem?_eq_some_iff.mp x2).1; omega, x1, x2⟩
        · rintro ⟨_, x1, x2⟩
          exact ⟨x1, x2⟩
  rintro σ' HC ⟨sC, e, u2', vs, es, rfl, he, ge, lse, hdl⟩
  have sAC := sB.trans sC
  have lvs := ge.len
  have les := dl_len zs
  have hppC := sAC _ _ hpp
  have gpC := gp.mono sAC
  have hoC := sAC _ _ ho
  have gC := g.mono sAC
  have SC := SA.mono sAC
  have kHC := kHA.trans' (kp_of sAC)
  clear hB hpp gp ho g SA kHA sB sC sAC fB
  walk_at "z"
  refine ⟨rfl, fun R HE asx sE ow => ?_⟩
  have heE := sE _ _ he
  walk_at "z"
  refine z_forR1 es.length (by omega) (fun R q => by
    walk_at "z"
    rw [lvs]
    exact q) (fun i σ' H' => ∃ (f' : Nat → Nat → Int) (hs : List (List GP)) (u2 : Option V), σ' = [some (.ref p), some (.ref pp), u2, some (.int mo), some (.ref o), some (.ref e), some (.ref R)] ∧ Same HC H' ∧ OwRows HC H' R asx f' ∧ hs.length = i ∧
    (∀ (k : Nat) (a b : GP), k < i → (dl zs)[k]? = some (a, b) → ∃ us, hs[k]? = some (hull us) ∧ Set (ps.map (add a) ++ ps.map (add b)) us) ∧
    ∀ r c : Nat, r < 48 → c < 48 → ((∃ h ∈ hs, Inside h (Xc (c : Int), Yr (r : Int))) → f' r c = 1) ∧ ((¬ ∃ h ∈ hs, Inside h (Xc (c : Int), Yr (r : Int))) → f' r c = 0))
    ⟨_, [], _, rfl, sE, ow, rfl, fun k a b hk => absurd hk (Nat.not_lt_zero _), fun r c _ _ => ⟨fun ⟨h, m, _⟩ => (by cases m), fun _ => rfl⟩⟩ ?_ ?_
  · clear heE ow sE
    rintro i σ' H4 hi ⟨f', hs, u2, rfl, s4, ow4, lh, sets, vals⟩
    obtain ⟨ab, hab⟩ : ∃ x, (dl zs)[i]? = some x := ⟨_, List.getElem?_eq_getElem (by omega)⟩
    obtain ⟨a, b⟩ := ab
    obtain ⟨_, ha, hb'⟩ := (hdl i a b).mp hab
    obtain ⟨va, hva, da⟩ := (gC.mono s4).get ha
    obtain ⟨vb, hvb, db⟩ := (ge.mono s4).get hb'
    obtain ⟨ba, bb⟩ := dl_br bz hab
    walk_at "z"
    refine z_ixL (.inl (.inl (s4 _ _ hoC))) (nat_idx hva) ?_
    walk_at "z"
    refine z_ixL (.inl (.inl (s4 _ _ he))) (nat_idx hvb) ?_
    walk_at "z"
    refine ⟨pp, _, _, wp, ps, a, b, rfl, s4 _ _ hppC, gpC.mono s4, da, db, by omega, fun sm H5 vsm f5 s5 hsm gsm => ?_⟩
    obtain ⟨us, hset⟩ := set_ex (ps.map (add a) ++ ps.map (add b))
    obtain ⟨gm1, gm2, lhu⟩ := sums_gm ba bb bp hne hset
    have hnu := set_ne hne hset
    refine ⟨sm, vsm, _, us, rfl, hsm, gsm, hset.up, hnu, hset.mem, gm1, by rw [List.length_append, List.length_map, List.length_map]; omega, fun hl H6 vh f6 s6 hhl ghl => ?_⟩
    have ow6 : OwRows HC H6 R asx f' := ⟨(ow4.1.mono s5).mono s6, ow4.2⟩
    have nhl : hl ∉ asx := fun m => by
      obtain ⟨k, hk⟩ := List.mem_iff_getElem?.mp m
      have := s5 _ _ (ow4.1.2.2 k hl hk)
      rw [f6] at this
      cases this
    refine ⟨R, hl, asx, f', HC, vh, us, rfl, ow6, (s4.trans s5).trans s6, nhl, hhl, ghl, hset.up, hnu, gm2, by omega, fun H7 f7 s7 ow7 mk => ?_⟩
    walk_at "z"
    refine ⟨f7, hs ++ [hull us], _, rfl, s7, ow7, by simp [lh], fun k a' b' hk hk' => ?_, fun r c hr hc => ?_⟩
    · rcases Nat.lt_or_ge k i with z | z
      · obtain ⟨us', hu', hs'⟩ := sets k a' b' z hk'
        exact ⟨us', by rw [List.getElem?_append_left (by omega)]; exact hu', hs'⟩
      · have : k = i := by omega
        subst this
        rw [hab] at hk'
        cases hk'
        exact ⟨us, by rw [List.getElem?_append_right (by omega), lh, Nat.sub_self]; rfl, hset⟩
    · obtain ⟨v1, v2⟩ := vals r c hr hc
      obtain ⟨m1, m2⟩ := mk r c hr hc
      by_cases old : ∃ h ∈ hs, Inside h (Xc (c : Int), Yr (r : Int))
      · refine ⟨fun _ => ?_, fun no => ?_⟩
        · rw [m2 (fun z => by rw [v1 old] at z; exact absurd z.1 (by decide)), v1 old]
        · obtain ⟨h, hm, hi⟩ := old
          exact absurd ⟨h, List.mem_append.mpr (.inl hm), hi⟩ no
      · refine ⟨fun ⟨h, hm, hi⟩ => ?_, fun no => ?_⟩
        · rcases List.mem_append.mp hm with z | z
          · exact absurd ⟨h, z, hi⟩ old
          · rw [List.mem_singleton.mp z] at hi
            exact m1 ⟨v2 old, hi⟩
        · rw [m2 (fun z => no ⟨_, List.mem_append.mpr (.inr (.head _)), z.2⟩), v2 old]
  · clear heE ow sE
    rintro σ' H4 ⟨f', hs, u2, rfl, s4, ow4, lh, sets, vals⟩
    have cvl : ∀ r c : Nat, r < 48 → c < 48 → (Cov ps zs (Xc (c : Int), Yr (r : Int)) → f' r c = 1) ∧ (¬ Cov ps zs (Xc (c : Int), Yr (r : Int)) → f' r c = 0) := fun r c hr hc => by
      have cv := cov_of (q := (Xc (c : Int), Yr (r : Int))) (lh.trans lse) (fun i a b e => sets i a b (by have := (List.getElem?_eq_some_iff.mp e).1; omega) e)
      obtain ⟨v1, v2⟩ := vals r c hr hc
      exact ⟨fun h => v1 (cv.mpr h), fun h => v2 fun h' => h (cv.mp h')⟩
    walk_at "z"
    refine ⟨pp, wp, ps, ps, rfl, s4 _ _ hppC, gpC.mono s4, fun z hz => (bp z hz).le (by decide), hne, by omega, fun z hz => hz, fun pf H8 vf U f8 s8 h8 g8 hU lu => ?_⟩
    have neU : U ≠ [] := fun e => by
      cases ps with
      | nil => exact hne rfl
      | cons z0 zs =>
        have := (hU.mem z0).mpr (.head _)
        rw [e] at this
        cases this
    have arU := (hull_around hU.up neU).mem hU.mem
    have lhU : (hull U).length ≤ 12 := Nat.le_trans (Sc.nodup_len arU.nodup arU.sub) (by omega)
    have neh := hull_ne hU.up neU
    have bqU : ∀ z ∈ hull U, Bq z := fun z hz => bp z (arU.sub z hz)
    walk_at "z"
    refine ⟨pf, o, vf, ws, hull U, zs, rfl, h8, g8, s8 _ _ (s4 _ _ hoC), (gC.mono s4).mono s8, by omega, by omega, neh, by omega, bqU, bz, fun P H9 pb hs2 g2 f9 s9 rd9 lh2 sets2 vals2 => ?_⟩
    walk_at "z"
    intro t HF fF sF hF
    walk_at "z"
    have e12 : ∀ r c : Nat, r < 48 → c < 48 → f' r c = g2 r c := fun r c hr hc => by
      refine cov_eq (D := Cov ps zs) cvl (fun r c hr hc => ?_) hr hc hr hc Iff.rfl
      have e := (cov_of (q := (Xc (c : Int), Yr (r : Int))) lh2 sets2).trans (cov_hull hne hU)
      obtain ⟨v1, v2⟩ := vals2 r c hr hc
      exact ⟨fun h => v1 (e.mpr h), fun h => v2 fun h' => h (e.mp h')⟩
    refine q t P R pb asx g2 HF ((((SC.mono s4).mono s8).mono s9).mono sF) ((((kHC.trans' (kp_of s4)).trans' (kp_of s8)).trans' (kp_of s9)).trans' (kp_of sF)) hF (rd9.mono sF) (((((ow4.1.congr e12).mono s8).mono s9).mono sF)) fun r c hr hc => ?_
    have := cvl r c hr hc
    show (g2 r c).natAbs ≤ 100
    rw [← e12 r c hr hc]
    by_cases w : Cov ps zs (Xc (c : Int), Yr (r : Int))
    · rw [this.1 w]
      decide
    · rw [this.2 w]
      decide
end
theorem rd_l {H : Hp} {R e : Addr} {as : List Addr} {f : Nat → Nat → Int} {l : List V} (rd : RdRows H R as f) (h : H e = some (.lst l)) (n : l.length ≠ 48) : R ≠ e ∧ e ∉ as :=
  ⟨fun z => by
    have := rd.1
    rw [z, h] at this
    cases this
    exact n (by rw [List.length_map, rd.2.1]), fun m => by
    obtain ⟨k, hk⟩ := List.mem_iff_getElem?.mp m
    have := rd.2.2 k e hk
    rw [h] at this
    have e2 : l = (mrow f k).map V.int := by
      injection this with this
      injection this
    exact n (by rw [e2, List.length_map, mrow_len])⟩
theorem pic_l {C z e : Addr} {H H' : Hp} {f : Nat → Nat → Int} {l : List V} (P : Pic C H z f) (h : H e = some (.lst l)) (n : l.length ≠ 48) (k : Kp e H H') : Pic C H' z f := by
  have nz : z ≠ e := fun w => P.nolst l (by rw [w]; exact h)
  obtain ⟨d, R, a, e0, rd⟩ := P
  exact ⟨d, R, a, k _ _ nz e0, rd.kp k (rd_l rd h n).1 (rd_l rd h n).2⟩
def Kq (X : List Addr) (H H' : Hp) : Prop := ∀ b o, b ∉ X → H b = some o → H' b = some o
theorem kq_of {X : List Addr} {H H' : Hp} (s : Same H H') : Kq X H H' := fun b o _ e => s b o e
theorem Kq.trans {X : List Addr} {H H1 H2 : Hp} (a : Kq X H H1) (b : Kq X H1 H2) : Kq X H H2 := fun c o n e => b c o n (a c o n e)
theorem kq_kp {X : List Addr} {p : Addr} {H H' : Hp} (k : Kp p H H') (m : p ∈ X) : Kq X H H' := fun b o n e => k b o (fun z => n (z ▸ m)) e
theorem kq_upd {X : List Addr} {p : Addr} {H : Hp} {o : HO} (m : p ∈ X) : Kq X H (upd H p o) := fun b o' n e => by
  have hb : b ≠ p := fun z => n (by rw [z]; exact m)
  rw [upd_ne hb]
  exact e
/-- two of a kind -/
def tw (x : Nat → Addr) : List V := [.ref (x 0), .ref (x 1)]
def put2 {α : Type} (x : Nat → α) (j : Nat) (y : α) : Nat → α := fun k => if k = j then y else x k
theorem tw_set {x : Nat → Addr} {y : Addr} {j : Nat} (h : j < 2) : (tw x).set j (.ref y) = tw (put2 x j y) := by
  match j, h with
  | 0, _ => rfl
  | 1, _ => rfl
theorem tw_at {x : Nat → Addr} {j : Nat} (h : j < 2) : atI (tw x) (j : Int) = some (.ref (x j)) := by
  match j, h with
  | 0, _ => rfl
  | 1, _ => rfl
theorem tw_ot {x : Nat → Addr} {j : Nat} (h : j < 2) : atI (tw x) (1 - (j : Int)) = some (.ref (x (1 - j))) := by
  match j, h with
  | 0, _ => rfl
  | 1, _ => rfl
theorem put2_at {α : Type} {x : Nat → α} {j : Nat} {y : α} : put2 x j y j = y := if_pos rfl
theorem put2_ne {α : Type} {x : Nat → α} {j k : Nat} {y : α} (h : k ≠ j) : put2 x j y k = x k := if_neg h
/-- two pictures and two tables of rows -/
structure PSt (C : Addr) (H : Hp) (PL ML : Addr) (x : Nat → Addr) (f : Nat → Nat → Nat → Int) (R : Nat → Addr) (as : Nat → List Addr) (g : Nat → Nat → Nat → Int) : Prop where
  pl : H PL = some (.lst (tw x))
  ml : H ML = some (.lst (tw R))
  pic : ∀ k, k < 2 → Pic C H (x k) (f k)
  rd : ∀ k, k < 2 → RdRows H (R k) (as k) (g k)
  inr : ∀ k, k < 2 → InR (f k)
  ne : x 0 ≠ x 1
section
variable {C : Addr} {H H' : Hp} {PL ML : Addr} {x R : Nat → Addr} {as : Nat → List Addr} {f g : Nat → Nat → Nat → Int}
theorem PSt.mono (P : PSt C H PL ML x f R as g) (s : Same H H') : PSt C H' PL ML x f R as g :=
  ⟨s _ _ P.pl, s _ _ P.ml, fun k h => (P.pic k h).mono s, fun k h => (P.rd k h).mono s, P.inr, P.ne⟩
theorem PSt.npm (P : PSt C H PL ML x f R as g) : PL ≠ ML := fun z => by
  have h1 := P.pl
  rw [z, P.ml] at h1
  have e : x 0 = R 0 := by
    injection h1 with h1
    injection h1 with h1
    injection h1 with h1 _
    injection h1 with h1
    exact h1.symm
  have h2 := (P.rd 0 (by decide)).1
  rw [← e] at h2
  exact (P.pic 0 (by decide)).nolst _ h2
theorem tw_len : (tw x).length ≠ 48 := show 2 ≠ 48 by decide
theorem PSt.nx (P : PSt C H PL ML x f R as g) {k : Nat} (h : k < 2) : x k ≠ PL ∧ x k ≠ ML := ⟨fun z => (P.pic k h).nolst _ (by rw [z]; exact P.pl), fun z => (P.pic k h).nolst _ (by rw [z]; exact P.ml)⟩
theorem PSt.ne2 (P : PSt C H PL ML x f R as g) {j k : Nat} (hj : j < 2) (hk : k < 2) (n : k ≠ j) : x k ≠ x j := by
  match j, k, hj, hk with
  | 0, 0, _, _ => exact absurd rfl n
  | 0, 1, _, _ => exact P.ne.symm
  | 1, 0, _, _ => exact P.ne
  | 1, 1, _, _ => exact absurd rfl n
/-- a draw -/
theorem PSt.kps {p : Addr} (P : PSt C H PL ML x f R as g) (st : IsStm H p) (k : Kp p H H') : PSt C H' PL ML x f R as g := by
  have n1 : ∀ {q : Addr} {y : Nat → Addr}, H q = some (.lst (tw y)) → q ≠ p := fun h z => by
    obtain ⟨_, _, _, e⟩ := st
    rw [z, e] at h
    cases h
  exact ⟨k _ _ (n1 P.pl) P.pl, k _ _ (n1 P.ml) P.ml, fun i h => pic_kpst (P.pic i h) st k (fun z => by
    obtain ⟨_, _, _, e⟩ := st
    exact (P.pic i h).nolst _ (by rw [z]; exact e)), fun i h => rd_kpst (P.rd i h) st k, P.inr, P.ne⟩
/-- a picture changed -/
theorem PSt.chg {j : Nat} {h : Nat → Nat → Int} (P : PSt C H PL ML x f R as g) (hj : j < 2) (k : Kp (x j) H H') (p : Pic C H' (x j) h) (ir : InR h) : PSt C H' PL ML x (put2 f j h) R as g := by
  have no := (P.pic j hj).nolst
  refine ⟨k _ _ (P.nx hj).1.symm P.pl, k _ _ (P.nx hj).2.symm P.ml, fun i hi => ?_, fun i hi => (P.rd i hi).kp k ((P.rd i hi).out no).1 ((P.rd i hi).out no).2, fun i hi => ?_, P.ne⟩
  · by_cases z : i = j
    · subst z
      rw [put2_at]
      exact p
    · rw [put2_ne z]
      exact (P.pic i hi).kp k (P.ne2 hj hi z) no
  · by_cases z : i = j
    · subst z
      rw [put2_at]
      exact ir
    · rw [put2_ne z]
      exact P.inr i hi
/-- another picture -/
theorem PSt.put {j : Nat} {y : Addr} {h : Nat → Nat → Int} (P : PSt C H PL ML x f R as g) (hj : j < 2) (p : Pic C H y h) (ir : InR h) (n : ∀ i, i < 2 → y ≠ x i) : PSt C (upd H PL (.lst (tw (put2 x j y)))) PL ML (put2 x j y) (put2 f j h) R as g := by
  have kk : Kp PL H (upd H PL (.lst (tw (put2 x j y)))) := fun b o hb e => by rw [upd_ne hb]; exact e
  refine ⟨upd_same, kk _ _ P.npm.symm P.ml, fun i hi => ?_, fun i hi => (P.rd i hi).kp kk (rd_l (P.rd i hi) P.pl tw_len).1 (rd_l (P.rd i hi) P.pl tw_len).2, fun i hi => ?_, ?_⟩
  · by_cases z : i = j
    · subst z
      rw [put2_at, put2_at]
      exact pic_l p P.pl tw_len kk
    · rw [put2_ne z, put2_ne z]
      exact pic_l (P.pic i hi) P.pl tw_len kk
  · by_cases z : i = j
    · subst z
      rw [put2_at]
      exact ir
    · rw [put2_ne z]
      exact P.inr i hi
  · match j, hj with
    | 0, _ => exact n 1 (by decide)
    | 1, _ => exact (n 0 (by decide)).symm
/-- other rows -/
theorem PSt.mod {j : Nat} {E : Addr} {es : List Addr} {h : Nat → Nat → Int} (P : PSt C H PL ML x f R as g) (hj : j < 2) (r : RdRows H E es h) : PSt C (upd H ML (.lst (tw (put2 R j E)))) PL ML x f (put2 R j E) (put2 as j es) (put2 g j h) := by
  have kk : Kp ML H (upd H ML (.lst (tw (put2 R j E)))) := fun b o hb e => by rw [upd_ne hb]; exact e
  refine ⟨kk _ _ P.npm P.pl, upd_same, fun i hi => pic_l (P.pic i hi) P.ml tw_len kk, fun i hi => ?_, P.inr, P.ne⟩
  by_cases z : i = j
  · subst z
    rw [put2_at, put2_at, put2_at]
    exact r.kp kk (rd_l r P.ml tw_len).1 (rd_l r P.ml tw_len).2
  · rw [put2_ne z, put2_ne z, put2_ne z]
    exact (P.rd i hi).kp kk (rd_l (P.rd i hi) P.ml tw_len).1 (rd_l (P.rd i hi) P.ml tw_len).2
end
def Nxt (C : Addr) (H H' : Hp) (PL ML : Addr) (x : Nat → Addr) : Prop := Kq [PL, ML, x 0, x 1] H H' ∧ ∃ x' f' R' as', PSt C H' PL ML x' f' R' as' f' ∧ ∀ k, k < 2 → x' k = x k ∨ H (x' k) = none
theorem in4 {PL ML : Addr} {x : Nat → Addr} : PL ∈ [PL, ML, x 0, x 1] ∧ ML ∈ [PL, ML, x 0, x 1] ∧ ∀ j, j < 2 → x j ∈ [PL, ML, x 0, x 1] := ⟨by simp, by simp, fun j h => by
  match j, h with
  | 0, _ => simp
  | 1, _ => simp⟩
theorem z_eqB {b : Bool} {H : Hp} {Q : VK} (q : Q (.bl true) H) : rEq (.bl b) (.bl b) H Q := ⟨rfl, by rw [decide_eq_true (rfl : V.bl b = V.bl b)]; exact q⟩
def sp__law_added (C : Addr) : Sp := fun vs H Q _ => ∃ (PL ML P S : Addr) (pb sb : List Addr) (h : Nat → Nat → Int) (k : Int) (j : Nat) (x R : Nat → Addr) (as : Nat → List Addr) (f : Nat → Nat → Nat → Int), vs = [.ref PL, .ref ML, .int (j : Int), .ref P, .ref S, .int k] ∧ j < 2 ∧
  PSt C H PL ML x f R as f ∧ RdRows H P pb h ∧ RdRows H S sb h ∧ k.natAbs < 2 ^ 200 ∧ BdR h ∧ ∀ H', Nxt C H H' PL ML x → Q (.bl true) H'
section
theorem ok__law_added {P : Program} {w : World} {K : PySem.W.Frag} {mg : Str → Option Value} {base : Heap} {A : Nat → Addr} {D : Nat → FuncData} (T : Txt K mg A D) : FnOk P w K mg base (L2.CX P w) 4 (A 52) (D 52) ["pictures", "models", "at", "passed", "due", "times"] (sp__law_added (A 2)) := by
  refine T.F__law_added.okX sc__law_added (fun vs H Q E h => ?_) (fun cdv A' outer s H vs Q E hr h => ?_)
  · obtain ⟨PL, ML, P, S, pb, sb, h, k, j, x, R, as, f, rfl, _⟩ := h
    rfl
  obtain ⟨PL, ML, P, S, pb, sb, h, k, j, x, R, as, f, rfl, hj, W, rdP, rdS, hk, bh, q⟩ := h
  refine ⟨_, (pss_cons (ps_set (i := 6) sc__law_added.nd rfl (.inl rfl) (pe_call (ok__law_sum T) (hr.mono (by decide)) (by rfl) T.m__law_sum T.F__law_sum.kp T.b__law_sum .nil (passes_call (takes_of rfl rfl rfl rfl) (fun _ _ _ _ h => h)) (pa_cons (pe_ix ix_list (pv 1) (pv 2) (fun _ _ => rfl)) (pa_cons (pv 4) (pa_cons (pv 5) pa_nil)))))
  (pss_cons (ps_set (i := 7) sc__law_added.nd rfl (.inl rfl) pe_bl)
  (pss_cons (ps_try_only (Wout := fun _ _ _ _ => False) rfl rfl ⟨rfl, by decide, .inl T.x_TooGreat.g⟩ takes0 (fun W pn xe tk PO => (pss_one (ps_expr (Cw.pe_methNS (by exact (pe_ix (show IxR _ (rIxL K) from ix_list) (pv 0) (pv 2) (fun _ _ => rfl))) T.q_Picture T.m_Picture_add_rows (ok_Picture_add_rows T) (hr.mono (by decide)) T.k_Picture_add_rows_factor (fun σ => passAt tk σ) (pa_cons (pv 3) pa_nil) (pk_cons (pv 5) pk_nil)))))
  (fun a oe cls d pn hz hf => (pss_one (ps_set (i := 7) sc__law_added.nd rfl (.inl rfl) pe_bl))))
  (pss_cons (ps_if (pt_val (pv 7))
  (pss_one (ps_asg (pv 6) (pg_sub (pv 1) (pv 2) set_list)))
  pss_nil)
  (pss_one (ps_ret (pe_cmpR op_eq (pv 7) (pe_call (ok__law_fits T) (hr.mono (by decide)) (by rfl) T.m__law_fits T.F__law_fits.kp T.b__law_fits .nil (passes_call (takes_of rfl rfl rfl rfl) (fun _ _ _ _ h => h)) (pa_cons (pv 6) pa_nil)) (nomark _)))))))), ?_⟩
  walk_at "z"
  refine z_ixL (.inl (.inl W.ml)) (tw_at hj) ?_
  walk_at "z"
  refine ⟨R j, S, as j, sb, f j, h, k, rfl, W.rd j hj, rdS, hk, bh, fun E' H1 es s1 ow => ?_⟩
  have W1 := W.mono s1
  walk_at "z"
  refine z_ixL (.inl (.inl W1.pl)) (tw_at hj) ?_
  have P1 := W1.pic j hj
  obtain ⟨_, _, _, e1, _⟩ := id P1
  refine Cw.z_methN e1 (Cw.look1n (by decide +kernel)) ?_
  walk_at "z"
  refine ⟨rfl, rfl, ?_⟩
  refine ⟨x j, P, pb, f j, h, k, rfl, P1, rdP.mono s1, hk, bh, fun ir H2 k2 pf => ?_, fun ir H2 s2 => ?_⟩
  · have no := P1.nolst
    have W2 := W1.chg hj k2 pf.pic ir
    have rE := ow.1.kp k2 (ow.1.out no).1 (ow.1.out no).2
    walk_at "z"
    refine z_setL W2.ml (k := j) (ixN_nat (show j < 2 from hj)) ?_
    rw [tw_set hj]
    have W3 := W2.mod hj rE
    have rE3 : RdRows (upd H2 ML (.lst (tw (put2 R j E')))) E' es _ := rE.kp (fun b o hb e => by rw [upd_ne hb]; exact e) (rd_l rE W2.ml tw_len).1 (rd_l rE W2.ml tw_len).2
    walk_at "z"
    refine ⟨E', es, _, rfl, rE3, fun _ => ?_, fun z => absurd ir z⟩
    walk_at "z"
    exact z_eqB (q _ ⟨((kq_of s1).trans (kq_kp k2 (in4.2.2 j hj))).trans (kq_upd in4.2.1), x, _, _, _, W3, fun i _ => .inl rfl⟩)
  · refine z_excO (exm T.x_TooGreat T.e_TooGreat_TooGreat) fun a ha => ?_
    walk_at "z"
    refine ⟨E', es, _, rfl, ow.1.mono s2, fun z => absurd z ir, fun _ => ?_⟩
    walk_at "z"
    exact z_eqB (q _ ⟨(kq_of s1).trans (kq_of s2), x, f, R, as, W1.mono s2, fun i _ => .inl rfl⟩)
end
def sp__law_combined (C : Addr) : Sp := fun vs H Q _ => ∃ (PL ML : Addr) (k : Int) (j : Nat) (x R : Nat → Addr) (as : Nat → List Addr) (f : Nat → Nat → Nat → Int), vs = [.ref PL, .ref ML, .int (j : Int), .int k] ∧ j < 2 ∧ (k = 1 ∨ k = -1) ∧
  PSt C H PL ML x f R as f ∧ ∀ H', Nxt C H H' PL ML x → Q (.bl true) H'
section
theorem ok__law_combined {P : Program} {w : World} {K : PySem.W.Frag} {mg : Str → Option Value} {base : Heap} {A : Nat → Addr} {D : Nat → FuncData} (T : Txt K mg A D) : FnOk P w K mg base (L2.CX P w) 5 (A 53) (D 53) ["pictures", "models", "at", "times"] (sp__law_combined (A 2)) := by
  refine T.F__law_combined.okX sc__law_combined (fun vs H Q E h => ?_) (fun cdv A' outer s H vs Q E hr h => ?_)
  · obtain ⟨PL, ML, k, j, x, R, as, f, rfl, _⟩ := h
    rfl
  obtain ⟨PL, ML, k, j, x, R, as, f, rfl, hj, hk, W, q⟩ := h
  refine ⟨_, (pss_cons (ps_set (i := 4) sc__law_combined.nd rfl (.inl rfl) (pe_call (ok__law_sum T) (hr.mono (by decide)) (by rfl) T.m__law_sum T.F__law_sum.kp T.b__law_sum .nil (passes_call (takes_of rfl rfl rfl rfl) (fun _ _ _ _ h => h)) (pa_cons (pe_ix ix_list (pv 1) (pv 2) (fun _ _ => rfl)) (pa_cons (pe_ix ix_list (pv 1) (pe_op op_sub pe_int (pv 2)) (fun _ _ => rfl)) (pa_cons (pv 3) pa_nil)))))
  (pss_cons (ps_set (i := 5) sc__law_combined.nd rfl (.inl rfl) pe_bl)
  (pss_cons (ps_try_only (Wout := fun _ _ _ _ => False) rfl rfl ⟨rfl, by decide, .inl T.x_TooGreat.g⟩ takes0 (fun W pn xe tk PO => (pss_one (ps_if (pt_cmpR op_eq (pv 3) pe_int (nomark _))
  (pss_one (ps_asg (Co.pe_own T.sf_Picture T.m_Picture___add__.at_ T.m_Picture___add__.fn (ok_Picture___add__ T) (hr.mono (by decide)) T.b_Picture___add__ (fun σ => passAt tk σ) (by exact (pe_ix (show IxR _ (rIxL K) from ix_list) (pv 0) (pv 2) (fun _ _ => rfl))) (by exact (pe_ix (show IxR _ (rIxL K) from ix_list) (pv 0) (pe_op op_sub pe_int (pv 2)) (fun _ _ => rfl)))) (pg_sub (pv 0) (pv 2) set_list)))
  (pss_one (ps_asg (Co.pe_own T.sf_Picture T.m_Picture___sub__.at_ T.m_Picture___sub__.fn (ok_Picture___sub__ T) (hr.mono (by decide)) T.b_Picture___sub__ (fun σ => passAt tk σ) (by exact (pe_ix (show IxR _ (rIxL K) from ix_list) (pv 0) (pv 2) (fun _ _ => rfl))) (by exact (pe_ix (show IxR _ (rIxL K) from ix_list) (pv 0) (pe_op op_sub pe_int (pv 2)) (fun _ _ => rfl)))) (pg_sub (pv 0) (pv 2) set_list))))))
  (fun a oe cls d pn hz hf => (pss_one (ps_set (i := 5) sc__law_combined.nd rfl (.inl rfl) pe_bl))))
  (pss_cons (ps_if (pt_val (pv 5))
  (pss_one (ps_asg (pv 4) (pg_sub (pv 1) (pv 2) set_list)))
  pss_nil)
  (pss_one (ps_ret (pe_cmpR op_eq (pv 5) (pe_call (ok__law_fits T) (hr.mono (by decide)) (by rfl) T.m__law_fits T.F__law_fits.kp T.b__law_fits .nil (passes_call (takes_of rfl rfl rfl rfl) (fun _ _ _ _ h => h)) (pa_cons (pv 4) pa_nil)) (nomark _)))))))), ?_⟩
  have hj' : 1 - j < 2 := by omega
  have bh : BdR (f (1 - j)) := bdr_in (W.inr _ hj')
  walk_at "z"
  refine z_ixL (.inl (.inl W.ml)) (tw_at hj) ?_
  walk_at "z"
  refine z_ixL (.inl (.inl W.ml)) (tw_ot hj) ?_
  walk_at "z"
  refine ⟨R j, R (1 - j), as j, as (1 - j), f j, f (1 - j), k, rfl, W.rd j hj, W.rd _ hj', by rcases hk with rfl | rfl <;> decide, bh, fun E' H1 es s1 ow => ?_⟩
  have W1 := W.mono s1
  walk_at "z"
  have P1 := W1.pic j hj
  have P2 := W1.pic _ hj'
  obtain ⟨_, _, _, e1, _⟩ := id P1
  obtain ⟨_, _, _, e2, _⟩ := id P2
  rcases hk with rfl | rfl
  · refine z_if (fun _ => ?_) (fun h => absurd rfl h)
    walk_at "z"
    refine z_ixL (.inl (.inl W1.pl)) (tw_at hj) ?_
    walk_at "z"
    refine z_ixL (.inl (.inl W1.pl)) (tw_ot hj) ?_
    refine Co.z_own e1 e2 ?_
    refine ⟨x j, x (1 - j), f j, f (1 - j), rfl, P1, P2, bh, fun ir y H2 fy s2 pf => ?_, fun ir H2 s2 => ?_⟩
    · have W2 := W1.mono s2
      have rE := ow.1.mono s2
      have nx' : ∀ i, i < 2 → y ≠ x i := fun i hi z => by
        obtain ⟨_, _, _, e, _⟩ := W1.pic i hi
        rw [← z, fy] at e
        cases e
      walk_at "z"
      refine z_setL W2.pl (k := j) (ixN_nat (show j < 2 from hj)) ?_
      rw [tw_set hj]
      have W3 := W2.put hj pf.pic ir nx'
      have rE3 : RdRows (upd H2 PL (.lst (tw (put2 x j y)))) E' es _ := rE.kp (fun b o hb e => by rw [upd_ne hb]; exact e) (rd_l rE W2.pl tw_len).1 (rd_l rE W2.pl tw_len).2
      walk_at "z"
      refine z_setL W3.ml (k := j) (ixN_nat (show j < 2 from hj)) ?_
      rw [tw_set hj]
      have W4 := W3.mod hj rE3
      have rE4 : RdRows (upd (upd H2 PL (.lst (tw (put2 x j y)))) ML (.lst (tw (put2 R j E')))) E' es _ := rE3.kp (fun b o hb e => by rw [upd_ne hb]; exact e) (rd_l rE3 W3.ml tw_len).1 (rd_l rE3 W3.ml tw_len).2
      walk_at "z"
      refine ⟨E', es, _, rfl, rE4, fun _ => ?_, fun z => absurd ir z⟩
      walk_at "z"
      refine z_eqB (q _ ⟨(((kq_of s1).trans (kq_of s2)).trans (kq_upd in4.1)).trans (kq_upd in4.2.1), _, _, _, _, W4, fun i _ => ?_⟩)
      by_cases z : i = j
      · subst z
        rw [put2_at]
        exact .inr (fresh_of s1 fy)
      · rw [put2_ne z]
        exact .inl rfl
    · refine z_excO (exm T.x_TooGreat T.e_TooGreat_TooGreat) fun a ha => ?_
      walk_at "z"
      refine ⟨E', es, _, rfl, ow.1.mono s2, fun z => absurd z ir, fun _ => ?_⟩
      walk_at "z"
      exact z_eqB (q _ ⟨(kq_of s1).trans (kq_of s2), x, f, R, as, W1.mono s2, fun i _ => .inl rfl⟩)
  · refine z_if (fun h => absurd h (by decide)) (fun _ => ?_)
    walk_at "z"
    refine z_ixL (.inl (.inl W1.pl)) (tw_at hj) ?_
    walk_at "z"
    refine z_ixL (.inl (.inl W1.pl)) (tw_ot hj) ?_
    refine Co.z_own e1 e2 ?_
    refine ⟨x j, x (1 - j), f j, f (1 - j), rfl, P1, P2, bh, fun ir y H2 fy s2 pf => ?_, fun ir H2 s2 => ?_⟩
    · have W2 := W1.mono s2
      have rE := ow.1.mono s2
      have nx' : ∀ i, i < 2 → y ≠ x i := fun i hi z => by
        obtain ⟨_, _, _, e, _⟩ := W1.pic i hi
        rw [← z, fy] at e
        cases e
      walk_at "z"
      refine z_setL W2.pl (k := j) (ixN_nat (show j < 2 from hj)) ?_
      rw [tw_set hj]
      have W3 := W2.put hj pf.pic ir nx'
      have rE3 : RdRows (upd H2 PL (.lst (tw (put2 x j y)))) E' es _ := rE.kp (fun b o hb e => by rw [upd_ne hb]; exact e) (rd_l rE W2.pl tw_len).1 (rd_l rE W2.pl tw_len).2
      walk_at "z"
      refine z_setL W3.ml (k := j) (ixN_nat (show j < 2 from hj)) ?_
      rw [tw_set hj]
      have W4 := W3.mod hj rE3
      have rE4 : RdRows (upd (upd H2 PL (.lst (tw (put2 x j y)))) ML (.lst (tw (put2 R j E')))) E' es _ := rE3.kp (fun b o hb e => by rw [upd_ne hb]; exact e) (rd_l rE3 W3.ml tw_len).1 (rd_l rE3 W3.ml tw_len).2
      walk_at "z"
      refine ⟨E', es, _, rfl, rE4, fun _ => ?_, fun z => absurd ir z⟩
      walk_at "z"
      refine z_eqB (q _ ⟨(((kq_of s1).trans (kq_of s2)).trans (kq_upd in4.1)).trans (kq_upd in4.2.1), _, _, _, _, W4, fun i _ => ?_⟩)
      by_cases z : i = j
      · subst z
        rw [put2_at]
        exact .inr (fresh_of s1 fy)
      · rw [put2_ne z]
        exact .inl rfl
    · refine z_excO (exm T.x_TooGreat T.e_TooGreat_TooGreat) fun a ha => ?_
      walk_at "z"
      refine ⟨E', es, _, rfl, ow.1.mono s2, fun z => absurd z ir, fun _ => ?_⟩
      walk_at "z"
      exact z_eqB (q _ ⟨(kq_of s1).trans (kq_of s2), x, f, R, as, W1.mono s2, fun i _ => .inl rfl⟩)
end
theorem few_bd {g : Nat → Nat → Int} (h : Few g) : BdR g := fun r c hr hc => Nat.lt_of_le_of_lt (h r c hr hc) (by decide)
def sp__law_deed (C : Addr) : Sp := fun vs H Q _ => ∃ (PL ML p : Addr) (x R : Nat → Addr) (as : Nat → List Addr) (f : Nat → Nat → Nat → Int), vs = [.ref PL, .ref ML, .ref p] ∧ IsStm H p ∧
  PSt C H PL ML x f R as f ∧ ∀ H' x' f' R' as', (∀ b o, b ∉ [PL, ML, x 0, x 1] → b ≠ p → H b = some o → H' b = some o) → PSt C H' PL ML x' f' R' as' f' → (∀ k, k < 2 → x' k = x k ∨ H (x' k) = none) → Q (.bl true) H'
/-- what a draw leaves, and what comes behind it -/
theorem deed_out {C : Addr} {H H1 H2 : Hp} {PL ML p : Addr} {x : Nat → Addr} (k : Kp p H H1) (n : Nxt C H1 H2 PL ML x) (st : IsStm H1 p) :
    ∃ x' f' R' as', (∀ b o, b ∉ [PL, ML, x 0, x 1] → b ≠ p → H b = some o → H2 b = some o) ∧ PSt C H2 PL ML x' f' R' as' f' ∧ ∀ k, k < 2 → x' k = x k ∨ H (x' k) = none := by
  obtain ⟨kq, x', f', R', as', W, hx⟩ := n
  refine ⟨x', f', R', as', fun b o nb np e => kq b o nb (k b o np e), W, fun i hi => ?_⟩
  rcases hx i hi with h | h
  · exact .inl h
  · exact .inr (kp_none k h (fun z => by
      obtain ⟨_, _, _, e⟩ := st
      rw [z, e] at h
      cases h))
theorem sd0 {H : Hp} {p : Addr} (st : IsStm H p) : Sd (fun _ => none) H p := ⟨fun b o e => (by cases e), rfl, st⟩
theorem sd_of {H1 H2 : Hp} {p : Addr} (e : ∀ b, b ≠ p → H2 b = H1 b) : Kp p H1 H2 := kp_eq e
section
theorem ok__law_deed {P : Program} {w : World} {K : PySem.W.Frag} {mg : Str → Option Value} {base : Heap} {A : Nat → Addr} {D : Nat → FuncData} (T : Txt K mg A D) : FnOk P w K mg base (L2.CX P w) 7 (A 54) (D 54) ["pictures", "models", "stream"] (sp__law_deed (A 2)) := by
  refine T.F__law_deed.okX sc__law_deed (fun vs H Q E h => ?_) (fun cdv A' outer s H vs Q E hr h => ?_)
  · obtain ⟨PL, ML, p, x, R, as, f, rfl, _⟩ := h
    rfl
  obtain ⟨PL, ML, p, x, R, as, f, rfl, st, W, q⟩ := h
  refine ⟨_, (pss_cons (ps_set (i := 3) sc__law_deed.nd rfl (.inl rfl) (pe_call (ok__law_draw T) (hr.mono (by decide)) (by rfl) T.m__law_draw T.F__law_draw.kp T.b__law_draw .nil (passes_call (takes_of rfl rfl rfl rfl) (fun _ _ _ _ h => h)) (pa_cons (pv 2) (pa_cons pe_int pa_nil))))
  (pss_cons (ps_set (i := 4) sc__law_deed.nd rfl (.inl rfl) (pe_call (ok__law_draw T) (hr.mono (by decide)) (by rfl) T.m__law_draw T.F__law_draw.kp T.b__law_draw .nil (passes_call (takes_of rfl rfl rfl rfl) (fun _ _ _ _ h => h)) (pa_cons (pv 2) (pa_cons pe_int pa_nil))))
  (pss_cons (ps_if (PW.pt (pw_and (pt_cmpR op_eq (pv 4) pe_int (nomark _)) (pw_and1 (pt_cmpR op_eq (pe_call (ok__law_draw T) (hr.mono (by decide)) (by rfl) T.m__law_draw T.F__law_draw.kp T.b__law_draw .nil (passes_call (takes_of rfl rfl rfl rfl) (fun _ _ _ _ h => h)) (pa_cons (pv 2) (pa_cons pe_int pa_nil))) pe_int (nomark _)))))
  (pss_cons (ps_expr (pe_meth0 (pe_ix ix_list (pv 0) (pv 3) (fun _ _ => rfl)) T.q_Picture T.m_Picture_wipe (ok_Picture_wipe T) (hr.mono (by decide)) T.b_Picture_wipe .nil (passes_call (takes_of rfl rfl rfl rfl) (fun _ _ _ _ h => h))))
  (pss_cons (ps_asg (pe_call0 (ok__law_blank T) (hr.mono (by decide)) (by rfl) T.m__law_blank T.F__law_blank.kp T.b__law_blank .nil (passes_call (takes_of rfl rfl rfl rfl) (fun _ _ _ _ h => h))) (pg_sub (pv 1) (pv 3) set_list))
  (pss_one (ps_ret pe_bl))))
  pss_nil)
  (pss_cons (ps_if (PW.pt (pw_or (pt_cmpR op_eq (pv 4) pe_int (nomark _)) (pw_or1 (pt_cmpR op_eq (pv 4) pe_int (nomark _)))))
  (pss_one (ps_ret (pe_call (ok__law_combined T) (hr.mono (by decide)) (by rfl) T.m__law_combined T.F__law_combined.kp T.b__law_combined .nil (passes_call (takes_of rfl rfl rfl rfl) (fun _ _ _ _ h => h)) (pa_cons (pv 0) (pa_cons (pv 1) (pa_cons (pv 3) (pa_cons (pe_op op_sub pe_int (pe_op op_mul pe_int (pv 4))) pa_nil)))))))
  pss_nil)
  (pss_cons (ps_if (pt_cmpR op_eq (pv 4) pe_int (nomark _))
  (pss_cons (ps_asg (Co.pe_ownNeg T.m_Picture___neg__.at_ T.m_Picture___neg__.fn (ok_Picture___neg__ T) (hr.mono (by decide)) T.b_Picture___neg__ (Co.passAll (passes_call (takes_of rfl rfl rfl rfl) (fun _ _ _ _ h => h))) (pe_ix ix_list (pv 0) (pv 3) (fun _ _ => rfl))) (pg_sub (pv 0) (pv 3) set_list))
  (pss_cons (ps_asg (pe_call (ok__law_sum T) (hr.mono (by decide)) (by rfl) T.m__law_sum T.F__law_sum.kp T.b__law_sum .nil (passes_call (takes_of rfl rfl rfl rfl) (fun _ _ _ _ h => h)) (pa_cons (pe_call0 (ok__law_blank T) (hr.mono (by decide)) (by rfl) T.m__law_blank T.F__law_blank.kp T.b__law_blank .nil (passes_call (takes_of rfl rfl rfl rfl) (fun _ _ _ _ h => h))) (pa_cons (pe_ix ix_list (pv 1) (pv 3) (fun _ _ => rfl)) (pa_cons (pe_un un_neg pe_int) pa_nil)))) (pg_sub (pv 1) (pv 3) set_list))
  (pss_one (ps_ret pe_bl))))
  pss_nil)
  (pss_cons (ps_if (pt_cmpR op_eq (pv 4) pe_int (nomark _))
  (pss_cons (ps_set (i := 5) sc__law_deed.nd rfl (.inl rfl) (pe_op op_sub (pe_call (ok__law_draw T) (hr.mono (by decide)) (by rfl) T.m__law_draw T.F__law_draw.kp T.b__law_draw .nil (passes_call (takes_of rfl rfl rfl rfl) (fun _ _ _ _ h => h)) (pa_cons (pv 2) (pa_cons pe_int pa_nil))) pe_int))
  (pss_cons (ps_set (i := 6) sc__law_deed.nd rfl (.inl rfl) (pe_op op_sub (pe_call (ok__law_draw T) (hr.mono (by decide)) (by rfl) T.m__law_draw T.F__law_draw.kp T.b__law_draw .nil (passes_call (takes_of rfl rfl rfl rfl) (fun _ _ _ _ h => h)) (pa_cons (pv 2) (pa_cons pe_int pa_nil))) pe_int))
  (pss_cons (ps_asg (pe_meth (pe_ix ix_list (pv 0) (pv 3) (fun _ _ => rfl)) T.q_Picture T.m_Picture_shifted (ok_Picture_shifted T) (hr.mono (by decide)) T.b_Picture_shifted .nil (passes_call (takes_of rfl rfl rfl rfl) (fun _ _ _ _ h => h)) (pa_cons (pv 5) (pa_cons (pv 6) pa_nil))) (pg_sub (pv 0) (pv 3) set_list))
  (pss_cons (ps_asg (pe_call (ok__law_moved T) (hr.mono (by decide)) (by rfl) T.m__law_moved T.F__law_moved.kp T.b__law_moved .nil (passes_call (takes_of rfl rfl rfl rfl) (fun _ _ _ _ h => h)) (pa_cons (pe_ix ix_list (pv 1) (pv 3) (fun _ _ => rfl)) (pa_cons (pv 5) (pa_cons (pv 6) pa_nil)))) (pg_sub (pv 1) (pv 3) set_list))
  (pss_one (ps_ret pe_bl))))))
  pss_nil)
  (pss_cons (ps_if (pt_cmpR op_eq (pv 4) pe_int (nomark _))
  (pss_cons (ps_asg (pe_call (ok__law_filled T) (hr.mono (by decide)) (by rfl) T.m__law_filled T.F__law_filled.kp T.b__law_filled .nil (passes_call (takes_of rfl rfl rfl rfl) (fun _ _ _ _ h => h)) (pa_cons (pv 2) pa_nil)) (pg_tup (by rfl) (pgs_cons (pg_name (i := 7) sc__law_deed.nd rfl (.inl rfl)) (pgs_cons (pg_name (i := 8) sc__law_deed.nd rfl (.inl rfl)) pgs_nil))))
  (pss_one (ps_ret (pe_call (ok__law_added T) (hr.mono (by decide)) (by rfl) T.m__law_added T.F__law_added.kp T.b__law_added .nil (passes_call (takes_of rfl rfl rfl rfl) (fun _ _ _ _ h => h)) (pa_cons (pv 0) (pa_cons (pv 1) (pa_cons (pv 3) (pa_cons (pv 7) (pa_cons (pv 8) (pa_cons (pe_op op_sub pe_int (pe_op op_mul pe_int (pe_call (ok__law_draw T) (hr.mono (by decide)) (by rfl) T.m__law_draw T.F__law_draw.kp T.b__law_draw .nil (passes_call (takes_of rfl rfl rfl rfl) (fun _ _ _ _ h => h)) (pa_cons (pv 2) (pa_cons pe_int pa_nil))))) pa_nil))))))))))
  pss_nil)
  (pss_cons (ps_if (pt_cmpR op_eq (pv 4) pe_int (nomark _))
  (pss_cons (ps_asg (pe_call (ok__law_drawn T) (hr.mono (by decide)) (by rfl) T.m__law_drawn T.F__law_drawn.kp T.b__law_drawn .nil (passes_call (takes_of rfl rfl rfl rfl) (fun _ _ _ _ h => h)) (pa_cons (pv 2) pa_nil)) (pg_tup (by rfl) (pgs_cons (pg_name (i := 7) sc__law_deed.nd rfl (.inl rfl)) (pgs_cons (pg_name (i := 8) sc__law_deed.nd rfl (.inl rfl)) pgs_nil))))
  (pss_one (ps_ret (pe_call (ok__law_added T) (hr.mono (by decide)) (by rfl) T.m__law_added T.F__law_added.kp T.b__law_added .nil (passes_call (takes_of rfl rfl rfl rfl) (fun _ _ _ _ h => h)) (pa_cons (pv 0) (pa_cons (pv 1) (pa_cons (pv 3) (pa_cons (pv 7) (pa_cons (pv 8) (pa_cons (pe_op op_sub pe_int (pe_op op_mul pe_int (pe_call (ok__law_draw T) (hr.mono (by decide)) (by rfl) T.m__law_draw T.F__law_draw.kp T.b__law_draw .nil (passes_call (takes_of rfl rfl rfl rfl) (fun _ _ _ _ h => h)) (pa_cons (pv 2) (pa_cons pe_int pa_nil))))) pa_nil))))))))))
  pss_nil)
  (pss_cons (ps_set (i := 8) sc__law_deed.nd rfl (.inl rfl) (pe_call (ok__law_sparse T) (hr.mono (by decide)) (by rfl) T.m__law_sparse T.F__law_sparse.kp T.b__law_sparse .nil (passes_call (takes_of rfl rfl rfl rfl) (fun _ _ _ _ h => h)) (pa_cons (pv 2) pa_nil)))
  (pss_one (ps_ret (pe_call (ok__law_added T) (hr.mono (by decide)) (by rfl) T.m__law_added T.F__law_added.kp T.b__law_added .nil (passes_call (takes_of rfl rfl rfl rfl) (fun _ _ _ _ h => h)) (pa_cons (pv 0) (pa_cons (pv 1) (pa_cons (pv 3) (pa_cons (pv 8) (pa_cons (pv 8) (pa_cons (pe_ix ix_list (pe_lst (pa_cons pe_int (pa_cons (pe_un un_neg pe_int) (pa_cons pe_int (pa_cons (pe_un un_neg pe_int) (pa_cons pe_int pa_nil)))))) (pe_call (ok__law_draw T) (hr.mono (by decide)) (by rfl) T.m__law_draw T.F__law_draw.kp T.b__law_draw .nil (passes_call (takes_of rfl rfl rfl rfl) (fun _ _ _ _ h => h)) (pa_cons (pv 2) (pa_cons pe_int pa_nil))) (fun _ _ => rfl)) pa_nil)))))))))))))))))), ?_⟩
  have S := sd0 st
  walk_at "z"
  refine nx S (by decide) (lt1000 (by decide)) fun j H1 j0 j1 S1 e1 => ?_
  have W1 := W.kps st (kp_eq e1)
  walk_at "z"
  refine nx S1 (by decide) (lt1000 (by decide)) fun kd H2 _ _ S2 e2 => ?_
  have W2 := W1.kps S1.stm (kp_eq e2)
  have k2 : Kp p H H2 := (kp_eq e1).trans' (kp_eq e2)
  obtain ⟨j, rfl⟩ : ∃ n' : Nat, j = (n' : Int) := ⟨j.toNat, by omega⟩
  have hj : j < 2 := by omega
  clear W1 W S1 S e1 e2 j0 j1
  walk_at "z"
  refine z_if (fun h8 => ?_) (fun h8 => ?_)
  · walk_at "z"
    refine nx S2 (by decide) (lt1000 (by decide)) fun d H3 _ _ S3 e3 => ?_
    have W3' := W2.kps S2.stm (kp_eq e3)
    have k3' := k2.trans' (kp_eq e3)
    walk_at "z"
    refine z_if (fun h9 => ?_) (fun h9 => ?_)
    · walk_at "z"
      refine z_ixL (.inl (.inl W3'.pl)) (tw_at hj) ?_
      have P := W3'.pic j hj
      obtain ⟨_, _, _, eP, _⟩ := id P
      refine Cw.z_meth eP (Cw.look1n (by decide +kernel)) ?_
      walk_at "z"
      refine ⟨x j, f j, rfl, P, fun HY kY PY => ?_⟩
      have ir : InR (fun _ _ => 0) := fun r c _ _ => ⟨show (-9999 : Int) ≤ 0 by decide, show (0 : Int) ≤ 9999 by decide⟩
      have W4 := W3'.chg hj kY PY ir
      walk_at "z"
      refine ⟨rfl, fun RB HB asB sB owB => ?_⟩
      have W5 := W4.mono sB
      walk_at "z"
      refine z_setL W5.ml (k := j) (ixN_nat (show j < 2 from hj)) ?_
      rw [tw_set hj]
      have W6 := W5.mod hj owB.1
      walk_at "z"
      have n : Nxt (A 2) H3 _ PL ML x := ⟨((kq_kp kY (in4.2.2 j hj)).trans (kq_of sB)).trans (kq_upd in4.2.1), _, _, _, _, W6, fun i _ => .inl rfl⟩
      obtain ⟨x', f', R', as', o1, o2, o3⟩ := deed_out k3' n S3.stm
      exact q _ x' f' R' as' o1 o2 o3
    walk_at "z"
    refine z_if (fun h2 => ?_) (fun h2 => ?_)
    · walk_at "z"
      walk_at "z"
      refine ⟨PL, ML, 5 - 2 * kd, j, x, R, as, f, rfl, hj, by omega, W3', fun HZ n => ?_⟩
      obtain ⟨x', f', R', as', o1, o2, o3⟩ := deed_out k3' n S3.stm
      exact q _ x' f' R' as' o1 o2 o3
    walk_at "z"
    refine z_if (fun h3 => ?_) (fun h3 => ?_)
    · walk_at "z"
      refine ⟨PL, ML, 5 - 2 * kd, j, x, R, as, f, rfl, hj, by omega, W3', fun HZ n => ?_⟩
      obtain ⟨x', f', R', as', o1, o2, o3⟩ := deed_out k3' n S3.stm
      exact q _ x' f' R' as' o1 o2 o3
    walk_at "z"
    refine z_if (fun h4 => ?_) (fun h4 => ?_)
    · walk_at "z"
      refine z_ixL (.inl (.inl W3'.pl)) (tw_at hj) ?_
      have P := W3'.pic j hj
      obtain ⟨_, _, _, eP, _⟩ := id P
      refine Co.z_own1 eP ?_
      have ir : InR (fun r c => 0 + -1 * f j r c) := fun r c hr hc => by
        have := W3'.inr j hj r c hr hc
        show -9999 ≤ 0 + -1 * f j r c ∧ 0 + -1 * f j r c ≤ 9999
        omega
      refine ⟨x j, f j, rfl, P, bdr_in (W3'.inr j hj), ir, fun y HY fy sY PY => ?_⟩
      have WY := W3'.mono sY
      have nx' : ∀ i, i < 2 → y ≠ x i := fun i hi z => by
        obtain ⟨_, _, _, e, _⟩ := W3'.pic i hi
        rw [← z, fy] at e
        cases e
      walk_at "z"
      refine z_setL WY.pl (k := j) (ixN_nat (show j < 2 from hj)) ?_
      rw [tw_set hj]
      have W3 := WY.put hj PY ir nx'
      have n3 : Kq [PL, ML, x 0, x 1] H3 (upd HY PL (.lst (tw (put2 x j y)))) := (kq_of sY).trans (kq_upd in4.1)
      generalize upd HY PL (HO.lst (tw (put2 x j y))) = H3' at W3 n3 ⊢
      walk_at "z"
      refine ⟨rfl, fun RB HB asB sB owB => ?_⟩
      walk_at "z"
      refine z_ixL (.inl (.inl (sB _ _ W3.ml))) (tw_at hj) ?_
      walk_at "z"
      refine ⟨RB, R j, asB, as j, _, f j, -1, rfl, owB.1, (W3.rd j hj).mono sB, by decide, bdr_in (W3'.inr j hj), fun E' HE es sE owE => ?_⟩
      have W5 := (W3.mono sB).mono sE
      walk_at "z"
      refine z_setL W5.ml (k := j) (ixN_nat (show j < 2 from hj)) ?_
      rw [tw_set hj]
      have W6 := W5.mod hj owE.1
      walk_at "z"
      have n : Nxt (A 2) H3 _ PL ML x := ⟨((n3.trans (kq_of sB)).trans (kq_of sE)).trans (kq_upd in4.2.1), _, _, _, _, W6, fun i _ => by
        by_cases z : i = j
        · subst z
          rw [put2_at]
          exact .inr fy
        · rw [put2_ne z]
          exact .inl rfl⟩
      obtain ⟨x', f', R', as', o1, o2, o3⟩ := deed_out k3' n S3.stm
      exact q _ x' f' R' as' o1 o2 o3
    walk_at "z"
    refine z_if (fun h5 => ?_) (fun h5 => ?_)
    · walk_at "z"
      refine nx S3 (by decide) (lt1000 (by decide)) fun rt HA _ _ SA eA => ?_
      have WA := W3'.kps S3.stm (kp_eq eA)
      walk_at "z"
      refine nx SA (by decide) (lt1000 (by decide)) fun up HB _ _ SB eB => ?_
      have WB := WA.kps SA.stm (kp_eq eB)
      have kB := (k3'.trans' (kp_eq eA)).trans' (kp_eq eB)
      walk_at "z"
      refine z_ixL (.inl (.inl WB.pl)) (tw_at hj) ?_
      have P := WB.pic j hj
      obtain ⟨_, _, _, eP, _⟩ := id P
      refine Cw.z_meth eP (Cw.look1n (by decide +kernel)) ?_
      walk_at "z"
      refine ⟨x j, f j, rt - 4, up - 4, rfl, P, fun y HY fy sY PY => ?_⟩
      have ir : InR (mvd (f j) (rt - 4) (up - 4)) := mvd_le (m := 9999) (WB.inr j hj) (by decide) _ _
      have WY := WB.mono sY
      have nx' : ∀ i, i < 2 → y ≠ x i := fun i hi z => by
        obtain ⟨_, _, _, e, _⟩ := WB.pic i hi
        rw [← z, fy] at e
        cases e
      walk_at "z"
      refine z_setL WY.pl (k := j) (ixN_nat (show j < 2 from hj)) ?_
      rw [tw_set hj]
      have W3 := WY.put hj PY ir nx'
      have n3 : Kq [PL, ML, x 0, x 1] HB (upd HY PL (.lst (tw (put2 x j y)))) := (kq_of sY).trans (kq_upd in4.1)
      generalize upd HY PL (HO.lst (tw (put2 x j y))) = H3' at W3 n3 ⊢
      walk_at "z"
      refine z_ixL (.inl (.inl W3.ml)) (tw_at hj) ?_
      walk_at "z"
      refine ⟨R j, as j, f j, _, _, rfl, W3.rd j hj, fun E' HE es g sE owE hg => ?_⟩
      have W5 := W3.mono sE
      walk_at "z"
      refine z_setL W5.ml (k := j) (ixN_nat (show j < 2 from hj)) ?_
      rw [tw_set hj]
      have W6 := W5.mod hj (owE.1.congr hg)
      walk_at "z"
      have n : Nxt (A 2) HB _ PL ML x := ⟨(n3.trans (kq_of sE)).trans (kq_upd in4.2.1), _, _, _, _, W6, fun i _ => by
        by_cases z : i = j
        · subst z
          rw [put2_at]
          exact .inr fy
        · rw [put2_ne z]
          exact .inl rfl⟩
      obtain ⟨x', f', R', as', o1, o2, o3⟩ := deed_out kB n SB.stm
      exact q _ x' f' R' as' o1 o2 o3
    walk_at "z"
    refine z_if (fun h6 => ?_) (fun h6 => ?_)
    · walk_at "z"
      refine ⟨p, _, rfl, S3, fun t P S' pb sb g HA SA kA ht rp rs few => ?_⟩
      have WA := W3'.kps S3.stm kA
      walk_at "z"
      refine nx SA (by decide) (lt1000 (by decide)) fun d HB d0 d1 SB eB => ?_
      have WB := WA.kps SA.stm (kp_eq eB)
      have kB := (k3'.trans' kA).trans' (kp_eq eB)
      walk_at "z"
      refine ⟨PL, ML, P, S', pb, sb, g, 1 - 2 * d, j, x, R, as, f, rfl, hj, WB, rd_kpst rp SA.stm (kp_eq eB), rd_kpst rs SA.stm (kp_eq eB), Nat.lt_of_le_of_lt (show (1 - 2 * d).natAbs ≤ 10 by omega) (by decide), few_bd few, fun HZ n => ?_⟩
      obtain ⟨x', f', R', as', o1, o2, o3⟩ := deed_out kB n SB.stm
      exact q _ x' f' R' as' o1 o2 o3
    walk_at "z"
    refine z_if (fun h7 => ?_) (fun h7 => ?_)
    · walk_at "z"
      refine ⟨p, _, rfl, S3, fun t P S' pb sb g HA SA kA ht rp rs few => ?_⟩
      have WA := W3'.kps S3.stm kA
      walk_at "z"
      refine nx SA (by decide) (lt1000 (by decide)) fun d HB d0 d1 SB eB => ?_
      have WB := WA.kps SA.stm (kp_eq eB)
      have kB := (k3'.trans' kA).trans' (kp_eq eB)
      walk_at "z"
      refine ⟨PL, ML, P, S', pb, sb, g, 1 - 2 * d, j, x, R, as, f, rfl, hj, WB, rd_kpst rp SA.stm (kp_eq eB), rd_kpst rs SA.stm (kp_eq eB), Nat.lt_of_le_of_lt (show (1 - 2 * d).natAbs ≤ 10 by omega) (by decide), few_bd few, fun HZ n => ?_⟩
      obtain ⟨x', f', R', as', o1, o2, o3⟩ := deed_out kB n SB.stm
      exact q _ x' f' R' as' o1 o2 o3
    walk_at "z"
    refine ⟨p, _, rfl, S3, fun Rg HA ag g SA kA ow ir => ?_⟩
    have WA := W3'.kps S3.stm kA
    walk_at "z"
    intro t HB fB sB hB
    walk_at "z"
    have SB := SA.mono sB
    refine nx SB (by decide) (lt1000 (by decide)) fun w HC w0 w1 SC eC => ?_
    have hC : HC t = some (.lst (([1, -1, 2, -3, 7] : List Int).map V.int)) := (eC t (SA.ne0 fB)).trans hB
    obtain ⟨k', hk', mk⟩ := at_ints (ns := [1, -1, 2, -3, 7]) w0 w1
    have kb := (by decide : ∀ z ∈ ([1, -1, 2, -3, 7] : List Int), z.natAbs < 2 ^ 200) k' mk
    refine z_ixL (.inl (.inl hC)) hk' ?_
    have WC := (WA.mono sB).kps SB.stm (kp_eq eC)
    have rg := rd_kpst (ow.1.mono sB) SB.stm (kp_eq eC)
    have kC := ((k3'.trans' kA).trans' (kp_of sB)).trans' (kp_eq eC)
    walk_at "z"
    refine ⟨PL, ML, Rg, Rg, ag, ag, g, k', j, x, R, as, f, rfl, hj, WC, rg, rg, kb, bdr_in ir, fun HZ n => ?_⟩
    obtain ⟨x', f', R', as', o1, o2, o3⟩ := deed_out kC n SC.stm
    exact q _ x' f' R' as' o1 o2 o3
  walk_at "z"
  refine z_if (fun h2 => ?_) (fun h2 => ?_)
  · walk_at "z"
    walk_at "z"
    refine ⟨PL, ML, 5 - 2 * kd, j, x, R, as, f, rfl, hj, by omega, W2, fun HZ n => ?_⟩
    obtain ⟨x', f', R', as', o1, o2, o3⟩ := deed_out k2 n S2.stm
    exact q _ x' f' R' as' o1 o2 o3
  walk_at "z"
  refine z_if (fun h3 => ?_) (fun h3 => ?_)
  · walk_at "z"
    refine ⟨PL, ML, 5 - 2 * kd, j, x, R, as, f, rfl, hj, by omega, W2, fun HZ n => ?_⟩
    obtain ⟨x', f', R', as', o1, o2, o3⟩ := deed_out k2 n S2.stm
    exact q _ x' f' R' as' o1 o2 o3
  walk_at "z"
  refine z_if (fun h4 => ?_) (fun h4 => ?_)
  · walk_at "z"
    refine z_ixL (.inl (.inl W2.pl)) (tw_at hj) ?_
    have P := W2.pic j hj
    obtain ⟨_, _, _, eP, _⟩ := id P
    refine Co.z_own1 eP ?_
    have ir : InR (fun r c => 0 + -1 * f j r c) := fun r c hr hc => by
      have := W2.inr j hj r c hr hc
      show -9999 ≤ 0 + -1 * f j r c ∧ 0 + -1 * f j r c ≤ 9999
      omega
    refine ⟨x j, f j, rfl, P, bdr_in (W2.inr j hj), ir, fun y HY fy sY PY => ?_⟩
    have WY := W2.mono sY
    have nx' : ∀ i, i < 2 → y ≠ x i := fun i hi z => by
      obtain ⟨_, _, _, e, _⟩ := W2.pic i hi
      rw [← z, fy] at e
      cases e
    walk_at "z"
    refine z_setL WY.pl (k := j) (ixN_nat (show j < 2 from hj)) ?_
    rw [tw_set hj]
    have W3 := WY.put hj PY ir nx'
    have n3 : Kq [PL, ML, x 0, x 1] H2 (upd HY PL (.lst (tw (put2 x j y)))) := (kq_of sY).trans (kq_upd in4.1)
    generalize upd HY PL (HO.lst (tw (put2 x j y))) = H3' at W3 n3 ⊢
    walk_at "z"
    refine ⟨rfl, fun RB HB asB sB owB => ?_⟩
    walk_at "z"
    refine z_ixL (.inl (.inl (sB _ _ W3.ml))) (tw_at hj) ?_
    walk_at "z"
    refine ⟨RB, R j, asB, as j, _, f j, -1, rfl, owB.1, (W3.rd j hj).mono sB, by decide, bdr_in (W2.inr j hj), fun E' HE es sE owE => ?_⟩
    have W5 := (W3.mono sB).mono sE
    walk_at "z"
    refine z_setL W5.ml (k := j) (ixN_nat (show j < 2 from hj)) ?_
    rw [tw_set hj]
    have W6 := W5.mod hj owE.1
    walk_at "z"
    have n : Nxt (A 2) H2 _ PL ML x := ⟨((n3.trans (kq_of sB)).trans (kq_of sE)).trans (kq_upd in4.2.1), _, _, _, _, W6, fun i _ => by
      by_cases z : i = j
      · subst z
        rw [put2_at]
        exact .inr fy
      · rw [put2_ne z]
        exact .inl rfl⟩
    obtain ⟨x', f', R', as', o1, o2, o3⟩ := deed_out k2 n S2.stm
    exact q _ x' f' R' as' o1 o2 o3
  walk_at "z"
  refine z_if (fun h5 => ?_) (fun h5 => ?_)
  · walk_at "z"
    refine nx S2 (by decide) (lt1000 (by decide)) fun rt HA _ _ SA eA => ?_
    have WA := W2.kps S2.stm (kp_eq eA)
    walk_at "z"
    refine nx SA (by decide) (lt1000 (by decide)) fun up HB _ _ SB eB => ?_
    have WB := WA.kps SA.stm (kp_eq eB)
    have kB := (k2.trans' (kp_eq eA)).trans' (kp_eq eB)
    walk_at "z"
    refine z_ixL (.inl (.inl WB.pl)) (tw_at hj) ?_
    have P := WB.pic j hj
    obtain ⟨_, _, _, eP, _⟩ := id P
    refine Cw.z_meth eP (Cw.look1n (by decide +kernel)) ?_
    walk_at "z"
    refine ⟨x j, f j, rt - 4, up - 4, rfl, P, fun y HY fy sY PY => ?_⟩
    have ir : InR (mvd (f j) (rt - 4) (up - 4)) := mvd_le (m := 9999) (WB.inr j hj) (by decide) _ _
    have WY := WB.mono sY
    have nx' : ∀ i, i < 2 → y ≠ x i := fun i hi z => by
      obtain ⟨_, _, _, e, _⟩ := WB.pic i hi
      rw [← z, fy] at e
      cases e
    walk_at "z"
    refine z_setL WY.pl (k := j) (ixN_nat (show j < 2 from hj)) ?_
    rw [tw_set hj]
    have W3 := WY.put hj PY ir nx'
    have n3 : Kq [PL, ML, x 0, x 1] HB (upd HY PL (.lst (tw (put2 x j y)))) := (kq_of sY).trans (kq_upd in4.1)
    generalize upd HY PL (HO.lst (tw (put2 x j y))) = H3' at W3 n3 ⊢
    walk_at "z"
    refine z_ixL (.inl (.inl W3.ml)) (tw_at hj) ?_
    walk_at "z"
    refine ⟨R j, as j, f j, _, _, rfl, W3.rd j hj, fun E' HE es g sE owE hg => ?_⟩
    have W5 := W3.mono sE
    walk_at "z"
    refine z_setL W5.ml (k := j) (ixN_nat (show j < 2 from hj)) ?_
    rw [tw_set hj]
    have W6 := W5.mod hj (owE.1.congr hg)
    walk_at "z"
    have n : Nxt (A 2) HB _ PL ML x := ⟨(n3.trans (kq_of sE)).trans (kq_upd in4.2.1), _, _, _, _, W6, fun i _ => by
      by_cases z : i = j
      · subst z
        rw [put2_at]
        exact .inr fy
      · rw [put2_ne z]
        exact .inl rfl⟩
    obtain ⟨x', f', R', as', o1, o2, o3⟩ := deed_out kB n SB.stm
    exact q _ x' f' R' as' o1 o2 o3
  walk_at "z"
  refine z_if (fun h6 => ?_) (fun h6 => ?_)
  · walk_at "z"
    refine ⟨p, _, rfl, S2, fun t P S' pb sb g HA SA kA ht rp rs few => ?_⟩
    have WA := W2.kps S2.stm kA
    walk_at "z"
    refine nx SA (by decide) (lt1000 (by decide)) fun d HB d0 d1 SB eB => ?_
    have WB := WA.kps SA.stm (kp_eq eB)
    have kB := (k2.trans' kA).trans' (kp_eq eB)
    walk_at "z"
    refine ⟨PL, ML, P, S', pb, sb, g, 1 - 2 * d, j, x, R, as, f, rfl, hj, WB, rd_kpst rp SA.stm (kp_eq eB), rd_kpst rs SA.stm (kp_eq eB), Nat.lt_of_le_of_lt (show (1 - 2 * d).natAbs ≤ 10 by omega) (by decide), few_bd few, fun HZ n => ?_⟩
    obtain ⟨x', f', R', as', o1, o2, o3⟩ := deed_out kB n SB.stm
    exact q _ x' f' R' as' o1 o2 o3
  walk_at "z"
  refine z_if (fun h7 => ?_) (fun h7 => ?_)
  · walk_at "z"
    refine ⟨p, _, rfl, S2, fun t P S' pb sb g HA SA kA ht rp rs few => ?_⟩
    have WA := W2.kps S2.stm kA
    walk_at "z"
    refine nx SA (by decide) (lt1000 (by decide)) fun d HB d0 d1 SB eB => ?_
    have WB := WA.kps SA.stm (kp_eq eB)
    have kB := (k2.trans' kA).trans' (kp_eq eB)
    walk_at "z"
    refine ⟨PL, ML, P, S', pb, sb, g, 1 - 2 * d, j, x, R, as, f, rfl, hj, WB, rd_kpst rp SA.stm (kp_eq eB), rd_kpst rs SA.stm (kp_eq eB), Nat.lt_of_le_of_lt (show (1 - 2 * d).natAbs ≤ 10 by omega) (by decide), few_bd few, fun HZ n => ?_⟩
    obtain ⟨x', f', R', as', o1, o2, o3⟩ := deed_out kB n SB.stm
    exact q _ x' f' R' as' o1 o2 o3
  walk_at "z"
  refine ⟨p, _, rfl, S2, fun Rg HA ag g SA kA ow ir => ?_⟩
  have WA := W2.kps S2.stm kA
  walk_at "z"
  intro t HB fB sB hB
  walk_at "z"
  have SB := SA.mono sB
  refine nx SB (by decide) (lt1000 (by decide)) fun w HC w0 w1 SC eC => ?_
  have hC : HC t = some (.lst (([1, -1, 2, -3, 7] : List Int).map V.int)) := (eC t (SA.ne0 fB)).trans hB
  obtain ⟨k', hk', mk⟩ := at_ints (ns := [1, -1, 2, -3, 7]) w0 w1
  have kb := (by decide : ∀ z ∈ ([1, -1, 2, -3, 7] : List Int), z.natAbs < 2 ^ 200) k' mk
  refine z_ixL (.inl (.inl hC)) hk' ?_
  have WC := (WA.mono sB).kps SB.stm (kp_eq eC)
  have rg := rd_kpst (ow.1.mono sB) SB.stm (kp_eq eC)
  have kC := ((k2.trans' kA).trans' (kp_of sB)).trans' (kp_eq eC)
  walk_at "z"
  refine ⟨PL, ML, Rg, Rg, ag, ag, g, k', j, x, R, as, f, rfl, hj, WC, rg, rg, kb, bdr_in ir, fun HZ n => ?_⟩
  obtain ⟨x', f', R', as', o1, o2, o3⟩ := deed_out kC n SC.stm
  exact q _ x' f' R' as' o1 o2 o3
end
def totR (f : Nat → Nat → Int) (i : Nat) : Int := ((List.range i).map fun r => (mrow f r).sum).sum
theorem totR_s (f : Nat → Nat → Int) (i : Nat) : totR f (i + 1) = totR f i + (mrow f i).sum := by
  unfold totR
  rw [List.range_succ, List.map_append, List.sum_append]
  simp
theorem tot_congr {f g : Nat → Nat → Int} (h : ∀ r c, r < 48 → c < 48 → f r c = g r c) : tot f = tot g := by
  unfold tot
  congr 1
  refine List.map_congr_left fun r hr => ?_
  rw [mrow_congr fun c hc => h r c (List.mem_range.mp hr) hc]
theorem pixR_congr {f g : Nat → Nat → Int} {r : Nat} (h : ∀ c, c < 48 → f r c = g r c) : ∀ c, c ≤ 48 → pixR f r c = pixR g r c
  | 0, _ => rfl
  | c + 1, hc => by
    show pixR f r c ++ _ = pixR g r c ++ _
    rw [pixR_congr h c (by omega), h c (by omega)]
theorem pixA_congr {f g : Nat → Nat → Int} (h : ∀ r c, r < 48 → c < 48 → f r c = g r c) : ∀ r, r ≤ 48 → pixA f r = pixA g r
  | 0, _ => rfl
  | r + 1, hr => by
    show pixA f r ++ _ = pixA g r ++ _
    rw [pixA_congr h r (by omega), pixR_congr (fun c hc => h r c (by omega) hc) 48 (Nat.le_refl _)]
def sp__law_is_told (C : Addr) : Sp := fun vs H Q _ => ∃ (p R : Addr) (as : List Addr) (f : Nat → Nat → Int), vs = [.ref p, .ref R] ∧ Pic C H p f ∧ RdRows H R as f ∧ ∀ H', Same H H' → Q (.bl true) H'
section
theorem ok__law_is_told {P : Program} {w : World} {K : PySem.W.Frag} {mg : Str → Option Value} {base : Heap} {A : Nat → Addr} {D : Nat → FuncData} (T : Txt K mg A D) : FnOk P w K mg base (L2.CX P w) 2 (A 55) (D 55) ["picture", "rows"] (sp__law_is_told (A 2)) := by
  refine T.F__law_is_told.okX sc__law_is_told (fun vs H Q E h => ?_) (fun cdv A' outer s H vs Q E hr h => ?_)
  · obtain ⟨p, R, as, f, rfl, _⟩ := h
    rfl
  obtain ⟨p, R, as, f, rfl, P, rd, q⟩ := h
  refine ⟨_, (pss_cons (ps_set (i := 2) sc__law_is_told.nd rfl (.inl rfl) pe_int)
  (pss_cons (ps_set (i := 3) sc__law_is_told.nd rfl (.inl rfl) (pe_lst pa_nil))
  (pss_cons (ps_for (passes_of rfl) rfl (pi_range1 (by rfl) T.z_range (pa_cons pe_int pa_nil)) (pg_name (i := 4) sc__law_is_told.nd rfl (.inl rfl))
  (pss_cons (ps_set (i := 2) sc__law_is_told.nd rfl (.inl rfl) (pe_op op_add (pv 2) (pe_callB (cr_sum rfl) (by rfl) T.z_sum (by decide +kernel) (pa_cons (pe_ix ix_list (pv 1) (pv 4) (fun _ _ => rfl)) pa_nil))))
  (pss_one (ps_for (passes_of rfl) rfl (pi_range1 (by rfl) T.z_range (pa_cons pe_int pa_nil)) (pg_name (i := 5) sc__law_is_told.nd rfl (.inl rfl))
  (pss_one (ps_if (pt_cmpR op_gt (pe_ix ix_list (pe_ix ix_list (pv 1) (pv 4) (fun _ _ => rfl)) (pv 5) (fun _ _ => rfl)) pe_int (nomark _))
  (pss_one (ps_expr (pe_bm PySem.F.plainAttrs_list PySem.F.slot_list_append PySem.F.type_list_append mt_append (pv 3) (pa_cons (pe_tup (pa_cons (pe_op op_sub (pv 5) pe_int) (pa_cons (pe_op op_sub (pv 4) pe_int) pa_nil))) pa_nil))))
  pss_nil))))))
  (pss_one (ps_ret (pe_and (pe_cmpR op_eq (pe_meth0 (pv 0) T.q_Picture T.m_Picture_total (ok_Picture_total T) (hr.mono (by decide)) T.b_Picture_total .nil (passes_call (takes_of rfl rfl rfl rfl) (fun _ _ _ _ h => h))) (pv 2) (nomark _)) (pe_and (pe_cmpR (op_eqD hr.units) (pe_meth0 (pv 0) T.q_Picture T.m_Picture_on_pixels (ok_Picture_on_pixels T) (hr.mono (by decide)) T.b_Picture_on_pixels .nil (passes_call (takes_of rfl rfl rfl rfl) (fun _ _ _ _ h => h))) (pv 3) (nomark _)) (pe_one (pe_call (ok__law_same_rows T) (hr.mono (by decide)) (by rfl) T.m__law_same_rows T.F__law_same_rows.kp T.b__law_same_rows .nil (passes_call (takes_of rfl rfl rfl rfl) (fun _ _ _ _ h => h)) (pa_cons (pe_meth0 (pv 0) T.q_Picture T.m_Picture_rows (ok_Picture_rows T) (hr.mono (by decide)) T.b_Picture_rows .nil (passes_call (takes_of rfl rfl rfl rfl) (fun _ _ _ _ h => h))) (pa_cons (pv 1) pa_nil))))))))))), ?_⟩
  obtain ⟨_, _, _, eP, _⟩ := id P
  walk_at "z"
  intro l H1 f1 s1 h1
  walk_at "z"
  refine z_forR1 48 (by decide) (fun R q => by walk_at "z"; exact q)
    (fun i σ' H' => Same H H' ∧ ∃ (ws : List V) (u4 u5 : Option V), σ' = [some (.ref p), some (.ref R), some (.int (totR f i)), some (.ref l), u4, u5] ∧ H' l = some (.lst ws) ∧ Gs K H' ws (pixA f i)) ⟨s1, [], _, _, rfl, h1, trivial⟩ ?_ ?_
  · rintro i σ' H2 hi ⟨s2, ws, u4, u5, rfl, h2, g2⟩
    obtain ⟨a, ha, hma, hra⟩ := row_at rd hi
    walk_at "z"
    refine z_ixL (.inl (.inl (s2 _ _ rd.1))) (atI_nat hma) ?_
    walk_at "z"
    refine Cw.z_sum (.inl (.inl (s2 _ _ hra))) ?_
    walk_at "z"
    rw [← totR_s]
    refine z_forR1 48 (by decide) (fun R q => by walk_at "z"; exact q)
      (fun j σ' H' => Same H H' ∧ ∃ (ws : List V) (u5 : Option V), σ' = [some (.ref p), some (.ref R), some (.int (totR f (i + 1))), some (.ref l), some (.int (i : Int)), u5] ∧ H' l = some (.lst ws) ∧ Gs K H' ws (pixA f i ++ pixR f i j)) ⟨s2, ws, _, rfl, h2, ?_⟩ ?_ ?_
    · show Gs K H2 ws (pixA f i ++ [])
      rw [List.append_nil]
      exact g2
    · rintro j σ' H4 hj ⟨s4, ws, u5, rfl, h4, g4⟩
      walk_at "z"
      refine z_ixL (.inl (.inl (s4 _ _ rd.1))) (atI_nat hma) ?_
      walk_at "z"
      refine z_ixL (.inl (.inl (s4 _ _ hra))) (cell_at f i hj) ?_
      walk_at "z"
      refine z_if (fun k => ?_) (fun k => ?_)
      · walk_at "z"
        refine z_bmL (fun R q => by walk_at "z"; exact q) h4 ?_
        walk_at "z"
        intro t3 H6 f6 s6 h6
        have h6l := s6 _ _ h4
        have lw : ws.length ≤ 48 * 48 + 48 := by
          have l1 := pixA_len f i
          have l2 := pixR_len f i j
          rw [g4.len, List.length_append]
          omega
        walk_at "z"
        refine z_appendW h6l (by omega) ?_
        have kk : Kp l H6 (upd H6 l (.lst (ws ++ [.ref t3]))) := fun b o hb e => by
          rw [upd_ne hb]
          exact e
        refine ⟨same_put (s4.trans s6) f1, ws ++ [.ref t3], _, rfl, upd_same, ?_⟩
        have e1 : pixR f i (j + 1) = pixR f i j ++ [((j : Int) - 8, (i : Int) - 16)] := by
          show pixR f i j ++ _ = _
          rw [if_pos k]
        rw [e1, ← List.append_assoc]
        exact Gs.kp kk h6l ((g4.mono s6).app (gs_one (dp_mkg h6)))
      · walk_at "z"
        refine ⟨s4, ws, _, rfl, h4, ?_⟩
        have e1 : pixR f i (j + 1) = pixR f i j := by
          show pixR f i j ++ _ = _
          rw [if_neg k, List.append_nil]
        rw [e1]
        exact g4
    · rintro σ' H4 ⟨s4, ws, u5, rfl, h4, g4⟩
      exact ⟨s4, ws, _, _, rfl, h4, g4⟩
  · rintro σ' H2 ⟨s2, ws, u4, u5, rfl, h2, g2⟩
    walk_at "z"
    refine Cw.z_meth (s2 _ _ eP) (Cw.look1n (by decide +kernel)) ?_
    walk_at "z"
    refine ⟨p, f, rfl, P.mono s2, fun H3 s3 => ?_⟩
    rw [show tot f = totR f 48 from rfl]
    walk_at "z"
    refine z_if (fun _ => ?_) (fun h => absurd rfl h)
    have s23 := s2.trans s3
    walk_at "z"
    refine Cw.z_meth (s23 _ _ eP) (Cw.look1n (by decide +kernel)) ?_
    walk_at "z"
    refine ⟨p, f, rfl, P.mono s23, fun D H4 ws4 f4 s4 h4 g4 => ?_⟩
    walk_at "z"
    refine z_eqSame (dp_gs h4 g4) (dp_gs (s4 _ _ (s3 _ _ h2)) ((g2.mono s3).mono s4)) (shaped_gs _) ?_
    walk_at "z"
    have s24 := s23.trans s4
    refine Cw.z_meth (s24 _ _ eP) (Cw.look1n (by decide +kernel)) ?_
    walk_at "z"
    refine ⟨p, f, rfl, P.mono s24, fun Ra H5 as5 s5 ow5 => ?_⟩
    walk_at "z"
    refine ⟨Ra, R, as5, as, f, f, rfl, ow5.1, rd.mono (s24.trans s5), fun _ _ _ _ => rfl, ?_⟩
    exact q H5 (s24.trans s5)
end
/-! ### rows as data -/
def rowsD (f : Nat → Nat → Int) : PyData := .list ((List.range 48).map fun r => .list ((mrow f r).map .int))
theorem dpa_of {K : PySem.W.Frag} {H : Hp} : ∀ {vs : List V} {ds : List PyData}, vs.length = ds.length → (∀ (i : Nat) v d, vs[i]? = some v → ds[i]? = some d → Dp K H v d) → DpAll K H vs ds
  | [], [], _, _ => .nil
  | [], _ :: _, h, _ => by simp at h
  | _ :: _, [], h, _ => by simp at h
  | v :: vs, d :: ds, h, k => .cons (k 0 v d rfl rfl) (dpa_of (by simpa using h) fun i v' d' h1 h2 => k (i + 1) v' d' h1 h2)
theorem dp_rows {K : PySem.W.Frag} {H : Hp} {R : Addr} {as : List Addr} {f : Nat → Nat → Int} (rd : RdRows H R as f) : Dp K H (.ref R) (rowsD f) := by
  refine .lst (.inl (.inl rd.1)) (dpa_of (by rw [List.length_map, List.length_map, List.length_range, rd.2.1]) fun i v d hv hd => ?_)
  rw [List.getElem?_map] at hv hd
  obtain ⟨a, ha, rfl⟩ := Option.map_eq_some_iff.mp hv
  obtain ⟨r, hr, rfl⟩ := Option.map_eq_some_iff.mp hd
  have : r = i := by
    have h := (List.getElem?_eq_some_iff.mp hr).2
    rw [List.getElem_range] at h
    exact h.symm
  subst this
  exact dp_ints (rd.2.2 r a ha)
theorem lay_ints : ∀ ns : List Int, PyData.canLayAll0 (ns.map PyData.int) = true ∧ PyData.depthAll (ns.map PyData.int) = 0
  | [] => ⟨rfl, rfl⟩
  | n :: ns => by
    obtain ⟨h1, h2⟩ := lay_ints ns
    refine ⟨?_, ?_⟩
    · show (PyData.canLay0 (.int n) && PyData.canLayAll0 (ns.map PyData.int)) = true
      rw [h1]
      rfl
    · show max (PyData.depth (.int n)) (PyData.depthAll (ns.map PyData.int)) = 0
      rw [h2]
      rfl
theorem lay_rows (f : Nat → Nat → Int) : ∀ rs : List Nat, PyData.canLayAll0 (rs.map fun r => PyData.list ((mrow f r).map .int)) = true ∧ PyData.depthAll (rs.map fun r => PyData.list ((mrow f r).map .int)) ≤ 1
  | [] => ⟨rfl, Nat.zero_le 1⟩
  | r :: rs => by
    obtain ⟨h1, h2⟩ := lay_rows f rs
    obtain ⟨k1, k2⟩ := lay_ints (mrow f r)
    refine ⟨?_, ?_⟩
    · show (PyData.canLayAll0 ((mrow f r).map PyData.int) && PyData.canLayAll0 (rs.map fun r => PyData.list ((mrow f r).map .int))) = true
      rw [h1, k1]
      rfl
    · show max (PyData.depthAll ((mrow f r).map PyData.int) + 1) (PyData.depthAll (rs.map fun r => PyData.list ((mrow f r).map .int))) ≤ 1
      rw [k2]
      omega
theorem shaped_rows (f : Nat → Nat → Int) : SeqAt.shaped (rowsD f) = true := by
  obtain ⟨h1, h2⟩ := lay_rows f (List.range 48)
  unfold SeqAt.shaped
  rw [Bool.and_eq_true]
  refine ⟨h1, decide_eq_true ?_⟩
  show PyData.depthAll ((List.range 48).map fun r => PyData.list ((mrow f r).map .int)) + 1 ≤ 64
  omega
def sp_law (K : PySem.W.Frag) : Sp := fun vs H Q _ => ∃ (a : Addr) (ns : List Int), vs = [.ref a] ∧ SqL K H a (ns.map V.int) ∧ ns.length ≤ 63 ∧ ∀ H', Q (.bl true) H'
section
theorem ok_law {P : Program} {w : World} {K : PySem.W.Frag} {mg : Str → Option Value} {base : Heap} {A : Nat → Addr} {D : Nat → FuncData} (T : Txt K mg A D) : FnOk P w K mg base CX0 8 (A 56) (D 56) ["script"] (sp_law K) := by
  refine T.F_law.ok sc_law (fun vs H Q E h => ?_) (fun cdv A' outer s H vs Q E hr h => ?_)
  · obtain ⟨l, ns, rfl, _⟩ := h
    rfl
  obtain ⟨l, ns, rfl, hS, _, q⟩ := h
  refine ⟨_, (pss_cons (ps_set (i := 1) sc_law.nd rfl (.inl rfl) (pe_lst (pa_cons (pe_make0 T.M_Picture (ok_Picture___init__ T) (hr.mono (by decide)) (by rfl) T.g_Picture T.b_Picture___init__ .nil passL) (pa_cons (pe_make0 T.M_Picture (ok_Picture___init__ T) (hr.mono (by decide)) (by rfl) T.g_Picture T.b_Picture___init__ .nil passL) pa_nil))))
  (pss_cons (ps_set (i := 2) sc_law.nd rfl (.inl rfl) (pe_lst (pa_cons (pe_call0 (ok__law_blank T) (hr.mono (by decide)) (by rfl) T.m__law_blank T.F__law_blank.kp T.b__law_blank .nil passL) (pa_cons (pe_call0 (ok__law_blank T) (hr.mono (by decide)) (by rfl) T.m__law_blank T.F__law_blank.kp T.b__law_blank .nil passL) pa_nil))))
  (pss_cons (ps_for PassesOwn.never rfl (pi_list (pe_slice sl_list (pv 0) po_none (po_some pe_int))) (pg_name (i := 3) sc_law.nd rfl (.inl rfl))
  (pss_cons (ps_if (pt_not (pt_val (pe_call (ok__law_deed T) (hr.mono (by decide)) (by rfl) T.m__law_deed T.F__law_deed.kp T.b__law_deed .nil passL (pa_cons (pv 1) (pa_cons (pv 2) (pa_cons (pe_call (ok__law_stream T) (hr.mono (by decide)) (by rfl) T.m__law_stream T.F__law_stream.kp T.b__law_stream .nil passL (pa_cons (pv 3) pa_nil)) pa_nil))))))
  (pss_one (ps_ret pe_bl))
  pss_nil)
  (pss_one (ps_for PassesOwn.never rfl (pi_range1 (by rfl) T.z_range (pa_cons pe_int pa_nil)) (pg_name (i := 4) sc_law.nd rfl (.inl rfl))
  (pss_one (ps_if (pt_cmpR (op_neD hr.units) (pe_meth0 (pe_ix ix_list (pv 1) (pv 4) (fun _ _ => rfl)) T.q_Picture T.m_Picture_rows (ok_Picture_rows T) (hr.mono (by decide)) T.b_Picture_rows .nil passL) (pe_ix ix_list (pv 2) (pv 4) (fun _ _ => rfl)) (nomark _))
  (pss_one (ps_ret pe_bl))
  pss_nil))))))
  (pss_one (ps_ret (pe_and (pe_call (ok__law_is_told T) (hr.mono (by decide)) (by rfl) T.m__law_is_told T.F__law_is_told.kp T.b__law_is_told .nil passL (pa_cons (pe_ix ix_list (pv 1) pe_int (fun _ _ => rfl)) (pa_cons (pe_ix ix_list (pv 2) pe_int (fun _ _ => rfl)) pa_nil))) (pe_one (pe_call (ok__law_is_told T) (hr.mono (by decide)) (by rfl) T.m__law_is_told T.F__law_is_told.kp T.b__law_is_told .nil passL (pa_cons (pe_ix ix_list (pv 1) pe_int (fun _ _ => rfl)) (pa_cons (pe_ix ix_list (pv 2) pe_int (fun _ _ => rfl)) pa_nil)))))))))), ?_⟩
  walk_at "z"
  intro x0 d0 fx0 fd0 ne0
  refine pic_new fx0 fd0 fun H1 s1 P0 => ⟨rfl, ?_⟩
  walk_at "z"
  intro x1 d1 fx1 fd1 ne1
  refine pic_new fx1 fd1 fun H2 s2 P1 => ⟨rfl, ?_⟩
  walk_at "z"
  intro PL H3 f3 s3 h3
  walk_at "z"
  refine ⟨rfl, fun R0 H4 as0 s4 ow0 => ?_⟩
  walk_at "z"
  refine ⟨rfl, fun R1 H5 as1 s5 ow1 => ?_⟩
  walk_at "z"
  intro ML H6 f6 s6 h6
  walk_at "z"
  have n01 : x0 ≠ x1 := by
    obtain ⟨_, _, _, e, _⟩ := P0
    exact ne_of_none e fx1
  have W : PSt (A 2) H6 PL ML (put2 (fun _ => x1) 0 x0) (fun _ _ _ => 0) (put2 (fun _ => R1) 0 R0) (put2 (fun _ => as1) 0 as0) (fun _ _ _ => 0) := by
    refine ⟨s6 _ _ (s5 _ _ (s4 _ _ h3)), h6, fun k hk => ?_, fun k hk => ?_, fun k hk r c _ _ => ⟨show (-9999 : Int) ≤ 0 by decide, show (0 : Int) ≤ 9999 by decide⟩, n01⟩
    · match k, hk with
      | 0, _ => exact ((((P0.mono s2).mono s3).mono s4).mono s5).mono s6
      | 1, _ => exact (((P1.mono s3).mono s4).mono s5).mono s6
    · match k, hk with
      | 0, _ => exact (ow0.1.mono s5).mono s6
      | 1, _ => exact ow1.1.mono s6
  have sH6 := ((((s1.trans s2).trans s3).trans s4).trans s5).trans s6
  have hS6 := sH6.seq hS
  generalize (put2 (fun _ => x1) 0 x0 : Nat → Addr) = x at W
  generalize (put2 (fun _ => R1) 0 R0 : Nat → Addr) = R at W
  generalize (put2 (fun _ => as1) 0 as0 : Nat → List Addr) = as at W
  generalize (fun _ _ _ => 0 : Nat → Nat → Nat → Int) = f at W
  clear n01 P0 P1 ow0 ow1 h3 h6 fx0 fd0 fx1 fd1 ne0 ne1 f3 f6 hS sH6 s1 s2 s3 s4 s5 s6
  refine z_forE ?_
  walk_at "z"
  refine ⟨_, rfl, ?_⟩
  walk_at "z"
  refine z_slL hS6 rfl fun sl H7 f7 s7 h7 => ?_
  have W7 := W.mono s7
  have nsl : sl ∉ [PL, ML, x 0, x 1] := fun m => by
    have no : ∀ b o, H6 b = some o → sl ≠ b := fun b o e z => by rw [z, e] at f7; cases f7
    obtain ⟨_, _, _, p0, _⟩ := W.pic 0 (by decide)
    obtain ⟨_, _, _, p1, _⟩ := W.pic 1 (by decide)
    simp only [List.mem_cons, List.not_mem_nil, or_false] at m
    rcases m with z | z | z | z
    · exact no _ _ W.pl z
    · exact no _ _ W.ml z
    · exact no _ _ p0 z
    · exact no _ _ p1 z
  have allI : ∀ v ∈ cutV (ns.map V.int) none (some 30), ∃ c, v = .int c := fun v hv => by
    unfold cutV at hv
    obtain ⟨c, _, rfl⟩ := List.mem_map.mp (List.mem_of_mem_drop (List.mem_of_mem_take hv))
    exact ⟨c, rfl⟩
  generalize cutV (ns.map V.int) none (some 30) = cs at h7 allI
  clear W hS6 f7 s7
  unfold ForL
  refine z_forL (xs := cs) (fun R q => q) (.inl (.inl h7)) (fun i σ' H' => ∃ (x R : Nat → Addr) (as : Nat → List Addr) (f : Nat → Nat → Nat → Int) (u3 u4 : Option V), σ' = [some (.ref l), some (.ref PL), some (.ref ML), u3, u4] ∧ PSt (A 2) H' PL ML x f R as f ∧ H' sl = some (.lst cs) ∧ sl ∉ [PL, ML, x 0, x 1])
    ⟨x, R, as, f, _, _, rfl, W7, h7, nsl⟩ (fun i σ' H' _ ⟨_, _, _, _, _, _, _, _, h, _⟩ => .inl (.inl h)) ?_ ?_
  · clear W7 h7 nsl
    rintro i v σ' H' hx ⟨x, R, as, f, u3, u4, rfl, W, hsl, nsl⟩
    obtain ⟨c, rfl⟩ := allI v (List.mem_of_getElem? hx)
    walk_at "z"
    refine ⟨c, rfl, fun p H8 a b m hp s8 h8 => ?_⟩
    walk_at "z"
    refine ⟨PL, ML, p, x, R, as, f, rfl, ⟨a, b, m, h8⟩, W.mono s8, fun H9 x' f' R' as' kq W' hx' => ?_⟩
    have hsl8 := s8 _ _ hsl
    have hsl9 := kq sl _ nsl (ne_of_none hsl hp) hsl8
    have nsl' : sl ∉ [PL, ML, x' 0, x' 1] := fun mm => by
      simp only [List.mem_cons, List.not_mem_nil, or_false, not_or] at nsl mm
      have key : ∀ k, k < 2 → sl ≠ x k → sl ≠ x' k := fun k hk n z => by
        rcases hx' k hk with h | h
        · exact n (z.trans h)
        · rw [← z, hsl8] at h
          cases h
      rcases mm with z | z | z | z
      · exact nsl.1 z
      · exact nsl.2.1 z
      · exact key 0 (by decide) nsl.2.2.1 z
      · exact key 1 (by decide) nsl.2.2.2 z
    walk_at "z"
    refine z_forR1 2 (by decide) (fun R q => by walk_at "z"; exact q) (fun k σ' H' => Same H9 H' ∧ ∃ (u4 : Option V), σ' = [some (.ref l), some (.ref PL), some (.ref ML), some (.int c), u4]) ⟨Same.refl _, _, rfl⟩ ?_ ?_
    · rintro k σ' HA hk ⟨sA, u4, rfl⟩
      have WA := W'.mono sA
      have P := WA.pic k hk
      obtain ⟨_, _, _, eP, _⟩ := id P
      walk_at "z"
      refine z_ixL (.inl (.inl WA.pl)) (tw_at hk) ?_
      refine Cw.z_meth eP (Cw.look1n (by decide +kernel)) ?_
      walk_at "z"
      refine ⟨x' k, f' k, rfl, P, fun Ra HB asB sB owB => ?_⟩
      walk_at "z"
      refine z_ixL (.inl (.inl (sB _ _ WA.ml))) (tw_at hk) ?_
      refine z_neSame (dp_rows owB.1) (dp_rows ((WA.rd k hk).mono sB)) (shaped_rows _) ?_
      walk_at "z"
      exact ⟨sA.trans sB, _, rfl⟩
    · rintro σ' HA ⟨sA, u4, rfl⟩
      exact ⟨x', R', as', f', _, _, rfl, W'.mono sA, sA _ _ hsl9, nsl'⟩
  · rintro σ' H' ⟨x, R, as, f, u3, u4, rfl, W, hsl, nsl⟩
    walk_at "z"
    refine z_ixL (.inl (.inl W.pl)) (tw_at (j := 0) (by decide)) ?_
    walk_at "z"
    refine z_ixL (.inl (.inl W.ml)) (tw_at (j := 0) (by decide)) ?_
    walk_at "z"
    refine ⟨x 0, R 0, as 0, f 0, rfl, W.pic 0 (by decide), W.rd 0 (by decide), fun HA sA => ?_⟩
    have WA := W.mono sA
    walk_at "z"
    refine z_ixL (.inl (.inl WA.pl)) (tw_at (j := 1) (by decide)) ?_
    walk_at "z"
    refine z_ixL (.inl (.inl WA.ml)) (tw_at (j := 1) (by decide)) ?_
    walk_at "z"
    refine ⟨x 1, R 1, as 1, f 1, rfl, WA.pic 1 (by decide), WA.rd 1 (by decide), fun HB sB => ?_⟩
    exact q _
end

theorem all_mk {l : PySem.W.OpenLaw} {w : World} {K : PySem.W.Frag} {h : Heap} {mg : Str → Option Value} {fa : Addr} (X : K.In h) (G : h.Ns mainGlobals mg) (hfa : mg "law" = some (.ref fa))
    {a3 : Addr} {od3 an3 : Option Addr} {sl3 : Array (Option Value)} {oc3 kV3 dc3 pm3 cd3 ct3 : Value} {a4 : Addr} {od4 an4 : Option Addr} {sl4 : Array (Option Value)} {oc4 kV4 dc4 pm4 cd4 ct4 : Value} {a5 : Addr} {od5 an5 : Option Addr} {sl5 : Array (Option Value)} {oc5 kV5 dc5 pm5 cd5 ct5 : Value} {a6 : Addr} {od6 an6 : Option Addr} {sl6 : Array (Option Value)} {oc6 kV6 dc6 pm6 cd6 ct6 : Value} {a7 : Addr} {od7 an7 : Option Addr} {sl7 : Array (Option Value)} {oc7 kV7 dc7 pm7 cd7 ct7 : Value} {a8 : Addr} {od8 an8 : Option Addr} {sl8 : Array (Option Value)} {oc8 kV8 dc8 pm8 cd8 ct8 : Value} {a9 : Addr} {od9 an9 : Option Addr} {sl9 : Array (Option Value)} {oc9 kV9 dc9 pm9 cd9 ct9 : Value} {a10 : Addr} {od10 an10 : Option Addr} {sl10 : Array (Option Value)} {oc10 kV10 dc10 pm10 cd10 ct10 : Value} {a11 : Addr} {od11 an11 : Option Addr} {sl11 : Array (Option Value)} {oc11 kV11 dc11 pm11 cd11 ct11 : Value} {a12 : Addr} {od12 an12 : Option Addr} {sl12 : Array (Option Value)} {oc12 kV12 dc12 pm12 cd12 ct12 : Value} {a13 : Addr} {od13 an13 : Option Addr} {sl13 : Array (Option Value)} {oc13 kV13 dc13 pm13 cd13 ct13 : Value} {a14 : Addr} {od14 an14 : Option Addr} {sl14 : Array (Option Value)} {oc14 dc14 pm14 cd14 ct14 : Value} {kd14 : Addr} {kt14_factor : Tok} {a15 : Addr} {od15 an15 : Option Addr} {sl15 : Array (Option Value)} {oc15 kV15 dc15 pm15 cd15 ct15 : Value} {a16 : Addr} {od16 an16 : Option Addr} {sl16 : Array (Option Value)} {oc16 kV16 dc16 pm16 cd16 ct16 : Value} {a17 : Addr} {od17 an17 : Option Addr} {sl17 : Array (Option Value)} {oc17 kV17 dc17 pm17 cd17 ct17 : Value} {a18 : Addr} {od18 an18 : Option Addr} {sl18 : Array (Option Value)} {oc18 kV18 dc18 pm18 cd18 ct18 : Value} {a19 : Addr} {od19 an19 : Option Addr} {sl19 : Array (Option Value)} {oc19 kV19 dc19 pm19 cd19 ct19 : Value} {a20 : Addr} {od20 an20 : Option Addr} {sl20 : Array (Option Value)} {oc20 kV20 dc20 pm20 cd20 ct20 : Value} {a21 : Addr} {od21 an21 : Option Addr} {sl21 : Array (Option Value)} {oc21 kV21 dc21 pm21 cd21 ct21 : Value} {a22 : Addr} {od22 an22 : Option Addr} {sl22 : Array (Option Value)} {oc22 kV22 dc22 pm22 cd22 ct22 : Value} {a23 : Addr} {od23 an23 : Option Addr} {sl23 : Array (Option Value)} {oc23 kV23 dc23 pm23 cd23 ct23 : Value} {a24 : Addr} {od24 an24 : Option Addr} {sl24 : Array (Option Value)} {oc24 kV24 dc24 pm24 cd24 ct24 : Value} {a25 : Addr} {od25 an25 : Option Addr} {sl25 : Array (Option Value)} {oc25 kV25 dc25 pm25 cd25 ct25 : Value} {a26 : Addr} {od26 an26 : Option Addr} {sl26 : Array (Option Value)} {oc26 kV26 dc26 pm26 cd26 ct26 : Value} {a27 : Addr} {od27 an27 : Option Addr} {sl27 : Array (Option Value)} {oc27 kV27 dc27 pm27 cd27 ct27 : Value} {a28 : Addr} {od28 an28 : Option Addr} {sl28 : Array (Option Value)} {oc28 kV28 dc28 pm28 cd28 ct28 : Value} {a29 : Addr} {od29 an29 : Option Addr} {sl29 : Array (Option Value)} {oc29 kV29 dc29 pm29 cd29 ct29 : Value} {a30 : Addr} {od30 an30 : Option Addr} {sl30 : Array (Option Value)} {oc30 kV30 dc30 pm30 cd30 ct30 : Value} {a31 : Addr} {od31 an31 : Option Addr} {sl31 : Array (Option Value)} {oc31 kV31 dc31 pm31 cd31 ct31 : Value} {a32 : Addr} {od32 an32 : Option Addr} {sl32 : Array (Option Value)} {oc32 kV32 dc32 pm32 cd32 ct32 : Value} {a33 : Addr} {od33 an33 : Option Addr} {sl33 : Array (Option Value)} {oc33 kV33 dc33 pm33 cd33 ct33 : Value} {a34 : Addr} {od34 an34 : Option Addr} {sl34 : Array (Option Value)} {oc34 kV34 dc34 pm34 cd34 ct34 : Value} {a35 : Addr} {od35 an35 : Option Addr} {sl35 : Array (Option Value)} {oc35 kV35 dc35 pm35 cd35 ct35 : Value} {a36 : Addr} {od36 an36 : Option Addr} {sl36 : Array (Option Value)} {oc36 kV36 dc36 pm36 cd36 ct36 : Value} {a37 : Addr} {od37 an37 : Option Addr} {sl37 : Array (Option Value)} {oc37 kV37 dc37 pm37 cd37 ct37 : Value} {a38 : Addr} {od38 an38 : Option Addr} {sl38 : Array (Option Value)} {oc38 kV38 dc38 pm38 cd38 ct38 : Value} {a39 : Addr} {od39 an39 : Option Addr} {sl39 : Array (Option Value)} {oc39 kV39 dc39 pm39 cd39 ct39 : Value} {a40 : Addr} {od40 an40 : Option Addr} {sl40 : Array (Option Value)} {oc40 kV40 dc40 pm40 cd40 ct40 : Value} {a41 : Addr} {od41 an41 : Option Addr} {sl41 : Array (Option Value)} {oc41 kV41 dc41 pm41 cd41 ct41 : Value} {a42 : Addr} {od42 an42 : Option Addr} {sl42 : Array (Option Value)} {oc42 kV42 dc42 pm42 cd42 ct42 : Value} {a43 : Addr} {od43 an43 : Option Addr} {sl43 : Array (Option Value)} {oc43 kV43 dc43 pm43 cd43 ct43 : Value} {a44 : Addr} {od44 an44 : Option Addr} {sl44 : Array (Option Value)} {oc44 kV44 dc44 pm44 cd44 ct44 : Value} {a45 : Addr} {od45 an45 : Option Addr} {sl45 : Array (Option Value)} {oc45 kV45 dc45 pm45 cd45 ct45 : Value} {a46 : Addr} {od46 an46 : Option Addr} {sl46 : Array (Option Value)} {oc46 kV46 dc46 pm46 cd46 ct46 : Value} {a47 : Addr} {od47 an47 : Option Addr} {sl47 : Array (Option Value)} {oc47 kV47 dc47 pm47 cd47 ct47 : Value} {a48 : Addr} {od48 an48 : Option Addr} {sl48 : Array (Option Value)} {oc48 kV48 dc48 pm48 cd48 ct48 : Value} {a49 : Addr} {od49 an49 : Option Addr} {sl49 : Array (Option Value)} {oc49 kV49 dc49 pm49 cd49 ct49 : Value} {a50 : Addr} {od50 an50 : Option Addr} {sl50 : Array (Option Value)} {oc50 kV50 dc50 pm50 cd50 ct50 : Value} {a51 : Addr} {od51 an51 : Option Addr} {sl51 : Array (Option Value)} {oc51 kV51 dc51 pm51 cd51 ct51 : Value} {a52 : Addr} {od52 an52 : Option Addr} {sl52 : Array (Option Value)} {oc52 kV52 dc52 pm52 cd52 ct52 : Value} {a53 : Addr} {od53 an53 : Option Addr} {sl53 : Array (Option Value)} {oc53 kV53 dc53 pm53 cd53 ct53 : Value} {a54 : Addr} {od54 an54 : Option Addr} {sl54 : Array (Option Value)} {oc54 kV54 dc54 pm54 cd54 ct54 : Value} {a55 : Addr} {od55 an55 : Option Addr} {sl55 : Array (Option Value)} {oc55 kV55 dc55 pm55 cd55 ct55 : Value} {a56 : Addr} {od56 an56 : Option Addr} {sl56 : Array (Option Value)} {oc56 kV56 dc56 pm56 cd56 ct56 : Value} {a2 : Addr} {a0 : Addr} {a1 : Addr} {t_LEFT : Tok} {t_BOTTOM : Tok} {t_SIZE : Tok} {t_PIXEL : Tok} {t_HALF_PIXEL : Tok} {t_GREATEST_WEIGHT : Tok}
    (n3 : PySem.W.nsIn K mainGlobals "lines" = some (some (.ref a3)))
    (l3 : K.lookup a3 = some ⟨oc3, od3, .func (PySem.W.fnOf "lines" "lines" (defArgs s_lines) (defBody s_lines) (defScope s_lines) .none kV3 dc3 pm3 an3 cd3 ct3), sl3⟩)
    (c3 : PySem.W.codeIn K cd3 "lines" = true) (k3 : PySem.W.keepIn K (.ref a3) = true)
    (n4 : PySem.W.nsIn K mainGlobals "blank_rows" = some (some (.ref a4)))
    (l4 : K.lookup a4 = some ⟨oc4, od4, .func (PySem.W.fnOf "blank_rows" "blank_rows" (defArgs s_blank_rows) (defBody s_blank_rows) (defScope s_blank_rows) .none kV4 dc4 pm4 an4 cd4 ct4), sl4⟩)
    (c4 : PySem.W.codeIn K cd4 "blank_rows" = true) (k4 : PySem.W.keepIn K (.ref a4) = true)
    (n5 : PySem.W.nsIn K mainGlobals "fill_rows" = some (some (.ref a5)))
    (l5 : K.lookup a5 = some ⟨oc5, od5, .func (PySem.W.fnOf "fill_rows" "fill_rows" (defArgs s_fill_rows) (defBody s_fill_rows) (defScope s_fill_rows) .none kV5 dc5 pm5 an5 cd5 ct5), sl5⟩)
    (c5 : PySem.W.codeIn K cd5 "fill_rows" = true) (k5 : PySem.W.keepIn K (.ref a5) = true)
    (n6 : PySem.W.nsIn K mainGlobals "changes_of" = some (some (.ref a6)))
    (l6 : K.lookup a6 = some ⟨oc6, od6, .func (PySem.W.fnOf "changes_of" "changes_of" (defArgs s_changes_of) (defBody s_changes_of) (defScope s_changes_of) .none kV6 dc6 pm6 an6 cd6 ct6), sl6⟩)
    (c6 : PySem.W.codeIn K cd6 "changes_of" = true) (k6 : PySem.W.keepIn K (.ref a6) = true)
    (n7 : PySem.W.nsIn K mainGlobals "changes_at_line" = some (some (.ref a7)))
    (l7 : K.lookup a7 = some ⟨oc7, od7, .func (PySem.W.fnOf "changes_at_line" "changes_at_line" (defArgs s_changes_at_line) (defBody s_changes_at_line) (defScope s_changes_at_line) .none kV7 dc7 pm7 an7 cd7 ct7), sl7⟩)
    (c7 : PySem.W.codeIn K cd7 "changes_at_line" = true) (k7 : PySem.W.keepIn K (.ref a7) = true)
    (n8 : PySem.W.nsIn K mainGlobals "first_center" = some (some (.ref a8)))
    (l8 : K.lookup a8 = some ⟨oc8, od8, .func (PySem.W.fnOf "first_center" "first_center" (defArgs s_first_center) (defBody s_first_center) (defScope s_first_center) .none kV8 dc8 pm8 an8 cd8 ct8), sl8⟩)
    (c8 : PySem.W.codeIn K cd8 "first_center" = true) (k8 : PySem.W.keepIn K (.ref a8) = true)
    (n9 : PySem.W.nsIn K mainGlobals "first_position" = some (some (.ref a9)))
    (l9 : K.lookup a9 = some ⟨oc9, od9, .func (PySem.W.fnOf "first_position" "first_position" (defArgs s_first_position) (defBody s_first_position) (defScope s_first_position) .none kV9 dc9 pm9 an9 cd9 ct9), sl9⟩)
    (c9 : PySem.W.codeIn K cd9 "first_position" = true) (k9 : PySem.W.keepIn K (.ref a9) = true)
    (n10 : PySem.W.nsIn K mainGlobals "rows_of" = some (some (.ref a10)))
    (l10 : K.lookup a10 = some ⟨oc10, od10, .func (PySem.W.fnOf "rows_of" "rows_of" (defArgs s_rows_of) (defBody s_rows_of) (defScope s_rows_of) .none kV10 dc10 pm10 an10 cd10 ct10), sl10⟩)
    (c10 : PySem.W.codeIn K cd10 "rows_of" = true) (k10 : PySem.W.keepIn K (.ref a10) = true)
    (n11 : PySem.W.nsIn K mainGlobals "running_sums" = some (some (.ref a11)))
    (l11 : K.lookup a11 = some ⟨oc11, od11, .func (PySem.W.fnOf "running_sums" "running_sums" (defArgs s_running_sums) (defBody s_running_sums) (defScope s_running_sums) .none kV11 dc11 pm11 an11 cd11 ct11), sl11⟩)
    (c11 : PySem.W.codeIn K cd11 "running_sums" = true) (k11 : PySem.W.keepIn K (.ref a11) = true)
    (n12 : PySem.W.findIn K (.ref a2) "__init__" = some (some (.ref a12))) (fn12 : PySem.W.isFn K (.ref a12) = true)
    (l12 : K.lookup a12 = some ⟨oc12, od12, .func (PySem.W.fnOf "__init__" "Picture.__init__" (defArgs s_Picture___init__) (defBody s_Picture___init__) (defScope s_Picture___init__) .none kV12 dc12 pm12 an12 cd12 ct12), sl12⟩)
    (c12 : PySem.W.codeIn K cd12 "Picture.__init__" = true) (k12 : PySem.W.keepIn K (.ref a12) = true)
    (n13 : PySem.W.findIn K (.ref a2) "rows" = some (some (.ref a13))) (fn13 : PySem.W.isFn K (.ref a13) = true)
    (l13 : K.lookup a13 = some ⟨oc13, od13, .func (PySem.W.fnOf "rows" "Picture.rows" (defArgs s_Picture_rows) (defBody s_Picture_rows) (defScope s_Picture_rows) .none kV13 dc13 pm13 an13 cd13 ct13), sl13⟩)
    (c13 : PySem.W.codeIn K cd13 "Picture.rows" = true) (k13 : PySem.W.keepIn K (.ref a13) = true)
    (n14 : PySem.W.findIn K (.ref a2) "add_rows" = some (some (.ref a14))) (fn14 : PySem.W.isFn K (.ref a14) = true)
    (l14 : K.lookup a14 = some ⟨oc14, od14, .func (PySem.W.fnOf "add_rows" "Picture.add_rows" (defArgs s_Picture_add_rows) (defBody s_Picture_add_rows) (defScope s_Picture_add_rows) .none (.ref kd14) dc14 pm14 an14 cd14 ct14), sl14⟩)
    (c14 : PySem.W.codeIn K cd14 "Picture.add_rows" = true) (k14 : PySem.W.keepIn K (.ref a14) = true)
    (kw14_factor : PySem.W.nsIn K kd14 "factor" = some (some (.int 1 kt14_factor)))
    (n15 : PySem.W.findIn K (.ref a2) "wipe" = some (some (.ref a15))) (fn15 : PySem.W.isFn K (.ref a15) = true)
    (l15 : K.lookup a15 = some ⟨oc15, od15, .func (PySem.W.fnOf "wipe" "Picture.wipe" (defArgs s_Picture_wipe) (defBody s_Picture_wipe) (defScope s_Picture_wipe) .none kV15 dc15 pm15 an15 cd15 ct15), sl15⟩)
    (c15 : PySem.W.codeIn K cd15 "Picture.wipe" = true) (k15 : PySem.W.keepIn K (.ref a15) = true)
    (n16 : PySem.W.findIn K (.ref a2) "total" = some (some (.ref a16))) (fn16 : PySem.W.isFn K (.ref a16) = true)
    (l16 : K.lookup a16 = some ⟨oc16, od16, .func (PySem.W.fnOf "total" "Picture.total" (defArgs s_Picture_total) (defBody s_Picture_total) (defScope s_Picture_total) .none kV16 dc16 pm16 an16 cd16 ct16), sl16⟩)
    (c16 : PySem.W.codeIn K cd16 "Picture.total" = true) (k16 : PySem.W.keepIn K (.ref a16) = true)
    (n17 : PySem.W.findIn K (.ref a2) "on_pixels" = some (some (.ref a17))) (fn17 : PySem.W.isFn K (.ref a17) = true)
    (l17 : K.lookup a17 = some ⟨oc17, od17, .func (PySem.W.fnOf "on_pixels" "Picture.on_pixels" (defArgs s_Picture_on_pixels) (defBody s_Picture_on_pixels) (defScope s_Picture_on_pixels) .none kV17 dc17 pm17 an17 cd17 ct17), sl17⟩)
    (c17 : PySem.W.codeIn K cd17 "Picture.on_pixels" = true) (k17 : PySem.W.keepIn K (.ref a17) = true)
    (n18 : PySem.W.findIn K (.ref a2) "shifted" = some (some (.ref a18))) (fn18 : PySem.W.isFn K (.ref a18) = true)
    (l18 : K.lookup a18 = some ⟨oc18, od18, .func (PySem.W.fnOf "shifted" "Picture.shifted" (defArgs s_Picture_shifted) (defBody s_Picture_shifted) (defScope s_Picture_shifted) .none kV18 dc18 pm18 an18 cd18 ct18), sl18⟩)
    (c18 : PySem.W.codeIn K cd18 "Picture.shifted" = true) (k18 : PySem.W.keepIn K (.ref a18) = true)
    (n19 : PySem.W.findIn K (.ref a2) "__add__" = some (some (.ref a19))) (fn19 : PySem.W.isFn K (.ref a19) = true)
    (l19 : K.lookup a19 = some ⟨oc19, od19, .func (PySem.W.fnOf "__add__" "Picture.__add__" (defArgs s_Picture___add__) (defBody s_Picture___add__) (defScope s_Picture___add__) .none kV19 dc19 pm19 an19 cd19 ct19), sl19⟩)
    (c19 : PySem.W.codeIn K cd19 "Picture.__add__" = true) (k19 : PySem.W.keepIn K (.ref a19) = true)
    (n20 : PySem.W.findIn K (.ref a2) "__sub__" = some (some (.ref a20))) (fn20 : PySem.W.isFn K (.ref a20) = true)
    (l20 : K.lookup a20 = some ⟨oc20, od20, .func (PySem.W.fnOf "__sub__" "Picture.__sub__" (defArgs s_Picture___sub__) (defBody s_Picture___sub__) (defScope s_Picture___sub__) .none kV20 dc20 pm20 an20 cd20 ct20), sl20⟩)
    (c20 : PySem.W.codeIn K cd20 "Picture.__sub__" = true) (k20 : PySem.W.keepIn K (.ref a20) = true)
    (n21 : PySem.W.findIn K (.ref a2) "__neg__" = some (some (.ref a21))) (fn21 : PySem.W.isFn K (.ref a21) = true)
    (l21 : K.lookup a21 = some ⟨oc21, od21, .func (PySem.W.fnOf "__neg__" "Picture.__neg__" (defArgs s_Picture___neg__) (defBody s_Picture___neg__) (defScope s_Picture___neg__) .none kV21 dc21 pm21 an21 cd21 ct21), sl21⟩)
    (c21 : PySem.W.codeIn K cd21 "Picture.__neg__" = true) (k21 : PySem.W.keepIn K (.ref a21) = true)
    (n22 : PySem.W.nsIn K mainGlobals "is_inside" = some (some (.ref a22)))
    (l22 : K.lookup a22 = some ⟨oc22, od22, .func (PySem.W.fnOf "is_inside" "is_inside" (defArgs s_is_inside) (defBody s_is_inside) (defScope s_is_inside) .none kV22 dc22 pm22 an22 cd22 ct22), sl22⟩)
    (c22 : PySem.W.codeIn K cd22 "is_inside" = true) (k22 : PySem.W.keepIn K (.ref a22) = true)
    (n23 : PySem.W.nsIn K mainGlobals "sums" = some (some (.ref a23)))
    (l23 : K.lookup a23 = some ⟨oc23, od23, .func (PySem.W.fnOf "sums" "sums" (defArgs s_sums) (defBody s_sums) (defScope s_sums) .none kV23 dc23 pm23 an23 cd23 ct23), sl23⟩)
    (c23 : PySem.W.codeIn K cd23 "sums" = true) (k23 : PySem.W.keepIn K (.ref a23) = true)
    (n24 : PySem.W.nsIn K mainGlobals "checked" = some (some (.ref a24)))
    (l24 : K.lookup a24 = some ⟨oc24, od24, .func (PySem.W.fnOf "checked" "checked" (defArgs s_checked) (defBody s_checked) (defScope s_checked) .none kV24 dc24 pm24 an24 cd24 ct24), sl24⟩)
    (c24 : PySem.W.codeIn K cd24 "checked" = true) (k24 : PySem.W.keepIn K (.ref a24) = true)
    (n25 : PySem.W.nsIn K mainGlobals "moved_rows" = some (some (.ref a25)))
    (l25 : K.lookup a25 = some ⟨oc25, od25, .func (PySem.W.fnOf "moved_rows" "moved_rows" (defArgs s_moved_rows) (defBody s_moved_rows) (defScope s_moved_rows) .none kV25 dc25 pm25 an25 cd25 ct25), sl25⟩)
    (c25 : PySem.W.codeIn K cd25 "moved_rows" = true) (k25 : PySem.W.keepIn K (.ref a25) = true)
    (n26 : PySem.W.nsIn K mainGlobals "item_or_zero" = some (some (.ref a26)))
    (l26 : K.lookup a26 = some ⟨oc26, od26, .func (PySem.W.fnOf "item_or_zero" "item_or_zero" (defArgs s_item_or_zero) (defBody s_item_or_zero) (defScope s_item_or_zero) .none kV26 dc26 pm26 an26 cd26 ct26), sl26⟩)
    (c26 : PySem.W.codeIn K cd26 "item_or_zero" = true) (k26 : PySem.W.keepIn K (.ref a26) = true)
    (n27 : PySem.W.nsIn K mainGlobals "corners" = some (some (.ref a27)))
    (l27 : K.lookup a27 = some ⟨oc27, od27, .func (PySem.W.fnOf "corners" "corners" (defArgs s_corners) (defBody s_corners) (defScope s_corners) .none kV27 dc27 pm27 an27 cd27 ct27), sl27⟩)
    (c27 : PySem.W.codeIn K cd27 "corners" = true) (k27 : PySem.W.keepIn K (.ref a27) = true)
    (n28 : PySem.W.nsIn K mainGlobals "side" = some (some (.ref a28)))
    (l28 : K.lookup a28 = some ⟨oc28, od28, .func (PySem.W.fnOf "side" "side" (defArgs s_side) (defBody s_side) (defScope s_side) .none kV28 dc28 pm28 an28 cd28 ct28), sl28⟩)
    (c28 : PySem.W.codeIn K cd28 "side" = true) (k28 : PySem.W.keepIn K (.ref a28) = true)
    (n29 : PySem.W.nsIn K mainGlobals "turns_left" = some (some (.ref a29)))
    (l29 : K.lookup a29 = some ⟨oc29, od29, .func (PySem.W.fnOf "turns_left" "turns_left" (defArgs s_turns_left) (defBody s_turns_left) (defScope s_turns_left) .none kV29 dc29 pm29 an29 cd29 ct29), sl29⟩)
    (c29 : PySem.W.codeIn K cd29 "turns_left" = true) (k29 : PySem.W.keepIn K (.ref a29) = true)
    (n30 : PySem.W.nsIn K mainGlobals "sweep" = some (some (.ref a30)))
    (l30 : K.lookup a30 = some ⟨oc30, od30, .func (PySem.W.fnOf "sweep" "sweep" (defArgs s_sweep) (defBody s_sweep) (defScope s_sweep) .none kV30 dc30 pm30 an30 cd30 ct30), sl30⟩)
    (c30 : PySem.W.codeIn K cd30 "sweep" = true) (k30 : PySem.W.keepIn K (.ref a30) = true)
    (n31 : PySem.W.nsIn K mainGlobals "moved_pen" = some (some (.ref a31)))
    (l31 : K.lookup a31 = some ⟨oc31, od31, .func (PySem.W.fnOf "moved_pen" "moved_pen" (defArgs s_moved_pen) (defBody s_moved_pen) (defScope s_moved_pen) .none kV31 dc31 pm31 an31 cd31 ct31), sl31⟩)
    (c31 : PySem.W.codeIn K cd31 "moved_pen" = true) (k31 : PySem.W.keepIn K (.ref a31) = true)
    (n32 : PySem.W.nsIn K mainGlobals "cover_rows" = some (some (.ref a32)))
    (l32 : K.lookup a32 = some ⟨oc32, od32, .func (PySem.W.fnOf "cover_rows" "cover_rows" (defArgs s_cover_rows) (defBody s_cover_rows) (defScope s_cover_rows) .none kV32 dc32 pm32 an32 cd32 ct32), sl32⟩)
    (c32 : PySem.W.codeIn K cd32 "cover_rows" = true) (k32 : PySem.W.keepIn K (.ref a32) = true)
    (n33 : PySem.W.nsIn K mainGlobals "drawn_lines" = some (some (.ref a33)))
    (l33 : K.lookup a33 = some ⟨oc33, od33, .func (PySem.W.fnOf "drawn_lines" "drawn_lines" (defArgs s_drawn_lines) (defBody s_drawn_lines) (defScope s_drawn_lines) .none kV33 dc33 pm33 an33 cd33 ct33), sl33⟩)
    (c33 : PySem.W.codeIn K cd33 "drawn_lines" = true) (k33 : PySem.W.keepIn K (.ref a33) = true)
    (n34 : PySem.W.nsIn K mainGlobals "_law_stream" = some (some (.ref a34)))
    (l34 : K.lookup a34 = some ⟨oc34, od34, .func (PySem.W.fnOf "_law_stream" "_law_stream" (defArgs s__law_stream) (defBody s__law_stream) (defScope s__law_stream) .none kV34 dc34 pm34 an34 cd34 ct34), sl34⟩)
    (c34 : PySem.W.codeIn K cd34 "_law_stream" = true) (k34 : PySem.W.keepIn K (.ref a34) = true)
    (n35 : PySem.W.nsIn K mainGlobals "_law_draw" = some (some (.ref a35)))
    (l35 : K.lookup a35 = some ⟨oc35, od35, .func (PySem.W.fnOf "_law_draw" "_law_draw" (defArgs s__law_draw) (defBody s__law_draw) (defScope s__law_draw) .none kV35 dc35 pm35 an35 cd35 ct35), sl35⟩)
    (c35 : PySem.W.codeIn K cd35 "_law_draw" = true) (k35 : PySem.W.keepIn K (.ref a35) = true)
    (n36 : PySem.W.nsIn K mainGlobals "_law_blank" = some (some (.ref a36)))
    (l36 : K.lookup a36 = some ⟨oc36, od36, .func (PySem.W.fnOf "_law_blank" "_law_blank" (defArgs s__law_blank) (defBody s__law_blank) (defScope s__law_blank) .none kV36 dc36 pm36 an36 cd36 ct36), sl36⟩)
    (c36 : PySem.W.codeIn K cd36 "_law_blank" = true) (k36 : PySem.W.keepIn K (.ref a36) = true)
    (n37 : PySem.W.nsIn K mainGlobals "_law_sum" = some (some (.ref a37)))
    (l37 : K.lookup a37 = some ⟨oc37, od37, .func (PySem.W.fnOf "_law_sum" "_law_sum" (defArgs s__law_sum) (defBody s__law_sum) (defScope s__law_sum) .none kV37 dc37 pm37 an37 cd37 ct37), sl37⟩)
    (c37 : PySem.W.codeIn K cd37 "_law_sum" = true) (k37 : PySem.W.keepIn K (.ref a37) = true)
    (n38 : PySem.W.nsIn K mainGlobals "_law_fits" = some (some (.ref a38)))
    (l38 : K.lookup a38 = some ⟨oc38, od38, .func (PySem.W.fnOf "_law_fits" "_law_fits" (defArgs s__law_fits) (defBody s__law_fits) (defScope s__law_fits) .none kV38 dc38 pm38 an38 cd38 ct38), sl38⟩)
    (c38 : PySem.W.codeIn K cd38 "_law_fits" = true) (k38 : PySem.W.keepIn K (.ref a38) = true)
    (n39 : PySem.W.nsIn K mainGlobals "_law_same_rows" = some (some (.ref a39)))
    (l39 : K.lookup a39 = some ⟨oc39, od39, .func (PySem.W.fnOf "_law_same_rows" "_law_same_rows" (defArgs s__law_same_rows) (defBody s__law_same_rows) (defScope s__law_same_rows) .none kV39 dc39 pm39 an39 cd39 ct39), sl39⟩)
    (c39 : PySem.W.codeIn K cd39 "_law_same_rows" = true) (k39 : PySem.W.keepIn K (.ref a39) = true)
    (n40 : PySem.W.nsIn K mainGlobals "_law_turn" = some (some (.ref a40)))
    (l40 : K.lookup a40 = some ⟨oc40, od40, .func (PySem.W.fnOf "_law_turn" "_law_turn" (defArgs s__law_turn) (defBody s__law_turn) (defScope s__law_turn) .none kV40 dc40 pm40 an40 cd40 ct40), sl40⟩)
    (c40 : PySem.W.codeIn K cd40 "_law_turn" = true) (k40 : PySem.W.keepIn K (.ref a40) = true)
    (n41 : PySem.W.nsIn K mainGlobals "_law_is_next" = some (some (.ref a41)))
    (l41 : K.lookup a41 = some ⟨oc41, od41, .func (PySem.W.fnOf "_law_is_next" "_law_is_next" (defArgs s__law_is_next) (defBody s__law_is_next) (defScope s__law_is_next) .none kV41 dc41 pm41 an41 cd41 ct41), sl41⟩)
    (c41 : PySem.W.codeIn K cd41 "_law_is_next" = true) (k41 : PySem.W.keepIn K (.ref a41) = true)
    (n42 : PySem.W.nsIn K mainGlobals "_law_corners" = some (some (.ref a42)))
    (l42 : K.lookup a42 = some ⟨oc42, od42, .func (PySem.W.fnOf "_law_corners" "_law_corners" (defArgs s__law_corners) (defBody s__law_corners) (defScope s__law_corners) .none kV42 dc42 pm42 an42 cd42 ct42), sl42⟩)
    (c42 : PySem.W.codeIn K cd42 "_law_corners" = true) (k42 : PySem.W.keepIn K (.ref a42) = true)
    (n43 : PySem.W.nsIn K mainGlobals "_law_is_inside" = some (some (.ref a43)))
    (l43 : K.lookup a43 = some ⟨oc43, od43, .func (PySem.W.fnOf "_law_is_inside" "_law_is_inside" (defArgs s__law_is_inside) (defBody s__law_is_inside) (defScope s__law_is_inside) .none kV43 dc43 pm43 an43 cd43 ct43), sl43⟩)
    (c43 : PySem.W.codeIn K cd43 "_law_is_inside" = true) (k43 : PySem.W.keepIn K (.ref a43) = true)
    (n44 : PySem.W.nsIn K mainGlobals "_law_mark" = some (some (.ref a44)))
    (l44 : K.lookup a44 = some ⟨oc44, od44, .func (PySem.W.fnOf "_law_mark" "_law_mark" (defArgs s__law_mark) (defBody s__law_mark) (defScope s__law_mark) .none kV44 dc44 pm44 an44 cd44 ct44), sl44⟩)
    (c44 : PySem.W.codeIn K cd44 "_law_mark" = true) (k44 : PySem.W.keepIn K (.ref a44) = true)
    (n45 : PySem.W.nsIn K mainGlobals "_law_sums" = some (some (.ref a45)))
    (l45 : K.lookup a45 = some ⟨oc45, od45, .func (PySem.W.fnOf "_law_sums" "_law_sums" (defArgs s__law_sums) (defBody s__law_sums) (defScope s__law_sums) .none kV45 dc45 pm45 an45 cd45 ct45), sl45⟩)
    (c45 : PySem.W.codeIn K cd45 "_law_sums" = true) (k45 : PySem.W.keepIn K (.ref a45) = true)
    (n46 : PySem.W.nsIn K mainGlobals "_law_place" = some (some (.ref a46)))
    (l46 : K.lookup a46 = some ⟨oc46, od46, .func (PySem.W.fnOf "_law_place" "_law_place" (defArgs s__law_place) (defBody s__law_place) (defScope s__law_place) .none kV46 dc46 pm46 an46 cd46 ct46), sl46⟩)
    (c46 : PySem.W.codeIn K cd46 "_law_place" = true) (k46 : PySem.W.keepIn K (.ref a46) = true)
    (n47 : PySem.W.nsIn K mainGlobals "_law_count_line" = some (some (.ref a47)))
    (l47 : K.lookup a47 = some ⟨oc47, od47, .func (PySem.W.fnOf "_law_count_line" "_law_count_line" (defArgs s__law_count_line) (defBody s__law_count_line) (defScope s__law_count_line) .none kV47 dc47 pm47 an47 cd47 ct47), sl47⟩)
    (c47 : PySem.W.codeIn K cd47 "_law_count_line" = true) (k47 : PySem.W.keepIn K (.ref a47) = true)
    (n48 : PySem.W.nsIn K mainGlobals "_law_moved" = some (some (.ref a48)))
    (l48 : K.lookup a48 = some ⟨oc48, od48, .func (PySem.W.fnOf "_law_moved" "_law_moved" (defArgs s__law_moved) (defBody s__law_moved) (defScope s__law_moved) .none kV48 dc48 pm48 an48 cd48 ct48), sl48⟩)
    (c48 : PySem.W.codeIn K cd48 "_law_moved" = true) (k48 : PySem.W.keepIn K (.ref a48) = true)
    (n49 : PySem.W.nsIn K mainGlobals "_law_filled" = some (some (.ref a49)))
    (l49 : K.lookup a49 = some ⟨oc49, od49, .func (PySem.W.fnOf "_law_filled" "_law_filled" (defArgs s__law_filled) (defBody s__law_filled) (defScope s__law_filled) .none kV49 dc49 pm49 an49 cd49 ct49), sl49⟩)
    (c49 : PySem.W.codeIn K cd49 "_law_filled" = true) (k49 : PySem.W.keepIn K (.ref a49) = true)
    (n50 : PySem.W.nsIn K mainGlobals "_law_drawn" = some (some (.ref a50)))
    (l50 : K.lookup a50 = some ⟨oc50, od50, .func (PySem.W.fnOf "_law_drawn" "_law_drawn" (defArgs s__law_drawn) (defBody s__law_drawn) (defScope s__law_drawn) .none kV50 dc50 pm50 an50 cd50 ct50), sl50⟩)
    (c50 : PySem.W.codeIn K cd50 "_law_drawn" = true) (k50 : PySem.W.keepIn K (.ref a50) = true)
    (n51 : PySem.W.nsIn K mainGlobals "_law_sparse" = some (some (.ref a51)))
    (l51 : K.lookup a51 = some ⟨oc51, od51, .func (PySem.W.fnOf "_law_sparse" "_law_sparse" (defArgs s__law_sparse) (defBody s__law_sparse) (defScope s__law_sparse) .none kV51 dc51 pm51 an51 cd51 ct51), sl51⟩)
    (c51 : PySem.W.codeIn K cd51 "_law_sparse" = true) (k51 : PySem.W.keepIn K (.ref a51) = true)
    (n52 : PySem.W.nsIn K mainGlobals "_law_added" = some (some (.ref a52)))
    (l52 : K.lookup a52 = some ⟨oc52, od52, .func (PySem.W.fnOf "_law_added" "_law_added" (defArgs s__law_added) (defBody s__law_added) (defScope s__law_added) .none kV52 dc52 pm52 an52 cd52 ct52), sl52⟩)
    (c52 : PySem.W.codeIn K cd52 "_law_added" = true) (k52 : PySem.W.keepIn K (.ref a52) = true)
    (n53 : PySem.W.nsIn K mainGlobals "_law_combined" = some (some (.ref a53)))
    (l53 : K.lookup a53 = some ⟨oc53, od53, .func (PySem.W.fnOf "_law_combined" "_law_combined" (defArgs s__law_combined) (defBody s__law_combined) (defScope s__law_combined) .none kV53 dc53 pm53 an53 cd53 ct53), sl53⟩)
    (c53 : PySem.W.codeIn K cd53 "_law_combined" = true) (k53 : PySem.W.keepIn K (.ref a53) = true)
    (n54 : PySem.W.nsIn K mainGlobals "_law_deed" = some (some (.ref a54)))
    (l54 : K.lookup a54 = some ⟨oc54, od54, .func (PySem.W.fnOf "_law_deed" "_law_deed" (defArgs s__law_deed) (defBody s__law_deed) (defScope s__law_deed) .none kV54 dc54 pm54 an54 cd54 ct54), sl54⟩)
    (c54 : PySem.W.codeIn K cd54 "_law_deed" = true) (k54 : PySem.W.keepIn K (.ref a54) = true)
    (n55 : PySem.W.nsIn K mainGlobals "_law_is_told" = some (some (.ref a55)))
    (l55 : K.lookup a55 = some ⟨oc55, od55, .func (PySem.W.fnOf "_law_is_told" "_law_is_told" (defArgs s__law_is_told) (defBody s__law_is_told) (defScope s__law_is_told) .none kV55 dc55 pm55 an55 cd55 ct55), sl55⟩)
    (c55 : PySem.W.codeIn K cd55 "_law_is_told" = true) (k55 : PySem.W.keepIn K (.ref a55) = true)
    (n56 : PySem.W.nsIn K mainGlobals "law" = some (some (.ref a56)))
    (l56 : K.lookup a56 = some ⟨oc56, od56, .func (PySem.W.fnOf "law" "law" (defArgs s_law) (defBody s_law) (defScope s_law) .none kV56 dc56 pm56 an56 cd56 ct56), sl56⟩)
    (c56 : PySem.W.codeIn K cd56 "law" = true) (k56 : PySem.W.keepIn K (.ref a56) = true)
    (ng2 : PySem.W.nsIn K mainGlobals "Picture" = some (some (.ref a2)))
    (pg2 : PySem.W.plainGet K a2 Str.empty = true) (hd2 : PySem.W.hasDictIn K a2 = true) (po2 : PySem.W.plainOver K a2 = true) (sa2 : PySem.W.findIn K (.ref a2) "__setattr__" = some (some (.builtin "object.__setattr__"))) (mk2 : PySem.W.makesIn K a2 = true) (kc2 : PySem.W.keepIn K (.ref a2) = true)
    (na2__weights : PySem.W.findIn K (.ref a2) "_weights" = some none)
    (sf2 : PySem.W.selfFirst K a2 = true)
    (ic2 : PySem.W.findIn K (.ref a2) "__class__" = some (some (.builtin "object.__class__"))) (im2 : PySem.W.mroIn K a2 (.type "object") = some true)
    (ocg : PySem.W.specialIn K (.builtin "object.__class__") "__get__" = some (some (.builtin "getset_descriptor.__get__"))) (oct : PySem.W.takesIn K (.builtin "object.__class__") = some true)
    (xg0 : PySem.W.nsIn K mainGlobals "FontError" = some (some (.ref a0))) (xq0 : PySem.W.excIn K a0 [.type "ValueError", .type "Exception", .type "BaseException", .type "object"] "ValueError.__new__" = true) (xk0 : PySem.W.keepIn K (.ref a0) = true) (xt0 : PySem.W.typeIn K (.ref a0) = some (.type "type"))
    (xa0 : PySem.W.findIn K (.ref a0) "__getattribute__" = some (some (.builtin "BaseException.__getattribute__"))) (xb0 : PySem.W.findIn K (.ref a0) "__getattr__" = some none) (xc0 : PySem.W.subIn K (.ref a0) (.type "BaseException") = some true) (xd0 : PySem.W.hasDictIn K a0 = true)
    (xe0 : PySem.W.findIn K (.ref a0) "__class__" = some (some (.builtin "object.__class__"))) (xf0 : PySem.W.mroIn K a0 (.type "object") = some true) (xv0 : PySem.W.subIn K (.ref a0) (.type "ValueError") = some true)
    (xg1 : PySem.W.nsIn K mainGlobals "TooGreat" = some (some (.ref a1))) (xq1 : PySem.W.excIn K a1 [.type "ValueError", .type "Exception", .type "BaseException", .type "object"] "ValueError.__new__" = true) (xk1 : PySem.W.keepIn K (.ref a1) = true) (xt1 : PySem.W.typeIn K (.ref a1) = some (.type "type"))
    (xa1 : PySem.W.findIn K (.ref a1) "__getattribute__" = some (some (.builtin "BaseException.__getattribute__"))) (xb1 : PySem.W.findIn K (.ref a1) "__getattr__" = some none) (xc1 : PySem.W.subIn K (.ref a1) (.type "BaseException") = some true) (xd1 : PySem.W.hasDictIn K a1 = true)
    (xe1 : PySem.W.findIn K (.ref a1) "__class__" = some (some (.builtin "object.__class__"))) (xf1 : PySem.W.mroIn K a1 (.type "object") = some true) (xv1 : PySem.W.subIn K (.ref a1) (.type "ValueError") = some true)
    (xm : PySem.W.specialIn K (.builtin "object.__class__") "__get__" = some (some (.builtin "getset_descriptor.__get__"))) (xn : PySem.W.takesIn K (.builtin "object.__class__") = some true)
    (e0_0 : PySem.W.subIn K (.ref a0) (.ref a0) = some true)
    (e0_1 : PySem.W.subIn K (.ref a0) (.ref a1) = some false)
    (e1_0 : PySem.W.subIn K (.ref a1) (.ref a0) = some true)
    (e1_1 : PySem.W.subIn K (.ref a1) (.ref a1) = some true)
    (z_abs : PySem.W.nsIn K mainGlobals "abs" = some none)
    (z_bool : PySem.W.nsIn K mainGlobals "bool" = some none)
    (z_enumerate : PySem.W.nsIn K mainGlobals "enumerate" = some none)
    (z_int : PySem.W.nsIn K mainGlobals "int" = some none)
    (z_isinstance : PySem.W.nsIn K mainGlobals "isinstance" = some none)
    (z_len : PySem.W.nsIn K mainGlobals "len" = some none)
    (z_list : PySem.W.nsIn K mainGlobals "list" = some none)
    (z_max : PySem.W.nsIn K mainGlobals "max" = some none)
    (z_min : PySem.W.nsIn K mainGlobals "min" = some none)
    (z_range : PySem.W.nsIn K mainGlobals "range" = some none)
    (z_sorted : PySem.W.nsIn K mainGlobals "sorted" = some none)
    (z_sum : PySem.W.nsIn K mainGlobals "sum" = some none)
    (z_zip : PySem.W.nsIn K mainGlobals "zip" = some none)
    (c_LEFT : PySem.W.nsIn K mainGlobals "LEFT" = some (some (.int (-8) t_LEFT)))
    (c_BOTTOM : PySem.W.nsIn K mainGlobals "BOTTOM" = some (some (.int (-16) t_BOTTOM)))
    (c_SIZE : PySem.W.nsIn K mainGlobals "SIZE" = some (some (.int (48) t_SIZE)))
    (c_PIXEL : PySem.W.nsIn K mainGlobals "PIXEL" = some (some (.int (64) t_PIXEL)))
    (c_HALF_PIXEL : PySem.W.nsIn K mainGlobals "HALF_PIXEL" = some (some (.int (32) t_HALF_PIXEL)))
    (c_GREATEST_WEIGHT : PySem.W.nsIn K mainGlobals "GREATEST_WEIGHT" = some (some (.int (9999) t_GREATEST_WEIGHT)))
    : ∃ fd : FuncData, (∀ (s : Shared) (v : Value), BindsTo s fd ⟨[v], []⟩ [("script", v)]) ∧ ∀ base : Heap, K.In base → base.Ns mainGlobals mg → FnOk l.prog w K mg base CX0 8 fa fd ["script"] (sp_law K) := by
  have e := hfa.symm.trans (PySem.W.mg_of X G n56)
  cases e
  have F3 := fun_mk (st := s_lines) l3 c3 k3
  have b3 := F3.binds (ps := ["outline"]) fun _ _ _ _ _ _ us hl => match us, hl with | [_], _ => rfl
  have F4 := fun_mk (st := s_blank_rows) l4 c4 k4
  have b4 := F4.binds (ps := []) fun _ _ _ _ _ _ us hl => match us, hl with | [], _ => rfl
  have F5 := fun_mk (st := s_fill_rows) l5 c5 k5
  have b5 := F5.binds (ps := ["outline"]) fun _ _ _ _ _ _ us hl => match us, hl with | [_], _ => rfl
  have F6 := fun_mk (st := s_changes_of) l6 c6 k6
  have b6 := F6.binds (ps := ["outline"]) fun _ _ _ _ _ _ us hl => match us, hl with | [_], _ => rfl
  have F7 := fun_mk (st := s_changes_at_line) l7 c7 k7
  have b7 := F7.binds (ps := ["low", "high", "change"]) fun _ _ _ _ _ _ us hl => match us, hl with | [_, _, _], _ => rfl
  have F8 := fun_mk (st := s_first_center) l8 c8 k8
  have b8 := F8.binds (ps := ["position"]) fun _ _ _ _ _ _ us hl => match us, hl with | [_], _ => rfl
  have F9 := fun_mk (st := s_first_position) l9 c9 k9
  have b9 := F9.binds (ps := ["low", "high", "y"]) fun _ _ _ _ _ _ us hl => match us, hl with | [_, _, _], _ => rfl
  have F10 := fun_mk (st := s_rows_of) l10 c10 k10
  have b10 := F10.binds (ps := ["changes"]) fun _ _ _ _ _ _ us hl => match us, hl with | [_], _ => rfl
  have F11 := fun_mk (st := s_running_sums) l11 c11 k11
  have b11 := F11.binds (ps := ["row"]) fun _ _ _ _ _ _ us hl => match us, hl with | [_], _ => rfl
  have F12 := fun_mk (st := s_Picture___init__) l12 c12 k12
  have b12 := F12.binds (ps := ["self"]) fun _ _ _ _ _ _ us hl => match us, hl with | [_], _ => rfl
  have F13 := fun_mk (st := s_Picture_rows) l13 c13 k13
  have b13 := F13.binds (ps := ["self"]) fun _ _ _ _ _ _ us hl => match us, hl with | [_], _ => rfl
  have F14 := fun_mk (st := s_Picture_add_rows) l14 c14 k14
  have FD14 : FunD K "add_rows" "Picture.add_rows" (defArgs s_Picture_add_rows) (defBody s_Picture_add_rows) (defScope s_Picture_add_rows) [] [("factor", .int 1)] a14 _ := ⟨⟨_, _, _, _, _, _, _, _, _, _, rfl, l14, c14, .inl ⟨rfl, rfl⟩, .inr ⟨kd14, rfl, fun q hq => by
    simp only [List.mem_cons, List.not_mem_nil, or_false] at hq
    rcases hq with rfl
    · exact ⟨_, kw14_factor, _, rfl⟩⟩⟩, k14⟩
  have b14 := FD14.binds0 (ps := ["self", "rows", "factor"]) 2 (by simp) rfl fun D doc pm an cdv ct us ks l1 l2 => match us, ks, l1, l2 with | [_, _], [_], _, _ => ⟨_, _, _, _, _, _, rfl, rfl, rfl⟩
  have kb14_factor : KBn K (PySem.W.fnOf "add_rows" "Picture.add_rows" (defArgs s_Picture_add_rows) (defBody s_Picture_add_rows) (defScope s_Picture_add_rows) .none (.ref kd14) dc14 pm14 an14 cd14 ct14) ["self", "rows", "factor"] 2 ["factor"] (fun us ws => us ++ ws) (fun vs zs => vs ++ zs) := ⟨fun s us ws _ l1 l2 => match us, ws, l1, l2 with | [_, _], [_], _, _ => .of_eq rfl, fun r1 r2 => r1.append r2⟩
  have F15 := fun_mk (st := s_Picture_wipe) l15 c15 k15
  have b15 := F15.binds (ps := ["self"]) fun _ _ _ _ _ _ us hl => match us, hl with | [_], _ => rfl
  have F16 := fun_mk (st := s_Picture_total) l16 c16 k16
  have b16 := F16.binds (ps := ["self"]) fun _ _ _ _ _ _ us hl => match us, hl with | [_], _ => rfl
  have F17 := fun_mk (st := s_Picture_on_pixels) l17 c17 k17
  have b17 := F17.binds (ps := ["self"]) fun _ _ _ _ _ _ us hl => match us, hl with | [_], _ => rfl
  have F18 := fun_mk (st := s_Picture_shifted) l18 c18 k18
  have b18 := F18.binds (ps := ["self", "di", "dj"]) fun _ _ _ _ _ _ us hl => match us, hl with | [_, _, _], _ => rfl
  have F19 := fun_mk (st := s_Picture___add__) l19 c19 k19
  have b19 := F19.binds (ps := ["self", "other"]) fun _ _ _ _ _ _ us hl => match us, hl with | [_, _], _ => rfl
  have F20 := fun_mk (st := s_Picture___sub__) l20 c20 k20
  have b20 := F20.binds (ps := ["self", "other"]) fun _ _ _ _ _ _ us hl => match us, hl with | [_, _], _ => rfl
  have F21 := fun_mk (st := s_Picture___neg__) l21 c21 k21
  have b21 := F21.binds (ps := ["self"]) fun _ _ _ _ _ _ us hl => match us, hl with | [_], _ => rfl
  have F22 := fun_mk (st := s_is_inside) l22 c22 k22
  have b22 := F22.binds (ps := ["row", "column"]) fun _ _ _ _ _ _ us hl => match us, hl with | [_, _], _ => rfl
  have F23 := fun_mk (st := s_sums) l23 c23 k23
  have b23 := F23.binds (ps := ["rows", "others", "factor"]) fun _ _ _ _ _ _ us hl => match us, hl with | [_, _, _], _ => rfl
  have F24 := fun_mk (st := s_checked) l24 c24 k24
  have b24 := F24.binds (ps := ["weight"]) fun _ _ _ _ _ _ us hl => match us, hl with | [_], _ => rfl
  have F25 := fun_mk (st := s_moved_rows) l25 c25 k25
  have b25 := F25.binds (ps := ["rows", "di", "dj"]) fun _ _ _ _ _ _ us hl => match us, hl with | [_, _, _], _ => rfl
  have F26 := fun_mk (st := s_item_or_zero) l26 c26 k26
  have b26 := F26.binds (ps := ["rows", "row", "column"]) fun _ _ _ _ _ _ us hl => match us, hl with | [_, _, _], _ => rfl
  have F27 := fun_mk (st := s_corners) l27 c27 k27
  have b27 := F27.binds (ps := ["points"]) fun _ _ _ _ _ _ us hl => match us, hl with | [_], _ => rfl
  have F28 := fun_mk (st := s_side) l28 c28 k28
  have b28 := F28.binds (ps := ["points"]) fun _ _ _ _ _ _ us hl => match us, hl with | [_], _ => rfl
  have F29 := fun_mk (st := s_turns_left) l29 c29 k29
  have b29 := F29.binds (ps := ["a", "b", "c"]) fun _ _ _ _ _ _ us hl => match us, hl with | [_, _, _], _ => rfl
  have F30 := fun_mk (st := s_sweep) l30 c30 k30
  have b30 := F30.binds (ps := ["pen", "p", "q"]) fun _ _ _ _ _ _ us hl => match us, hl with | [_, _, _], _ => rfl
  have F31 := fun_mk (st := s_moved_pen) l31 c31 k31
  have b31 := F31.binds (ps := ["pen", "p"]) fun _ _ _ _ _ _ us hl => match us, hl with | [_, _], _ => rfl
  have F32 := fun_mk (st := s_cover_rows) l32 c32 k32
  have b32 := F32.binds (ps := ["pen", "outline"]) fun _ _ _ _ _ _ us hl => match us, hl with | [_, _], _ => rfl
  have F33 := fun_mk (st := s_drawn_lines) l33 c33 k33
  have b33 := F33.binds (ps := ["outline"]) fun _ _ _ _ _ _ us hl => match us, hl with | [_], _ => rfl
  have F34 := fun_mk (st := s__law_stream) l34 c34 k34
  have b34 := F34.binds (ps := ["cell"]) fun _ _ _ _ _ _ us hl => match us, hl with | [_], _ => rfl
  have F35 := fun_mk (st := s__law_draw) l35 c35 k35
  have b35 := F35.binds (ps := ["stream", "size"]) fun _ _ _ _ _ _ us hl => match us, hl with | [_, _], _ => rfl
  have F36 := fun_mk (st := s__law_blank) l36 c36 k36
  have b36 := F36.binds (ps := []) fun _ _ _ _ _ _ us hl => match us, hl with | [], _ => rfl
  have F37 := fun_mk (st := s__law_sum) l37 c37 k37
  have b37 := F37.binds (ps := ["rows", "other", "times"]) fun _ _ _ _ _ _ us hl => match us, hl with | [_, _, _], _ => rfl
  have F38 := fun_mk (st := s__law_fits) l38 c38 k38
  have b38 := F38.binds (ps := ["rows"]) fun _ _ _ _ _ _ us hl => match us, hl with | [_], _ => rfl
  have F39 := fun_mk (st := s__law_same_rows) l39 c39 k39
  have b39 := F39.binds (ps := ["actual", "expected"]) fun _ _ _ _ _ _ us hl => match us, hl with | [_, _], _ => rfl
  have F40 := fun_mk (st := s__law_turn) l40 c40 k40
  have b40 := F40.binds (ps := ["a", "b", "c"]) fun _ _ _ _ _ _ us hl => match us, hl with | [_, _, _], _ => rfl
  have F41 := fun_mk (st := s__law_is_next) l41 c41 k41
  have b41 := F41.binds (ps := ["last", "best", "point"]) fun _ _ _ _ _ _ us hl => match us, hl with | [_, _, _], _ => rfl
  have F42 := fun_mk (st := s__law_corners) l42 c42 k42
  have b42 := F42.binds (ps := ["points"]) fun _ _ _ _ _ _ us hl => match us, hl with | [_], _ => rfl
  have F43 := fun_mk (st := s__law_is_inside) l43 c43 k43
  have b43 := F43.binds (ps := ["hull", "x", "y"]) fun _ _ _ _ _ _ us hl => match us, hl with | [_, _, _], _ => rfl
  have F44 := fun_mk (st := s__law_mark) l44 c44 k44
  have b44 := F44.binds (ps := ["rows", "hull"]) fun _ _ _ _ _ _ us hl => match us, hl with | [_, _], _ => rfl
  have F45 := fun_mk (st := s__law_sums) l45 c45 k45
  have b45 := F45.binds (ps := ["points", "p", "q"]) fun _ _ _ _ _ _ us hl => match us, hl with | [_, _, _], _ => rfl
  have F46 := fun_mk (st := s__law_place) l46 c46 k46
  have b46 := F46.binds (ps := ["stream", "mode"]) fun _ _ _ _ _ _ us hl => match us, hl with | [_, _], _ => rfl
  have F47 := fun_mk (st := s__law_count_line) l47 c47 k47
  have b47 := F47.binds (ps := ["rows", "a", "b"]) fun _ _ _ _ _ _ us hl => match us, hl with | [_, _, _], _ => rfl
  have F48 := fun_mk (st := s__law_moved) l48 c48 k48
  have b48 := F48.binds (ps := ["rows", "right", "up"]) fun _ _ _ _ _ _ us hl => match us, hl with | [_, _, _], _ => rfl
  have F49 := fun_mk (st := s__law_filled) l49 c49 k49
  have b49 := F49.binds (ps := ["stream"]) fun _ _ _ _ _ _ us hl => match us, hl with | [_], _ => rfl
  have F50 := fun_mk (st := s__law_drawn) l50 c50 k50
  have b50 := F50.binds (ps := ["stream"]) fun _ _ _ _ _ _ us hl => match us, hl with | [_], _ => rfl
  have F51 := fun_mk (st := s__law_sparse) l51 c51 k51
  have b51 := F51.binds (ps := ["stream"]) fun _ _ _ _ _ _ us hl => match us, hl with | [_], _ => rfl
  have F52 := fun_mk (st := s__law_added) l52 c52 k52
  have b52 := F52.binds (ps := ["pictures", "models", "at", "passed", "due", "times"]) fun _ _ _ _ _ _ us hl => match us, hl with | [_, _, _, _, _, _], _ => rfl
  have F53 := fun_mk (st := s__law_combined) l53 c53 k53
  have b53 := F53.binds (ps := ["pictures", "models", "at", "times"]) fun _ _ _ _ _ _ us hl => match us, hl with | [_, _, _, _], _ => rfl
  have F54 := fun_mk (st := s__law_deed) l54 c54 k54
  have b54 := F54.binds (ps := ["pictures", "models", "stream"]) fun _ _ _ _ _ _ us hl => match us, hl with | [_, _, _], _ => rfl
  have F55 := fun_mk (st := s__law_is_told) l55 c55 k55
  have b55 := F55.binds (ps := ["picture", "rows"]) fun _ _ _ _ _ _ us hl => match us, hl with | [_, _], _ => rfl
  have F56 := fun_mk (st := s_law) l56 c56 k56
  have b56 := F56.binds (ps := ["script"]) fun _ _ _ _ _ _ us hl => match us, hl with | [_], _ => rfl
  let A : Nat → Addr := fun | 0 => a0 | 1 => a1 | 2 => a2 | 3 => a3 | 4 => a4 | 5 => a5 | 6 => a6 | 7 => a7 | 8 => a8 | 9 => a9 | 10 => a10 | 11 => a11 | 12 => a12 | 13 => a13 | 14 => a14 | 15 => a15 | 16 => a16 | 17 => a17 | 18 => a18 | 19 => a19 | 20 => a20 | 21 => a21 | 22 => a22 | 23 => a23 | 24 => a24 | 25 => a25 | 26 => a26 | 27 => a27 | 28 => a28 | 29 => a29 | 30 => a30 | 31 => a31 | 32 => a32 | 33 => a33 | 34 => a34 | 35 => a35 | 36 => a36 | 37 => a37 | 38 => a38 | 39 => a39 | 40 => a40 | 41 => a41 | 42 => a42 | 43 => a43 | 44 => a44 | 45 => a45 | 46 => a46 | 47 => a47 | 48 => a48 | 49 => a49 | 50 => a50 | 51 => a51 | 52 => a52 | 53 => a53 | 54 => a54 | 55 => a55 | 56 => fa | _ => 0
  let D : Nat → FuncData := fun | 3 => PySem.W.fnOf "lines" "lines" (defArgs s_lines) (defBody s_lines) (defScope s_lines) .none kV3 dc3 pm3 an3 cd3 ct3 | 4 => PySem.W.fnOf "blank_rows" "blank_rows" (defArgs s_blank_rows) (defBody s_blank_rows) (defScope s_blank_rows) .none kV4 dc4 pm4 an4 cd4 ct4 | 5 => PySem.W.fnOf "fill_rows" "fill_rows" (defArgs s_fill_rows) (defBody s_fill_rows) (defScope s_fill_rows) .none kV5 dc5 pm5 an5 cd5 ct5 | 6 => PySem.W.fnOf "changes_of" "changes_of" (defArgs s_changes_of) (defBody s_changes_of) (defScope s_changes_of) .none kV6 dc6 pm6 an6 cd6 ct6 | 7 => PySem.W.fnOf "changes_at_line" "changes_at_line" (defArgs s_changes_at_line) (defBody s_changes_at_line) (defScope s_changes_at_line) .none kV7 dc7 pm7 an7 cd7 ct7 | 8 => PySem.W.fnOf "first_center" "first_center" (defArgs s_first_center) (defBody s_first_center) (defScope s_first_center) .none kV8 dc8 pm8 an8 cd8 ct8 | 9 => PySem.W.fnOf "first_position" "first_position" (defArgs s_first_position) (defBody s_first_position) (defScope s_first_position) .none kV9 dc9 pm9 an9 cd9 ct9 | 10 => PySem.W.fnOf "rows_of" "rows_of" (defArgs s_rows_of) (defBody s_rows_of) (defScope s_rows_of) .none kV10 dc10 pm10 an10 cd10 ct10 | 11 => PySem.W.fnOf "running_sums" "running_sums" (defArgs s_running_sums) (defBody s_running_sums) (defScope s_running_sums) .none kV11 dc11 pm11 an11 cd11 ct11 | 12 => PySem.W.fnOf "__init__" "Picture.__init__" (defArgs s_Picture___init__) (defBody s_Picture___init__) (defScope s_Picture___init__) .none kV12 dc12 pm12 an12 cd12 ct12 | 13 => PySem.W.fnOf "rows" "Picture.rows" (defArgs s_Picture_rows) (defBody s_Picture_rows) (defScope s_Picture_rows) .none kV13 dc13 pm13 an13 cd13 ct13 | 14 => PySem.W.fnOf "add_rows" "Picture.add_rows" (defArgs s_Picture_add_rows) (defBody s_Picture_add_rows) (defScope s_Picture_add_rows) .none (.ref kd14) dc14 pm14 an14 cd14 ct14 | 15 => PySem.W.fnOf "wipe" "Picture.wipe" (defArgs s_Picture_wipe) (defBody s_Picture_wipe) (defScope s_Picture_wipe) .none kV15 dc15 pm15 an15 cd15 ct15 | 16 => PySem.W.fnOf "total" "Picture.total" (defArgs s_Picture_total) (defBody s_Picture_total) (defScope s_Picture_total) .none kV16 dc16 pm16 an16 cd16 ct16 | 17 => PySem.W.fnOf "on_pixels" "Picture.on_pixels" (defArgs s_Picture_on_pixels) (defBody s_Picture_on_pixels) (defScope s_Picture_on_pixels) .none kV17 dc17 pm17 an17 cd17 ct17 | 18 => PySem.W.fnOf "shifted" "Picture.shifted" (defArgs s_Picture_shifted) (defBody s_Picture_shifted) (defScope s_Picture_shifted) .none kV18 dc18 pm18 an18 cd18 ct18 | 19 => PySem.W.fnOf "__add__" "Picture.__add__" (defArgs s_Picture___add__) (defBody s_Picture___add__) (defScope s_Picture___add__) .none kV19 dc19 pm19 an19 cd19 ct19 | 20 => PySem.W.fnOf "__sub__" "Picture.__sub__" (defArgs s_Picture___sub__) (defBody s_Picture___sub__) (defScope s_Picture___sub__) .none kV20 dc20 pm20 an20 cd20 ct20 | 21 => PySem.W.fnOf "__neg__" "Picture.__neg__" (defArgs s_Picture___neg__) (defBody s_Picture___neg__) (defScope s_Picture___neg__) .none kV21 dc21 pm21 an21 cd21 ct21 | 22 => PySem.W.fnOf "is_inside" "is_inside" (defArgs s_is_inside) (defBody s_is_inside) (defScope s_is_inside) .none kV22 dc22 pm22 an22 cd22 ct22 | 23 => PySem.W.fnOf "sums" "sums" (defArgs s_sums) (defBody s_sums) (defScope s_sums) .none kV23 dc23 pm23 an23 cd23 ct23 | 24 => PySem.W.fnOf "checked" "checked" (defArgs s_checked) (defBody s_checked) (defScope s_checked) .none kV24 dc24 pm24 an24 cd24 ct24 | 25 => PySem.W.fnOf "moved_rows" "moved_rows" (defArgs s_moved_rows) (defBody s_moved_rows) (defScope s_moved_rows) .none kV25 dc25 pm25 an25 cd25 ct25 | 26 => PySem.W.fnOf "item_or_zero" "item_or_zero" (defArgs s_item_or_zero) (defBody s_item_or_zero) (defScope s_item_or_zero) .none kV26 dc26 pm26 an26 cd26 ct26 | 27 => PySem.W.fnOf "corners" "corners" (defArgs s_corners) (defBody s_corners) (defScope s_corners) .none kV27 dc27 pm27 an27 cd27 ct27 | 28 => PySem.W.fnOf "side" "side" (defArgs s_side) (defBody s_side) (defScope s_side) .none kV28 dc28 pm28 an28 cd28 ct28 | 29 => PySem.W.fnOf "turns_left" "turns_left" (defArgs s_turns_left) (defBody s_turns_left) (defScope s_turns_left) .none kV29 dc29 pm29 an29 cd29 ct29 | 30 => PySem.W.fnOf "sweep" "sweep" (defArgs s_sweep) (defBody s_sweep) (defScope s_sweep) .none kV30 dc30 pm30 an30 cd30 ct30 | 31 => PySem.W.fnOf "moved_pen" "moved_pen" (defArgs s_moved_pen) (defBody s_moved_pen) (defScope s_moved_pen) .none kV31 dc31 pm31 an31 cd31 ct31 | 32 => PySem.W.fnOf "cover_rows" "cover_rows" (defArgs s_cover_rows) (defBody s_cover_rows) (defScope s_cover_rows) .none kV32 dc32 pm32 an32 cd32 ct32 | 33 => PySem.W.fnOf "drawn_lines" "drawn_lines" (defArgs s_drawn_lines) (defBody s_drawn_lines) (defScope s_drawn_lines) .none kV33 dc33 pm33 an33 cd33 ct33 | 34 => PySem.W.fnOf "_law_stream" "_law_stream" (defArgs s__law_stream) (defBody s__law_stream) (defScope s__law_stream) .none kV34 dc34 pm34 an34 cd34 ct34 | 35 => PySem.W.fnOf "_law_draw" "_law_draw" (defArgs s__law_draw) (defBody s__law_draw) (defScope s__law_draw) .none kV35 dc35 pm35 an35 cd35 ct35 | 36 => PySem.W.fnOf "_law_blank" "_law_blank" (defArgs s__law_blank) (defBody s__law_blank) (defScope s__law_blank) .none kV36 dc36 pm36 an36 cd36 ct36 | 37 => PySem.W.fnOf "_law_sum" "_law_sum" (defArgs s__law_sum) (defBody s__law_sum) (defScope s__law_sum) .none kV37 dc37 pm37 an37 cd37 ct37 | 38 => PySem.W.fnOf "_law_fits" "_law_fits" (defArgs s__law_fits) (defBody s__law_fits) (defScope s__law_fits) .none kV38 dc38 pm38 an38 cd38 ct38 | 39 => PySem.W.fnOf "_law_same_rows" "_law_same_rows" (defArgs s__law_same_rows) (defBody s__law_same_rows) (defScope s__law_same_rows) .none kV39 dc39 pm39 an39 cd39 ct39 | 40 => PySem.W.fnOf "_law_turn" "_law_turn" (defArgs s__law_turn) (defBody s__law_turn) (defScope s__law_turn) .none kV40 dc40 pm40 an40 cd40 ct40 | 41 => PySem.W.fnOf "_law_is_next" "_law_is_next" (defArgs s__law_is_next) (defBody s__law_is_next) (defScope s__law_is_next) .none kV41 dc41 pm41 an41 cd41 ct41 | 42 => PySem.W.fnOf "_law_corners" "_law_corners" (defArgs s__law_corners) (defBody s__law_corners) (defScope s__law_corners) .none kV42 dc42 pm42 an42 cd42 ct42 | 43 => PySem.W.fnOf "_law_is_inside" "_law_is_inside" (defArgs s__law_is_inside) (defBody s__law_is_inside) (defScope s__law_is_inside) .none kV43 dc43 pm43 an43 cd43 ct43 | 44 => PySem.W.fnOf "_law_mark" "_law_mark" (defArgs s__law_mark) (defBody s__law_mark) (defScope s__law_mark) .none kV44 dc44 pm44 an44 cd44 ct44 | 45 => PySem.W.fnOf "_law_sums" "_law_sums" (defArgs s__law_sums) (defBody s__law_sums) (defScope s__law_sums) .none kV45 dc45 pm45 an45 cd45 ct45 | 46 => PySem.W.fnOf "_law_place" "_law_place" (defArgs s__law_place) (defBody s__law_place) (defScope s__law_place) .none kV46 dc46 pm46 an46 cd46 ct46 | 47 => PySem.W.fnOf "_law_count_line" "_law_count_line" (defArgs s__law_count_line) (defBody s__law_count_line) (defScope s__law_count_line) .none kV47 dc47 pm47 an47 cd47 ct47 | 48 => PySem.W.fnOf "_law_moved" "_law_moved" (defArgs s__law_moved) (defBody s__law_moved) (defScope s__law_moved) .none kV48 dc48 pm48 an48 cd48 ct48 | 49 => PySem.W.fnOf "_law_filled" "_law_filled" (defArgs s__law_filled) (defBody s__law_filled) (defScope s__law_filled) .none kV49 dc49 pm49 an49 cd49 ct49 | 50 => PySem.W.fnOf "_law_drawn" "_law_drawn" (defArgs s__law_drawn) (defBody s__law_drawn) (defScope s__law_drawn) .none kV50 dc50 pm50 an50 cd50 ct50 | 51 => PySem.W.fnOf "_law_sparse" "_law_sparse" (defArgs s__law_sparse) (defBody s__law_sparse) (defScope s__law_sparse) .none kV51 dc51 pm51 an51 cd51 ct51 | 52 => PySem.W.fnOf "_law_added" "_law_added" (defArgs s__law_added) (defBody s__law_added) (defScope s__law_added) .none kV52 dc52 pm52 an52 cd52 ct52 | 53 => PySem.W.fnOf "_law_combined" "_law_combined" (defArgs s__law_combined) (defBody s__law_combined) (defScope s__law_combined) .none kV53 dc53 pm53 an53 cd53 ct53 | 54 => PySem.W.fnOf "_law_deed" "_law_deed" (defArgs s__law_deed) (defBody s__law_deed) (defScope s__law_deed) .none kV54 dc54 pm54 an54 cd54 ct54 | 55 => PySem.W.fnOf "_law_is_told" "_law_is_told" (defArgs s__law_is_told) (defBody s__law_is_told) (defScope s__law_is_told) .none kV55 dc55 pm55 an55 cd55 ct55 | _ => PySem.W.fnOf "law" "law" (defArgs s_law) (defBody s_law) (defScope s_law) .none kV56 dc56 pm56 an56 cd56 ct56
  have T : Txt K mg A D :=
    {F_lines := F3,
     m_lines := PySem.W.mg_of X G n3,
     b_lines := b3,
     F_blank_rows := F4,
     m_blank_rows := PySem.W.mg_of X G n4,
     b_blank_rows := b4,
     F_fill_rows := F5,
     m_fill_rows := PySem.W.mg_of X G n5,
     b_fill_rows := b5,
     F_changes_of := F6,
     m_changes_of := PySem.W.mg_of X G n6,
     b_changes_of := b6,
     F_changes_at_line := F7,
     m_changes_at_line := PySem.W.mg_of X G n7,
     b_changes_at_line := b7,
     F_first_center := F8,
     m_first_center := PySem.W.mg_of X G n8,
     b_first_center := b8,
     F_first_position := F9,
     m_first_position := PySem.W.mg_of X G n9,
     b_first_position := b9,
     F_rows_of := F10,
     m_rows_of := PySem.W.mg_of X G n10,
     b_rows_of := b10,
     F_running_sums := F11,
     m_running_sums := PySem.W.mg_of X G n11,
     b_running_sums := b11,
     F_Picture___init__ := F12,
     b_Picture___init__ := b12,
     F_Picture_rows := F13,
     m_Picture_rows := ⟨n13, fn13, k13⟩,
     b_Picture_rows := b13,
     F_Picture_add_rows := F14,
     m_Picture_add_rows := ⟨n14, fn14, k14⟩,
     b_Picture_add_rows := b14,
     k_Picture_add_rows_factor := kb14_factor,
     F_Picture_wipe := F15,
     m_Picture_wipe := ⟨n15, fn15, k15⟩,
     b_Picture_wipe := b15,
     F_Picture_total := F16,
     m_Picture_total := ⟨n16, fn16, k16⟩,
     b_Picture_total := b16,
     F_Picture_on_pixels := F17,
     m_Picture_on_pixels := ⟨n17, fn17, k17⟩,
     b_Picture_on_pixels := b17,
     F_Picture_shifted := F18,
     m_Picture_shifted := ⟨n18, fn18, k18⟩,
     b_Picture_shifted := b18,
     F_Picture___add__ := F19,
     m_Picture___add__ := ⟨n19, fn19, k19⟩,
     b_Picture___add__ := b19,
     F_Picture___sub__ := F20,
     m_Picture___sub__ := ⟨n20, fn20, k20⟩,
     b_Picture___sub__ := b20,
     F_Picture___neg__ := F21,
     m_Picture___neg__ := ⟨n21, fn21, k21⟩,
     b_Picture___neg__ := b21,
     F_is_inside := F22,
     m_is_inside := PySem.W.mg_of X G n22,
     b_is_inside := b22,
     F_sums := F23,
     m_sums := PySem.W.mg_of X G n23,
     b_sums := b23,
     F_checked := F24,
     m_checked := PySem.W.mg_of X G n24,
     b_checked := b24,
     F_moved_rows := F25,
     m_moved_rows := PySem.W.mg_of X G n25,
     b_moved_rows := b25,
     F_item_or_zero := F26,
     m_item_or_zero := PySem.W.mg_of X G n26,
     b_item_or_zero := b26,
     F_corners := F27,
     m_corners := PySem.W.mg_of X G n27,
     b_corners := b27,
     F_side := F28,
     m_side := PySem.W.mg_of X G n28,
     b_side := b28,
     F_turns_left := F29,
     m_turns_left := PySem.W.mg_of X G n29,
     b_turns_left := b29,
     F_sweep := F30,
     m_sweep := PySem.W.mg_of X G n30,
     b_sweep := b30,
     F_moved_pen := F31,
     m_moved_pen := PySem.W.mg_of X G n31,
     b_moved_pen := b31,
     F_cover_rows := F32,
     m_cover_rows := PySem.W.mg_of X G n32,
     b_cover_rows := b32,
     F_drawn_lines := F33,
     m_drawn_lines := PySem.W.mg_of X G n33,
     b_drawn_lines := b33,
     F__law_stream := F34,
     m__law_stream := PySem.W.mg_of X G n34,
     b__law_stream := b34,
     F__law_draw := F35,
     m__law_draw := PySem.W.mg_of X G n35,
     b__law_draw := b35,
     F__law_blank := F36,
     m__law_blank := PySem.W.mg_of X G n36,
     b__law_blank := b36,
     F__law_sum := F37,
     m__law_sum := PySem.W.mg_of X G n37,
     b__law_sum := b37,
     F__law_fits := F38,
     m__law_fits := PySem.W.mg_of X G n38,
     b__law_fits := b38,
     F__law_same_rows := F39,
     m__law_same_rows := PySem.W.mg_of X G n39,
     b__law_same_rows := b39,
     F__law_turn := F40,
     m__law_turn := PySem.W.mg_of X G n40,
     b__law_turn := b40,
     F__law_is_next := F41,
     m__law_is_next := PySem.W.mg_of X G n41,
     b__law_is_next := b41,
     F__law_corners := F42,
     m__law_corners := PySem.W.mg_of X G n42,
     b__law_corners := b42,
     F__law_is_inside := F43,
     m__law_is_inside := PySem.W.mg_of X G n43,
     b__law_is_inside := b43,
     F__law_mark := F44,
     m__law_mark := PySem.W.mg_of X G n44,
     b__law_mark := b44,
     F__law_sums := F45,
     m__law_sums := PySem.W.mg_of X G n45,
     b__law_sums := b45,
     F__law_place := F46,
     m__law_place := PySem.W.mg_of X G n46,
     b__law_place := b46,
     F__law_count_line := F47,
     m__law_count_line := PySem.W.mg_of X G n47,
     b__law_count_line := b47,
     F__law_moved := F48,
     m__law_moved := PySem.W.mg_of X G n48,
     b__law_moved := b48,
     F__law_filled := F49,
     m__law_filled := PySem.W.mg_of X G n49,
     b__law_filled := b49,
     F__law_drawn := F50,
     m__law_drawn := PySem.W.mg_of X G n50,
     b__law_drawn := b50,
     F__law_sparse := F51,
     m__law_sparse := PySem.W.mg_of X G n51,
     b__law_sparse := b51,
     F__law_added := F52,
     m__law_added := PySem.W.mg_of X G n52,
     b__law_added := b52,
     F__law_combined := F53,
     m__law_combined := PySem.W.mg_of X G n53,
     b__law_combined := b53,
     F__law_deed := F54,
     m__law_deed := PySem.W.mg_of X G n54,
     b__law_deed := b54,
     F__law_is_told := F55,
     m__law_is_told := PySem.W.mg_of X G n55,
     b__law_is_told := b55,
     F_law := F56,
     m_law := PySem.W.mg_of X G n56,
     b_law := b56,
     q_Picture := ⟨pg2, hd2, po2, sa2⟩,
     g_Picture := PySem.W.mg_of X G ng2,
     M_Picture := ⟨mk2, n12, fn12, kc2⟩,
     nf_Picture__weights := na2__weights,
     sf_Picture := sf2,
     ic_Picture := ic2,
     im_Picture := im2,
     oc_g := ocg,
     oc_t := oct,
     x_FontError := ⟨PySem.W.mg_of X G xg0, xq0, xk0, xt0, ⟨xa0, xb0, xc0, xd0, xe0, xm, xn, xf0⟩, xv0⟩,
     x_TooGreat := ⟨PySem.W.mg_of X G xg1, xq1, xk1, xt1, ⟨xa1, xb1, xc1, xd1, xe1, xm, xn, xf1⟩, xv1⟩,
     e_FontError_FontError := e0_0,
     e_FontError_TooGreat := e0_1,
     e_TooGreat_FontError := e1_0,
     e_TooGreat_TooGreat := e1_1,
     z_abs := PySem.W.mg_none_of X G z_abs,
     z_bool := PySem.W.mg_none_of X G z_bool,
     z_enumerate := PySem.W.mg_none_of X G z_enumerate,
     z_int := PySem.W.mg_none_of X G z_int,
     z_isinstance := PySem.W.mg_none_of X G z_isinstance,
     z_len := PySem.W.mg_none_of X G z_len,
     z_list := PySem.W.mg_none_of X G z_list,
     z_max := PySem.W.mg_none_of X G z_max,
     z_min := PySem.W.mg_none_of X G z_min,
     z_range := PySem.W.mg_none_of X G z_range,
     z_sorted := PySem.W.mg_none_of X G z_sorted,
     z_sum := PySem.W.mg_none_of X G z_sum,
     z_zip := PySem.W.mg_none_of X G z_zip,
     c_LEFT := ⟨_, PySem.W.mg_of X G c_LEFT, _, rfl⟩,
     c_BOTTOM := ⟨_, PySem.W.mg_of X G c_BOTTOM, _, rfl⟩,
     c_SIZE := ⟨_, PySem.W.mg_of X G c_SIZE, _, rfl⟩,
     c_PIXEL := ⟨_, PySem.W.mg_of X G c_PIXEL, _, rfl⟩,
     c_HALF_PIXEL := ⟨_, PySem.W.mg_of X G c_HALF_PIXEL, _, rfl⟩,
     c_GREATEST_WEIGHT := ⟨_, PySem.W.mg_of X G c_GREATEST_WEIGHT, _, rfl⟩}
  exact ⟨_, fun s v => .of_eq rfl, fun base _ _ => ok_law T⟩
end G
open PySem PySem.W PyProof.Rows
set_option maxRecDepth 100000 in
set_option maxHeartbeats 0 in
theorem PySem.Challenge.cw_fontwinding_k39_whole_pictures_by_deeds_holds : PySem.Challenge.rw_fontwinding_k39_whole_pictures_by_deeds.Holds := by
  w_on; o_law; k_head; (case hw => w_witness2)
  k_fill
  refine L2.walk_of (l := PySem.Challenge.rw_fontwinding_k39_whole_pictures_by_deeds) (n := 63) (k := 8) (x := "script") (CX := fun _ => L2.CX0) (sp := fun w => G.sp_law _) rfl (by decide) rfl ⟨rfl, by decide, by decide⟩ (fun w h Y => PySem.W.kIn_of Y) ?F (fun _ _ a ns hl _ hS => ⟨a, ns, rfl, hS, hl, fun _ => rfl⟩) (fun _ _ _ _ _ h => h)
  case F =>
    intro w mg fa h KX G0 hmg
    refine' G.all_mk KX G0 hmg ?n3 ?l3 ?c3 ?k3 ?n4 ?l4 ?c4 ?k4 ?n5 ?l5 ?c5 ?k5 ?n6 ?l6 ?c6 ?k6 ?n7 ?l7 ?c7 ?k7 ?n8 ?l8 ?c8 ?k8 ?n9 ?l9 ?c9 ?k9 ?n10 ?l10 ?c10 ?k10 ?n11 ?l11 ?c11 ?k11 ?n12 ?fn12 ?l12 ?c12 ?k12 ?n13 ?fn13 ?l13 ?c13 ?k13 ?n14 ?fn14 ?l14 ?c14 ?k14 ?kw14_factor ?n15 ?fn15 ?l15 ?c15 ?k15 ?n16 ?fn16 ?l16 ?c16 ?k16 ?n17 ?fn17 ?l17 ?c17 ?k17 ?n18 ?fn18 ?l18 ?c18 ?k18 ?n19 ?fn19 ?l19 ?c19 ?k19 ?n20 ?fn20 ?l20 ?c20 ?k20 ?n21 ?fn21 ?l21 ?c21 ?k21 ?n22 ?l22 ?c22 ?k22 ?n23 ?l23 ?c23 ?k23 ?n24 ?l24 ?c24 ?k24 ?n25 ?l25 ?c25 ?k25 ?n26 ?l26 ?c26 ?k26 ?n27 ?l27 ?c27 ?k27 ?n28 ?l28 ?c28 ?k28 ?n29 ?l29 ?c29 ?k29 ?n30 ?l30 ?c30 ?k30 ?n31 ?l31 ?c31 ?k31 ?n32 ?l32 ?c32 ?k32 ?n33 ?l33 ?c33 ?k33 ?n34 ?l34 ?c34 ?k34 ?n35 ?l35 ?c35 ?k35 ?n36 ?l36 ?c36 ?k36 ?n37 ?l37 ?c37 ?k37 ?n38 ?l38 ?c38 ?k38 ?n39 ?l39 ?c39 ?k39 ?n40 ?l40 ?c40 ?k40 ?n41 ?l41 ?c41 ?k41 ?n42 ?l42 ?c42 ?k42 ?n43 ?l43 ?c43 ?k43 ?n44 ?l44 ?c44 ?k44 ?n45 ?l45 ?c45 ?k45 ?n46 ?l46 ?c46 ?k46 ?n47 ?l47 ?c47 ?k47 ?n48 ?l48 ?c48 ?k48 ?n49 ?l49 ?c49 ?k49 ?n50 ?l50 ?c50 ?k50 ?n51 ?l51 ?c51 ?k51 ?n52 ?l52 ?c52 ?k52 ?n53 ?l53 ?c53 ?k53 ?n54 ?l54 ?c54 ?k54 ?n55 ?l55 ?c55 ?k55 ?n56 ?l56 ?c56 ?k56 ?ng2 ?pg2 ?hd2 ?po2 ?sa2 ?mk2 ?kc2 ?na2__weights ?sf2 ?ic2 ?im2 ?ocg ?oct ?xg0 ?xq0 ?xk0 ?xt0 ?xa0 ?xb0 ?xc0 ?xd0 ?xe0 ?xf0 ?xv0 ?xg1 ?xq1 ?xk1 ?xt1 ?xa1 ?xb1 ?xc1 ?xd1 ?xe1 ?xf1 ?xv1 ?xm ?xn ?e0_0 ?e0_1 ?e1_0 ?e1_1 ?z_abs ?z_bool ?z_enumerate ?z_int ?z_isinstance ?z_len ?z_list ?z_max ?z_min ?z_range ?z_sorted ?z_sum ?z_zip ?c_LEFT ?c_BOTTOM ?c_SIZE ?c_PIXEL ?c_HALF_PIXEL ?c_GREATEST_WEIGHT
    (case ng2 => k_is)
    (case n3 => k_is)
    (case l3 => k_is)
    (case c3 => k_is)
    (case k3 => k_is)
    (case n4 => k_is)
    (case l4 => k_is)
    (case c4 => k_is)
    (case k4 => k_is)
    (case n5 => k_is)
    (case l5 => k_is)
    (case c5 => k_is)
    (case k5 => k_is)
    (case n6 => k_is)
    (case l6 => k_is)
    (case c6 => k_is)
    (case k6 => k_is)
    (case n7 => k_is)
    (case l7 => k_is)
    (case c7 => k_is)
    (case k7 => k_is)
    (case n8 => k_is)
    (case l8 => k_is)
    (case c8 => k_is)
    (case k8 => k_is)
    (case n9 => k_is)
    (case l9 => k_is)
    (case c9 => k_is)
    (case k9 => k_is)
    (case n10 => k_is)
    (case l10 => k_is)
    (case c10 => k_is)
    (case k10 => k_is)
    (case n11 => k_is)
    (case l11 => k_is)
    (case c11 => k_is)
    (case k11 => k_is)
    (case n12 => k_is)
    (case fn12 => k_is)
    (case l12 => k_is)
    (case c12 => k_is)
    (case k12 => k_is)
    (case n13 => k_is)
    (case fn13 => k_is)
    (case l13 => k_is)
    (case c13 => k_is)
    (case k13 => k_is)
    (case n14 => k_is)
    (case fn14 => k_is)
    (case l14 => k_is)
    (case c14 => k_is)
    (case k14 => k_is)
    (case kw14_factor => k_is)
    (case n15 => k_is)
    (case fn15 => k_is)
    (case l15 => k_is)
    (case c15 => k_is)
    (case k15 => k_is)
    (case n16 => k_is)
    (case fn16 => k_is)
    (case l16 => k_is)
    (case c16 => k_is)
    (case k16 => k_is)
    (case n17 => k_is)
    (case fn17 => k_is)
    (case l17 => k_is)
    (case c17 => k_is)
    (case k17 => k_is)
    (case n18 => k_is)
    (case fn18 => k_is)
    (case l18 => k_is)
    (case c18 => k_is)
    (case k18 => k_is)
    (case n19 => k_is)
    (case fn19 => k_is)
    (case l19 => k_is)
    (case c19 => k_is)
    (case k19 => k_is)
    (case n20 => k_is)
    (case fn20 => k_is)
    (case l20 => k_is)
    (case c20 => k_is)
    (case k20 => k_is)
    (case n21 => k_is)
    (case fn21 => k_is)
    (case l21 => k_is)
    (case c21 => k_is)
    (case k21 => k_is)
    (case n22 => k_is)
    (case l22 => k_is)
    (case c22 => k_is)
    (case k22 => k_is)
    (case n23 => k_is)
    (case l23 => k_is)
    (case c23 => k_is)
    (case k23 => k_is)
    (case n24 => k_is)
    (case l24 => k_is)
    (case c24 => k_is)
    (case k24 => k_is)
    (case n25 => k_is)
    (case l25 => k_is)
    (case c25 => k_is)
    (case k25 => k_is)
    (case n26 => k_is)
    (case l26 => k_is)
    (case c26 => k_is)
    (case k26 => k_is)
    (case n27 => k_is)
    (case l27 => k_is)
    (case c27 => k_is)
    (case k27 => k_is)
    (case n28 => k_is)
    (case l28 => k_is)
    (case c28 => k_is)
    (case k28 => k_is)
    (case n29 => k_is)
    (case l29 => k_is)
    (case c29 => k_is)
    (case k29 => k_is)
    (case n30 => k_is)
    (case l30 => k_is)
    (case c30 => k_is)
    (case k30 => k_is)
    (case n31 => k_is)
    (case l31 => k_is)
    (case c31 => k_is)
    (case k31 => k_is)
    (case n32 => k_is)
    (case l32 => k_is)
    (case c32 => k_is)
    (case k32 => k_is)
    (case n33 => k_is)
    (case l33 => k_is)
    (case c33 => k_is)
    (case k33 => k_is)
    (case n34 => k_is)
    (case l34 => k_is)
    (case c34 => k_is)
    (case k34 => k_is)
    (case n35 => k_is)
    (case l35 => k_is)
    (case c35 => k_is)
    (case k35 => k_is)
    (case n36 => k_is)
    (case l36 => k_is)
    (case c36 => k_is)
    (case k36 => k_is)
    (case n37 => k_is)
    (case l37 => k_is)
    (case c37 => k_is)
    (case k37 => k_is)
    (case n38 => k_is)
    (case l38 => k_is)
    (case c38 => k_is)
    (case k38 => k_is)
    (case n39 => k_is)
    (case l39 => k_is)
    (case c39 => k_is)
    (case k39 => k_is)
    (case n40 => k_is)
    (case l40 => k_is)
    (case c40 => k_is)
    (case k40 => k_is)
    (case n41 => k_is)
    (case l41 => k_is)
    (case c41 => k_is)
    (case k41 => k_is)
    (case n42 => k_is)
    (case l42 => k_is)
    (case c42 => k_is)
    (case k42 => k_is)
    (case n43 => k_is)
    (case l43 => k_is)
    (case c43 => k_is)
    (case k43 => k_is)
    (case n44 => k_is)
    (case l44 => k_is)
    (case c44 => k_is)
    (case k44 => k_is)
    (case n45 => k_is)
    (case l45 => k_is)
    (case c45 => k_is)
    (case k45 => k_is)
    (case n46 => k_is)
    (case l46 => k_is)
    (case c46 => k_is)
    (case k46 => k_is)
    (case n47 => k_is)
    (case l47 => k_is)
    (case c47 => k_is)
    (case k47 => k_is)
    (case n48 => k_is)
    (case l48 => k_is)
    (case c48 => k_is)
    (case k48 => k_is)
    (case n49 => k_is)
    (case l49 => k_is)
    (case c49 => k_is)
    (case k49 => k_is)
    (case n50 => k_is)
    (case l50 => k_is)
    (case c50 => k_is)
    (case k50 => k_is)
    (case n51 => k_is)
    (case l51 => k_is)
    (case c51 => k_is)
    (case k51 => k_is)
    (case n52 => k_is)
    (case l52 => k_is)
    (case c52 => k_is)
    (case k52 => k_is)
    (case n53 => k_is)
    (case l53 => k_is)
    (case c53 => k_is)
    (case k53 => k_is)
    (case n54 => k_is)
    (case l54 => k_is)
    (case c54 => k_is)
    (case k54 => k_is)
    (case n55 => k_is)
    (case l55 => k_is)
    (case c55 => k_is)
    (case k55 => k_is)
    (case n56 => k_is)
    (case l56 => k_is)
    (case c56 => k_is)
    (case k56 => k_is)
    (case pg2 => k_is)
    (case hd2 => k_is)
    (case po2 => k_is)
    (case sa2 => k_is)
    (case mk2 => k_is)
    (case kc2 => k_is)
    (case na2__weights => k_is)
    (case sf2 => k_is)
    (case ic2 => k_is)
    (case im2 => k_is)
    (case ocg => k_is)
    (case oct => k_is)
    (case xg0 => k_is)
    (case xq0 => k_exc)
    (case xk0 => k_is)
    (case xt0 => k_is)
    (case xa0 => k_is)
    (case xb0 => k_is)
    (case xc0 => k_is)
    (case xd0 => k_is)
    (case xe0 => k_is)
    (case xf0 => k_is)
    (case xv0 => k_is)
    (case xg1 => k_is)
    (case xq1 => k_exc)
    (case xk1 => k_is)
    (case xt1 => k_is)
    (case xa1 => k_is)
    (case xb1 => k_is)
    (case xc1 => k_is)
    (case xd1 => k_is)
    (case xe1 => k_is)
    (case xf1 => k_is)
    (case xv1 => k_is)
    (case xm => k_is)
    (case xn => k_is)
    (case e0_0 => k_is)
    (case e0_1 => k_is)
    (case e1_0 => k_is)
    (case e1_1 => k_is)
    (case z_abs => k_is)
    (case z_bool => k_is)
    (case z_enumerate => k_is)
    (case z_int => k_is)
    (case z_isinstance => k_is)
    (case z_len => k_is)
    (case z_list => k_is)
    (case z_max => k_is)
    (case z_min => k_is)
    (case z_range => k_is)
    (case z_sorted => k_is)
    (case z_sum => k_is)
    (case z_zip => k_is)
    (case c_LEFT => k_is)
    (case c_BOTTOM => k_is)
    (case c_SIZE => k_is)
    (case c_PIXEL => k_is)
    (case c_HALF_PIXEL => k_is)
    (case c_GREATEST_WEIGHT => k_is)
