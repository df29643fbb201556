import PyProof.Rows.All
import Wide.All
import OpenK.AllK
import Wide.FinOn
import HandS.GenOver
import HandS.GenList
import HandS.Zip
import HandS.ForMost
import HandS.ForExc
import HandS.Wide
import HandS.Gcd
import HandS.IsInst
import HandS.ExcIs
import HandS.TryMany
import HandS.Evl
import HandS.Style
import PySem.Challenge.RW_fontwinding_k26_lines_and_area
set_option Elab.async false
set_option linter.all false
set_option maxRecDepth 100000
set_option maxHeartbeats 4000000
/-! Sw: what runs while generators sleep leaves them as they are. Each sleeper is put in the place of one that cannot be woken; a run that ends there has woken none, so it ends alike with the sleepers themselves. -/
namespace Sw
open PySem
open Sem (wp)
/-- asleep, and without a way on -/
def St (x : GenState) : Prop := ∃ (w : String) (l : List Value) (c : Code) (p : Pos) (fs : List Frame) (cl : Bool), x = .suspended (fun _ => .unsupported w) l c p fs cl
def NG (x : GenState) : Prop := ∀ k l c p fs cl, x = .suspended k l c p fs cl → splitAtGen fs = none
def Rl (x y : GenState) : Prop := (x = y ∧ NG x) ∨ (St x ∧ x.seen = y.seen ∧ x.bare = y.bare)
structure GR (a b : Array GenState) : Prop where
  sz : b.size = a.size
  rl : ∀ (i : Nat) x y, a[i]? = some x → b[i]? = some y → Rl x y
structure Kp (a b c d : Array GenState) : Prop where
  kp : ∀ (i : Nat) x, a[i]? = some x → St x → c[i]? = some x ∧ d[i]? = b[i]?
theorem st_fresh {c : Code} : ¬ St (.fresh c) := by rintro ⟨_, _, _, _, _, _, e⟩; cases e
theorem st_run : ¬ St .running := by rintro ⟨_, _, _, _, _, _, e⟩; cases e
theorem st_fin : ¬ St .finished := by rintro ⟨_, _, _, _, _, _, e⟩; cases e
theorem rl_self {x : GenState} (h : NG x) : Rl x x := .inl ⟨rfl, h⟩
theorem ng_run : NG .running := by intro _ _ _ _ _ _ e; cases e
theorem ng_fin : NG .finished := by intro _ _ _ _ _ _ e; cases e
theorem ng_fresh {c : Code} : NG (.fresh c) := by intro _ _ _ _ _ _ e; cases e
variable {a b c d e f : Array GenState} {g : Nat} {x y : GenState}
theorem GR.get (h : GR a b) (e : a[g]? = some x) : ∃ y, b[g]? = some y ∧ Rl x y := by
  have hg : g < a.size := (Array.getElem?_eq_some_iff.mp e).1
  have hb : g < b.size := by rw [h.sz]; exact hg
  exact ⟨b[g], Array.getElem?_eq_getElem hb, h.rl g x _ e (Array.getElem?_eq_getElem hb)⟩
theorem GR.awake (h : GR a b) (e : a[g]? = some x) (n : ¬ St x) : b[g]? = some x ∧ NG x := by
  obtain ⟨y, hy, r⟩ := h.get e
  rcases r with ⟨rfl, ng⟩ | ⟨s, _⟩
  · exact ⟨hy, ng⟩
  · exact absurd s n
theorem get_set {i : Nat} : (a.setIfInBounds g x)[i]? = if i = g then (if g < a.size then some x else none) else a[i]? := by
  by_cases h : i = g
  · subst h
    rw [if_pos rfl]
    by_cases h2 : i < a.size
    · rw [if_pos h2]; simp [h2]
    · rw [if_neg h2]; simp [h2]
  · rw [if_neg h, Array.getElem?_setIfInBounds_ne (Ne.symm h)]
theorem GR.set (h : GR a b) (r : Rl x y) : GR (a.setIfInBounds g x) (b.setIfInBounds g y) := by
  refine ⟨by rw [Array.size_setIfInBounds, Array.size_setIfInBounds, h.sz], fun i u v e1 e2 => ?_⟩
  rw [get_set] at e1 e2
  by_cases z : i = g
  · rw [if_pos z] at e1 e2
    rw [h.sz] at e2
    by_cases z2 : g < a.size
    · rw [if_pos z2] at e1 e2
      cases e1; cases e2; exact r
    · rw [if_neg z2] at e1
      cases e1
  · rw [if_neg z] at e1 e2
    exact h.rl i u v e1 e2
theorem GR.push (h : GR a b) (r : Rl x y) : GR (a.push x) (b.push y) := by
  refine ⟨by rw [Array.size_push, Array.size_push, h.sz], fun i u v e1 e2 => ?_⟩
  rw [Array.getElem?_push] at e1 e2
  rw [h.sz] at e2
  split at e1
  · rename_i z
    rw [if_pos z] at e2
    cases e1; cases e2; exact r
  · rename_i z
    rw [if_neg z] at e2
    exact h.rl i u v e1 e2
theorem Kp.refl : Kp a b a b := ⟨fun _ _ e _ => ⟨e, rfl⟩⟩
theorem Kp.trans (h : Kp a b c d) (k : Kp c d e f) : Kp a b e f := ⟨fun i x ex sx => by
  obtain ⟨h1, h2⟩ := h.kp i x ex sx
  obtain ⟨k1, k2⟩ := k.kp i x h1 sx
  exact ⟨k1, k2.trans h2⟩⟩
theorem Kp.pushed (h : GR a b) : Kp a b (a.push x) (b.push y) := ⟨fun i u e _ => by
  have hi : i < a.size := (Array.getElem?_eq_some_iff.mp e).1
  rw [Array.getElem?_push, Array.getElem?_push, if_neg (by omega), if_neg (by rw [h.sz]; omega)]
  exact ⟨e, rfl⟩⟩
/-- one that is awake is set -/
theorem Kp.setr (k : Kp a b c d) (n : ∀ z, a[g]? = some z → ¬ St z) : Kp a b (c.setIfInBounds g x) (d.setIfInBounds g y) := ⟨fun i u e su => by
  have hne : i ≠ g := fun z => n u (by rw [← z]; exact e) su
  obtain ⟨h1, h2⟩ := k.kp i u e su
  rw [get_set, get_set, if_neg hne, if_neg hne]
  exact ⟨h1, h2⟩⟩
theorem Kp.setl (k : Kp (a.setIfInBounds g x) (b.setIfInBounds g y) c d) (n : ∀ z, a[g]? = some z → ¬ St z) : Kp a b c d := ⟨fun i u e su => by
  have hne : i ≠ g := fun z => n u (by rw [← z]; exact e) su
  obtain ⟨h1, h2⟩ := k.kp i u (by rw [get_set, if_neg hne]; exact e) su
  rw [get_set, if_neg hne] at h2
  exact ⟨h1, h2⟩⟩
theorem split_ret {k : Result → Sem Fin} {h : Option Value} {g : Bool} {l : List Value} {c : Code} {p : Pos} {kp : List Value} {fs : List Frame} (e : splitAtGen (.ret k h g l c p kp :: fs) = none) : splitAtGen fs = none := by
  have e : (splitAtGen fs).map _ = none := e
  cases q : splitAtGen fs with
  | none => rfl
  | some z => rw [q] at e; cases e
theorem split_gen {n : Nat} {k : GenResult → Sem Fin} {l : List Value} {c : Code} {p : Pos} {fs : List Frame} (e : splitAtGen (.gen n k l c p :: fs) = none) : False := by
  cases (show some _ = none from e)
theorem split_app : ∀ {fs gs : List Frame}, splitAtGen fs = none → splitAtGen gs = none → splitAtGen (fs ++ gs) = none
  | [], _, _, h => h
  | .gen .. :: _, _, h, _ => (split_gen h).elim
  | .ret k h g l c p kp :: fs, gs, h1, h2 => by
    show (splitAtGen (fs ++ gs)).map _ = none
    rw [split_app (split_ret h1) h2]
    rfl
def NGE : End → Prop
  | .ret _ => True
  | .susp _ _ _ _ _ _ fs => splitAtGen fs = none
theorem nge_gen {e : End} (h : NGE e) : NG e.genState := by
  cases e with
  | ret r => exact ng_fin
  | susp v g l k c p fs =>
    intro k' l' c' p' fs' cl' q
    cases q
    exact h
/-- nothing that cannot go on ends -/
theorem no_run {M : Model} {Γ : Ctx} {p : Pos} {t : Sem Fin} {fs : List Frame} {s s' : Shared} {e : End} (h : Runs M Γ p t fs s e s') : ∀ w, t ≠ .unsupported w := by
  induction h with
  | segRet _ _ ih _ => exact ih
  | segGen _ _ ih _ => exact ih
  | segSuspOut _ _ ih => exact ih
  | segSuspGen _ _ _ _ ih _ => exact ih
  | _ => intro w z; cases z
theorem not_st {M : Model} {Γ : Ctx} {p : Pos} {r : Resume} {k : Resume → Sem Fin} {l : List Value} {c : Code} {p0 : Pos} {fs : List Frame} {cl : Bool} {s s' : Shared} {e : End} (h : Runs M Γ p (k r) fs s e s') : ¬ St (.suspended k l c p0 fs cl) := by
  rintro ⟨w, _, _, _, _, _, z⟩
  cases z
  exact no_run h w rfl
theorem runs_sw {M : Model} {Γ : Ctx} {p : Pos} {t : Sem Fin} {fs : List Frame} {s s' : Shared} {e : End} (h : Runs M Γ p t fs s e s') : splitAtGen fs = none → ∀ G, GR s.gens G →
    ∃ G', Runs M Γ p t fs { s with gens := G } e { s' with gens := G' } ∧ GR s'.gens G' ∧ NGE e ∧ Kp s.gens G s'.gens G' := by
  induction h with
  | done => intro _ G hG; exact ⟨G, .done, hG, trivial, .refl⟩
  | raise => intro _ G hG; exact ⟨G, .raise, hG, trivial, .refl⟩
  | again q _ ih => intro hf G hG; obtain ⟨G', r, a1, a2, a3⟩ := ih hf G hG; exact ⟨G', .again q r, a1, a2, a3⟩
  | rule _ ih => intro hf G hG; obtain ⟨G', r, a1, a2, a3⟩ := ih hf G hG; exact ⟨G', .rule r, a1, a2, a3⟩
  | «at» _ ih => intro hf G hG; obtain ⟨G', r, a1, a2, a3⟩ := ih hf G hG; exact ⟨G', .at r, a1, a2, a3⟩
  | load q _ ih => intro hf G hG; obtain ⟨G', r, a1, a2, a3⟩ := ih hf G hG; exact ⟨G', .load q r, a1, a2, a3⟩
  | update q _ ih => intro hf G hG; obtain ⟨G', r, a1, a2, a3⟩ := ih hf G hG; exact ⟨G', .update q r, a1, a2, a3⟩
  | loadIfAlive _ ih => intro hf G hG; obtain ⟨G', r, a1, a2, a3⟩ := ih hf G hG; exact ⟨G', .loadIfAlive r, a1, a2, a3⟩
  | point _ ih => intro hf G hG; obtain ⟨G', r, a1, a2, a3⟩ := ih hf G hG; exact ⟨G', .point r, a1, a2, a3⟩
  | alloc _ ih => intro hf G hG; obtain ⟨G', r, a1, a2, a3⟩ := ih hf G hG; exact ⟨G', .alloc r, a1, a2, a3⟩
  | fresh _ ih => intro hf G hG; obtain ⟨G', r, a1, a2, a3⟩ := ih hf G hG; exact ⟨G', .fresh r, a1, a2, a3⟩
  | ask _ ih => intro hf G hG; obtain ⟨G', r, a1, a2, a3⟩ := ih hf G hG; exact ⟨G', .ask r, a1, a2, a3⟩
  | choose q _ ih => intro hf G hG; obtain ⟨G', r, a1, a2, a3⟩ := ih hf G hG; exact ⟨G', .choose q r, a1, a2, a3⟩
  | os _ ih => intro hf G hG; obtain ⟨G', r, a1, a2, a3⟩ := ih hf G hG; exact ⟨G', .os r, a1, a2, a3⟩
  | handled _ ih => intro hf G hG; obtain ⟨G', r, a1, a2, a3⟩ := ih hf G hG; exact ⟨G', .handled r, a1, a2, a3⟩
  | genState q _ ih =>
    intro hf G hG
    obtain ⟨G', r, a1, a2, a3⟩ := ih hf G hG
    obtain ⟨y, hy, rl⟩ := hG.get q
    rcases rl with ⟨rfl, _⟩ | ⟨_, z, _⟩
    · exact ⟨G', .genState hy r, a1, a2, a3⟩
    · rw [z] at r
      exact ⟨G', .genState hy r, a1, a2, a3⟩
  | stack _ ih => intro hf G hG; obtain ⟨G', r, a1, a2, a3⟩ := ih hf G hG; exact ⟨G', .stack r, a1, a2, a3⟩
  | thread _ ih => intro hf G hG; obtain ⟨G', r, a1, a2, a3⟩ := ih hf G hG; exact ⟨G', .thread r, a1, a2, a3⟩
  | newGen _ ih =>
    intro hf G hG
    obtain ⟨G', r, a1, a2, a3⟩ := ih hf _ (hG.push (rl_self ng_fresh))
    rw [← hG.sz] at r
    exact ⟨G', .newGen r, a1, a2, (Kp.pushed hG).trans a3⟩
  | call _ _ ih1 ih2 =>
    intro hf G hG
    obtain ⟨G1, r1, a1, a2, a3⟩ := ih1 rfl G hG
    obtain ⟨G2, r2, b1, b2, b3⟩ := ih2 rfl G1 a1
    exact ⟨G2, .call r1 r2, b1, b2, a3.trans b3⟩
  | callSusp _ ih =>
    intro hf G hG
    obtain ⟨G1, r1, a1, a2, a3⟩ := ih rfl G hG
    exact ⟨G1, .callSusp r1, a1, split_app a2 rfl, a3⟩
  | yield => intro hf G hG; exact ⟨G, .yield, hG, rfl, .refl⟩
  | @resumeFresh Γ p g l k s c e1 s1 e s' q _ hq _ ih1 ih2 =>
    intro hf G hG
    obtain ⟨hy, _⟩ := hG.awake q st_fresh
    have na : ∀ z, s.gens[g]? = some z → ¬ St z := fun z hz => by rw [q] at hz; cases hz; exact st_fresh
    obtain ⟨G1, r1, a1, a2, a3⟩ := ih1 rfl _ (hG.set (g := g) (rl_self ng_run))
    obtain ⟨G2, r2, b1, b2, b3⟩ := ih2 hf _ (a1.set (g := g) (rl_self (nge_gen a2)))
    exact ⟨G2, .resumeFresh hy r1 hq r2, b1, b2, ((Kp.setl a3 na).setr na).trans b3⟩
  | @resumeSuspended Γ p g r l k s k0 l0 c0 p0 fs cl e1 s1 e s' q h1 hq _ ih1 ih2 =>
    intro hf G hG
    obtain ⟨hy, ng⟩ := hG.awake q (not_st h1)
    have na : ∀ z, s.gens[g]? = some z → ¬ St z := fun z hz => by rw [q] at hz; cases hz; exact not_st h1
    obtain ⟨G1, r1, a1, a2, a3⟩ := ih1 (ng _ _ _ _ _ _ rfl) _ (hG.set (g := g) (rl_self ng_run))
    obtain ⟨G2, r2, b1, b2, b3⟩ := ih2 hf _ (a1.set (g := g) (rl_self (nge_gen a2)))
    exact ⟨G2, .resumeSuspended hy r1 hq r2, b1, b2, ((Kp.setl a3 na).setr na).trans b3⟩
  | resumeJustStarted q n _ ih =>
    intro hf G hG
    obtain ⟨hy, _⟩ := hG.awake q st_fresh
    obtain ⟨G', r, a1, a2, a3⟩ := ih hf G hG
    exact ⟨G', .resumeJustStarted hy n r, a1, a2, a3⟩
  | resumeThrowFresh q _ ih =>
    intro hf G hG
    obtain ⟨hy, _⟩ := hG.awake q st_fresh
    obtain ⟨G', r, a1, a2, a3⟩ := ih hf _ (hG.set (rl_self ng_fin))
    exact ⟨G', .resumeThrowFresh hy r, a1, a2, Kp.setl a3 (fun z hz => by rw [q] at hz; cases hz; exact st_fresh)⟩
  | resumeRunning q _ ih =>
    intro hf G hG
    obtain ⟨hy, _⟩ := hG.awake q st_run
    obtain ⟨G', r, a1, a2, a3⟩ := ih hf G hG
    exact ⟨G', .resumeRunning hy r, a1, a2, a3⟩
  | resumeFinished q _ ih =>
    intro hf G hG
    obtain ⟨hy, _⟩ := hG.awake q st_fin
    obtain ⟨G', r, a1, a2, a3⟩ := ih hf G hG
    exact ⟨G', .resumeFinished hy r, a1, a2, a3⟩
  | segRet _ _ ih1 ih2 =>
    intro hf G hG
    obtain ⟨G1, r1, a1, a2, a3⟩ := ih1 rfl G hG
    obtain ⟨G2, r2, b1, b2, b3⟩ := ih2 (split_ret hf) G1 a1
    exact ⟨G2, .segRet r1 r2, b1, b2, a3.trans b3⟩
  | segGen _ _ _ _ => intro hf; exact (split_gen hf).elim
  | segSuspOut q _ ih =>
    intro hf G hG
    obtain ⟨G1, r1, a1, a2, a3⟩ := ih rfl G hG
    exact ⟨G1, .segSuspOut q r1, a1, split_app a2 q, a3⟩
  | segSuspGen q _ _ _ _ _ => intro hf; rw [hf] at q; cases q
theorem returns_sw {M : Model} {Γ : Ctx} {p : Pos} {s s' : Shared} {r : Result} (h : Returns M Γ p s r s') {G : Array GenState} (hG : GR s.gens G) :
    ∃ G', Returns M Γ p { s with gens := G } r { s' with gens := G' } ∧ GR s'.gens G' ∧ Kp s.gens G s'.gens G' := by
  obtain ⟨G', a, b, _, d⟩ := runs_sw h rfl G hG
  exact ⟨G', a, b, d⟩
theorem wakes_sw {M : Model} {Γ : Ctx} {p : Pos} {g : Nat} {r : Resume} {s s' : Shared} {res : GenResult} (h : Wakes M Γ p g r s res s') {G : Array GenState} (hG : GR s.gens G) :
    ∃ G', Wakes M Γ p g r { s with gens := G } res { s' with gens := G' } ∧ GR s'.gens G' ∧ Kp s.gens G s'.gens G' := by
  unfold Wakes at h
  split at h
  · exact h.elim
  · rename_i c q
    obtain ⟨hy, _⟩ := hG.awake q st_fresh
    have na : ∀ z, s.gens[g]? = some z → ¬ St z := fun z hz => by rw [q] at hz; cases hz; exact st_fresh
    split at h
    · obtain ⟨e1, s1, hr, hq, rfl, rfl⟩ := h
      obtain ⟨G1, r1, a1, a2, a3⟩ := runs_sw hr rfl _ (hG.set (g := g) (rl_self ng_run))
      refine ⟨G1.setIfInBounds g e1.genState, ?_, a1.set (rl_self (nge_gen a2)), (Kp.setl a3 na).setr na⟩
      unfold Wakes
      rw [show ({ s with gens := G } : Shared).gens[g]? = some (.fresh c) from hy]
      exact ⟨e1, _, r1, hq, rfl, rfl⟩
    · obtain ⟨rfl, rfl⟩ := h
      refine ⟨G, ?_, hG, .refl⟩
      unfold Wakes
      rw [show ({ s' with gens := G } : Shared).gens[g]? = some (.fresh c) from hy]
      rename_i v hv
      cases v <;> first | exact ⟨rfl, rfl⟩ | exact absurd rfl hv
    · obtain ⟨rfl, rfl⟩ := h
      refine ⟨G.setIfInBounds g .finished, ?_, hG.set (rl_self ng_fin), (Kp.refl).setr na⟩
      unfold Wakes
      rw [show ({ s with gens := G } : Shared).gens[g]? = some (.fresh c) from hy]
      exact ⟨rfl, rfl⟩
  · rename_i k0 l0 c0 p0 fs cl q
    obtain ⟨e1, s1, hr, hq, rfl, rfl⟩ := h
    obtain ⟨hy, ng⟩ := hG.awake q (not_st hr)
    have na : ∀ z, s.gens[g]? = some z → ¬ St z := fun z hz => by rw [q] at hz; cases hz; exact not_st hr
    obtain ⟨G1, r1, a1, a2, a3⟩ := runs_sw hr (ng _ _ _ _ _ _ rfl) _ (hG.set (g := g) (rl_self ng_run))
    refine ⟨G1.setIfInBounds g e1.genState, ?_, a1.set (rl_self (nge_gen a2)), (Kp.setl a3 na).setr na⟩
    unfold Wakes
    rw [show ({ s with gens := G } : Shared).gens[g]? = _ from hy]
    exact ⟨e1, _, r1, hq, rfl, rfl⟩
  · rename_i q
    obtain ⟨rfl, rfl⟩ := h
    obtain ⟨hy, _⟩ := hG.awake q st_run
    refine ⟨G, ?_, hG, .refl⟩
    unfold Wakes
    rw [show ({ s' with gens := G } : Shared).gens[g]? = _ from hy]
    exact ⟨rfl, rfl⟩
  · rename_i q
    obtain ⟨rfl, rfl⟩ := h
    obtain ⟨hy, _⟩ := hG.awake q st_fin
    refine ⟨G, ?_, hG, .refl⟩
    unfold Wakes
    rw [show ({ s' with gens := G } : Shared).gens[g]? = _ from hy]
    exact ⟨rfl, rfl⟩
/-- how the run with the sleepers stands to the run without them -/
def SW (a b : Array GenState) (s0 s' : Shared) : Prop := ∃ G', s' = { s0 with gens := G' } ∧ GR s0.gens G' ∧ Kp a b s0.gens G'
theorem SW.pre {a b c d : Array GenState} {s0 s' : Shared} (k : Kp a b c d) (h : SW c d s0 s') : SW a b s0 s' := by
  obtain ⟨G', e, r, k'⟩ := h
  exact ⟨G', e, r, k.trans k'⟩
theorem wp_sw {α : Type} (M : Model) (Γ : Ctx) (t : Sem α) : ∀ (Q : α → Pos → Shared → Prop) (E : Value → Pos → Shared → Prop) (p : Pos) (s : Shared) (G : Array GenState), GR s.gens G → wp M Γ t Q E p s →
    wp M Γ t (fun a p' s' => ∃ s0, SW s.gens G s0 s' ∧ Q a p' s0) (fun e p' s' => ∃ s0, SW s.gens G s0 s' ∧ E e p' s0) p { s with gens := G } := by
  have fin : ∀ {s : Shared} {G : Array GenState}, GR s.gens G → SW s.gens G s { s with gens := G } := fun h => ⟨_, rfl, h, .refl⟩
  induction t with
  | pure a => intro Q E p s G hG h; exact ⟨s, fin hG, h⟩
  | raise e => intro Q E p s G hG h; exact ⟨s, fin hG, h⟩
  | unsupported _ => intro Q E p s G _ h; exact h
  | finish _ => intro Q E p s G _ h; exact h
  | rule _ k ih => intro Q E p s G hG h; exact ih () Q E p s G hG h
  | «at» p' k ih => intro Q E p s G hG h; exact ih () Q E p' s G hG h
  | load a _ k ih => intro Q E p s G hG h; obtain ⟨o, ho, h⟩ := h; exact ⟨o, ho, ih o Q E p s G hG h⟩
  | update a _ f k ih => intro Q E p s G hG h; exact ⟨h.1, ih () Q E p { s with heap := s.heap.update a f } G hG h.2⟩
  | loadIfAlive a k ih => intro Q E p s G hG h; exact ih _ Q E p s G hG h
  | point _ k ih => intro Q E p s G hG h; exact ih () Q E p s G hG h
  | register _ _ => intro Q E p s G _ h; exact h
  | alloc o k ih => intro Q E p s G hG h; exact ih _ Q E p { s with heap := s.heap.push o } G hG h
  | fresh k ih => intro Q E p s G hG h; exact ih _ Q E p { s with toks := s.toks + 1 } G hG h
  | ask k ih => intro Q E p s G hG h; exact ih _ Q E p s G hG h
  | choose src m k ih => intro Q E p s G hG h; exact ⟨h.1, ih _ Q E p { s with drawn := s.drawn.bump src } G hG h.2⟩
  | os q _ k ih => intro Q E p s G hG h; exact ih _ Q E p { s with os := (Os.step s.os q).1 } G hG h
  | call c hd _ _ k ih =>
    intro Q E p s G hG h
    obtain ⟨r, s', hr, h⟩ := h
    obtain ⟨G1, r1, a1, a2⟩ := returns_sw hr hG
    exact ⟨r, _, r1, Sem.wp_mono M Γ _ (fun _ _ _ ⟨s0, w, q⟩ => ⟨s0, w.pre a2, q⟩) (fun _ _ _ ⟨s0, w, q⟩ => ⟨s0, w.pre a2, q⟩) p _ (ih r Q E p s' G1 a1 h)⟩
  | handled own k ih => intro Q E p s G hG h; exact ih _ Q E p s G hG h
  | genState g k ih =>
    intro Q E p s G hG h
    obtain ⟨st, hs, h⟩ := h
    obtain ⟨y, hy, rl⟩ := hG.get hs
    have es : st.seen = y.seen := by
      rcases rl with ⟨rfl, _⟩ | ⟨_, z, _⟩
      · rfl
      · exact z
    refine ⟨y, hy, ?_⟩
    rw [← es]
    exact ih _ Q E p s G hG h
  | newGen c k ih =>
    intro Q E p s G hG h
    have k1 : Kp s.gens G (s.gens.push (.fresh c)) (G.push (.fresh c)) := .pushed hG
    have e := ih _ Q E p { s with gens := s.gens.push (.fresh c) } (G.push (.fresh c)) (hG.push (rl_self ng_fresh)) h
    have e2 : wp M Γ (k s.gens.size) (fun a p' s' => ∃ s0, SW s.gens G s0 s' ∧ Q a p' s0) (fun x p' s' => ∃ s0, SW s.gens G s0 s' ∧ E x p' s0) p { s with gens := G.push (.fresh c) } :=
      Sem.wp_mono M Γ _ (fun _ _ _ ⟨s0, w, q⟩ => ⟨s0, w.pre k1, q⟩) (fun _ _ _ ⟨s0, w, q⟩ => ⟨s0, w.pre k1, q⟩) p _ e
    show wp M Γ (k ({ s with gens := G } : Shared).gens.size) _ _ p _
    rw [show ({ s with gens := G } : Shared).gens.size = s.gens.size from hG.sz]
    exact e2
  | resume g r _ k ih =>
    intro Q E p s G hG h
    obtain ⟨res, s', hw, h⟩ := h
    obtain ⟨G1, r1, a1, a2⟩ := wakes_sw hw hG
    exact ⟨res, _, r1, Sem.wp_mono M Γ _ (fun _ _ _ ⟨s0, w, q⟩ => ⟨s0, w.pre a2, q⟩) (fun _ _ _ ⟨s0, w, q⟩ => ⟨s0, w.pre a2, q⟩) p _ (ih res Q E p s' G1 a1 h)⟩
  | yield _ _ _ _ => intro Q E p s G _ h; exact h
  | stack k ih => intro Q E p s G hG h; exact ih _ Q E p s G hG h
  | fork _ _ => intro Q E p s G _ h; exact h
  | thread k ih => intro Q E p s G hG h; exact ih _ Q E p s G hG h
  | await _ _ _ _ _ => intro Q E p s G _ h; exact h
/-- the sleepers cannot be woken -/
def lull : GenState → GenState
  | .suspended _ l c p fs cl => .suspended (fun _ => .unsupported "") l c p fs cl
  | x => x
theorem rl_lull (x : GenState) : Rl (lull x) x := by
  cases x with
  | suspended k l c p fs cl => exact .inr ⟨⟨_, _, _, _, _, _, rfl⟩, rfl, rfl⟩
  | fresh c => exact rl_self ng_fresh
  | running => exact rl_self ng_run
  | finished => exact rl_self ng_fin
def lulled (s : Shared) : Shared := { s with gens := s.gens.map lull }
theorem gr_lull (s : Shared) : GR (lulled s).gens s.gens := by
  refine ⟨by show s.gens.size = (s.gens.map lull).size; rw [Array.size_map], fun i x y e1 e2 => ?_⟩
  have e1 : (s.gens.map lull)[i]? = some x := e1
  rw [Array.getElem?_map, e2] at e1
  cases e1
  exact rl_lull y
theorem bare_lull (x : GenState) : (lull x).bare = x.bare := by cases x <;> rfl
theorem allBare_lull {s : Shared} (h : PyProof.Rows.AllBare s.gens) : PyProof.Rows.AllBare (lulled s).gens := fun y hy => by
  obtain ⟨x, hx, rfl⟩ := Array.mem_map.mp (show y ∈ s.gens.map lull from hy)
  rw [bare_lull]
  exact h x hx
/-- behind the run: the sleepers of before sleep on -/
structure Back (s s0 s' : Shared) : Prop where
  eq : ∃ G, s0 = { s' with gens := G }
  bare : PyProof.Rows.AllBare s0.gens → PyProof.Rows.AllBare s'.gens
  sleep : ∀ (i : Nat) k l c p fs cl, s.gens[i]? = some (.suspended k l c p fs cl) → s'.gens[i]? = s.gens[i]?
theorem Back.of {s s0 s' : Shared} (h : SW (lulled s).gens s.gens s0 s') : Back s s0 s' := by
  obtain ⟨G', rfl, r, k⟩ := h
  refine ⟨⟨s0.gens, rfl⟩, fun hb y hy => ?_, fun i kk l c p fs cl e => ?_⟩
  · obtain ⟨i, hi, rfl⟩ := Array.mem_iff_getElem.mp (show y ∈ G' from hy)
    have hi2 : i < s0.gens.size := by rw [← r.sz]; exact hi
    have rl := r.rl i s0.gens[i] G'[i] (Array.getElem?_eq_getElem hi2) (Array.getElem?_eq_getElem hi)
    have hb2 := hb _ (Array.getElem_mem hi2)
    rcases rl with ⟨z, _⟩ | ⟨_, _, z⟩
    · show (G'[i]).bare = true
      rw [← z]; exact hb2
    · show (G'[i]).bare = true
      rw [← z]; exact hb2
  · have e1 : (lulled s).gens[i]? = some (lull (.suspended kk l c p fs cl)) := by
      show (s.gens.map lull)[i]? = _
      rw [Array.getElem?_map, e]
      rfl
    exact (k.kp i _ e1 ⟨_, _, _, _, _, _, rfl⟩).2
/-- THE RULE -/
theorem wpAny_sw {α : Type} {M : Model} {A : Around} {t : Sem α} {Q : α → Shared → Prop} {E : Value → Shared → Prop} {s : Shared} (h : wpAny M A t Q E (lulled s)) :
    wpAny M A t (fun a s' => ∃ s0, Back s s0 s' ∧ Q a s0) (fun e s' => ∃ s0, Back s s0 s' ∧ E e s0) s := fun Γ p hΓ =>
  Sem.wp_mono M Γ t (fun _ _ _ ⟨s0, w, q⟩ => ⟨s0, .of w, q⟩) (fun _ _ _ ⟨s0, w, q⟩ => ⟨s0, .of w, q⟩) p s (wp_sw M Γ t _ _ p (lulled s) s.gens (gr_lull s) (h Γ p hΓ))
end Sw

/-! Gl: loops over a generator of the program's own that hands out what a zip gives. -/
namespace Gl
open PySem PySem.Spec PyProof.Rows L2 GenW
/-! ### a run up to its next stop, whatever is wanted there -/
def Sg (M : Model) (A : Around) (Φ : End → Shared → Prop) (c : Code) (t : Sem PySem.Fin) (fs : List Frame) (s : Shared) : Prop :=
  ∀ Γ p, Γ.code = c → Γ.Woken A → ∃ e s', Runs M Γ p t fs s e s' ∧ Φ e s'
section
variable {M : Model} {A : Around} {Φ : End → Shared → Prop} {c : Code} {fs : List Frame} {s : Shared}
theorem sg_wrap {α : Type} {m : Sem α} {K : α → Sem PySem.Fin} {J : Value → Sem PySem.Fin} {gd lv} (h : wpAny M (A.over c fs) m (fun a s' => Sg M A Φ c (K a) fs s') (fun x s' => Sg M A Φ c (J x) fs s') s) : Sg M A Φ c (m.wrap K J gd lv) fs s := by
  rintro Γ p rfl hΓ
  refine runs_wrap_of_wp K J gd lv m (h (Γ.over fs) p (hΓ.over fs)) ?_ ?_
  · intro a p' s' h'
    exact h' Γ p' rfl hΓ
  · intro x p' s' h'
    exact h' Γ p' rfl hΓ
theorem sg_bind {α : Type} {m : Sem α} {K : α → Sem PySem.Fin} (h : wpAny M (A.over c fs) m (fun a s' => Sg M A Φ c (K a) fs s') (fun x s' => Sg M A Φ c (.raise x) fs s') s) : Sg M A Φ c (m >>= K) fs s := by
  rw [Sem.bind_eq_wrap']
  exact sg_wrap h
theorem sg_at {p' : Pos} {k : Unit → Sem PySem.Fin} (h : Sg M A Φ c (k ()) fs s) : Sg M A Φ c (.at p' k) fs s :=
  sg_wrap (m := standAt p') (K := k) (J := .raise) (gd := id) (lv := id) (wpAny_standAt h)
theorem sg_point {l : List Value} {k : Unit → Sem PySem.Fin} (h : Sg M A Φ c (k ()) fs s) : Sg M A Φ c (.point l k) fs s :=
  sg_wrap (m := point) (K := k) (J := .raise) (gd := id) (lv := fun _ => l) (wpAny_point h)
theorem sg_call {c' : Code} {h g l} {k : Result → Sem PySem.Fin} (hc : ∀ p, Sg M A Φ c' (M.den c') (.ret k h g l c p [] :: fs) s) : Sg M A Φ c (.call c' h g l k) fs s := by
  rintro Γ p rfl hΓ
  obtain ⟨e, s', hr, he⟩ := hc p (Γ.goto c') p rfl (hΓ.goto c')
  exact ⟨e, s', runs_call_seg hr, he⟩
theorem sg_leaf {k h g l c₁ p₁ kp} (r : Result) (hk : Sg M A Φ c₁ (k r) fs s) : Sg M A Φ c (leafOf r) (.ret k h g l c₁ p₁ kp :: fs) s := by
  rintro Γ p rfl hΓ
  obtain ⟨e, s', hr, he⟩ := hk (Γ.goto c₁) p₁ rfl (hΓ.goto c₁)
  exact ⟨e, s', Runs.pop r hr, he⟩
theorem sg_again {c' : Code} (hq : c'.quiet = true) (hc : Sg M A Φ c' (M.den c') fs s) : Sg M A Φ c (.pure (.again c')) fs s := by
  rintro Γ p rfl hΓ
  obtain ⟨e, s', hr, he⟩ := hc (Γ.goto c') p rfl (hΓ.goto c')
  exact ⟨e, s', Runs.head (c₁ := c') (fun _ _ x => .again hq x) hr, he⟩
theorem sg_end (r : Result) (h : Φ (.ret r) s) : Sg M A Φ c (leafOf r) [] s := by
  rintro Γ p rfl _
  exact ⟨.ret r, s, Runs.leaf r, h⟩
theorem sg_yield {v g l} {k : Resume → Sem PySem.Fin} (hfs : splitAtGen fs = none) (h : ∀ p, Φ (.susp v g l k c p fs) s) : Sg M A Φ c (.yield v g l k) fs s := by
  rintro Γ p rfl _
  exact ⟨_, s, Runs.yield' fs hfs, h p⟩
end
/-! ### a heap up to L -/
def cut (h : Heap) (L : Nat) : Heap := ⟨h.objs.extract 0 L, h.life⟩
theorem cut_size {h : Heap} {L : Nat} (hl : L ≤ h.objs.size) : (cut h L).objs.size = L := by
  show (h.objs.extract 0 L).size = L
  rw [Array.size_extract]
  omega
theorem cut_lt {h : Heap} {L b : Nat} (hb : b < L) : (cut h L).get? b = h.get? b := by
  have e : (h.objs.extract 0 L)[b]? = h.objs[b]? := by
    rw [Array.getElem?_extract]
    by_cases hs : b < h.objs.size
    · rw [if_pos (by omega)]
      simp
    · rw [if_neg (by omega)]
      simp [hs]
  show (match (h.objs.extract 0 L)[b]? with | some ⟨_, _, .freed, _⟩ => none | o => o) = _
  rw [e]
  rfl
theorem cut_some {h : Heap} {L b : Nat} {o : Obj} (hl : L ≤ h.objs.size) (e : (cut h L).get? b = some o) : b < L ∧ h.get? b = some o := by
  have hb : b < L := by
    have := Heap.lt_size e
    rwa [cut_size hl] at this
  rw [cut_lt hb] at e
  exact ⟨hb, e⟩
theorem cut_funs {h base : Heap} {L : Nat} : ∀ {l : List Env}, h.FunFrames base l → (∀ b ∈ frs l, b < L) → (cut h L).FunFrames base l
  | [], _, _ => trivial
  | env :: l, ⟨hk, ⟨a, o, hf, hn, ho, hd⟩, hr⟩, hb => by
    have e : frs (env :: l) = a :: frs l := by
      show List.filterMap _ _ = _
      rw [List.filterMap_cons, hf]
      rfl
    rw [e] at hb
    exact ⟨hk, ⟨a, o, hf, hn, by rw [cut_lt (hb a List.mem_cons_self)]; exact ho, hd⟩, cut_funs hr fun b hm => hb b (List.mem_cons_of_mem _ hm)⟩
/-! ### all that stands, as it stands -/
/-- an object that is a list of these -/
def IsL (o : Obj) (xs : List V) : Prop := xs.length ≤ sizeLine ∧ ∃ (its : List Value) (n : Nat), Vals xs its ∧ o = { cls := .type "list", data := .seq its.toArray n }
def Fz (h base : Heap) (fs pr : List Addr) (ls : Addr → Option (List V)) : Hp := fun b =>
  if b ∈ pr then none else if b ∈ fs then none else if (base.get? b).isSome then none else
    match h.get? b with
    | none => none
    | some o => match ls b with
      | some xs => some (.frz o (.lst xs))
      | none => some (.frz o (.own 0))
section
variable {h base : Heap} {fs pr : List Addr} {ls : Addr → Option (List V)} {P : Program} {w : World}
theorem fz_pr {b : Addr} (hb : b ∈ pr) : Fz h base fs pr ls b = none := if_pos hb
theorem fz_fs {b : Addr} (hb : b ∈ fs) : Fz h base fs pr ls b = none := by
  unfold Fz
  by_cases hp : b ∈ pr
  · rw [if_pos hp]
  · rw [if_neg hp, if_pos hb]
theorem fz_base {b : Addr} {o : Obj} (hb : base.get? b = some o) : Fz h base fs pr ls b = none := by
  unfold Fz
  by_cases hp : b ∈ pr
  · rw [if_pos hp]
  by_cases hf : b ∈ fs
  · rw [if_neg hp, if_pos hf]
  · rw [if_neg hp, if_neg hf, if_pos (by rw [hb]; rfl)]
theorem fz_new {b : Addr} (hb : h.get? b = none) : Fz h base fs pr ls b = none := by
  unfold Fz
  by_cases hp : b ∈ pr
  · rw [if_pos hp]
  by_cases hf : b ∈ fs
  · rw [if_neg hp, if_pos hf]
  by_cases hz : (base.get? b).isSome = true
  · rw [if_neg hp, if_neg hf, if_pos hz]
  · rw [if_neg hp, if_neg hf, if_neg hz, hb]
/-- whatever else stands is locked -/
theorem fz_get {b : Addr} {o : Obj} (hb : h.get? b = some o) (h1 : b ∉ pr) (h2 : b ∉ fs) (h3 : base.get? b = none) : ∃ u, Fz h base fs pr ls b = some (.frz o u) := by
  unfold Fz
  rw [if_neg h1, if_neg h2, if_neg (by rw [h3]; exact Bool.false_ne_true), hb]
  cases ls b with
  | none => exact ⟨_, rfl⟩
  | some xs => exact ⟨_, rfl⟩
theorem fz_lst {b : Addr} {o : Obj} {xs : List V} (hb : h.get? b = some o) (h1 : b ∉ pr) (h2 : b ∉ fs) (h3 : base.get? b = none) (hl : ls b = some xs) : Fz h base fs pr ls b = some (.frz o (.lst xs)) := by
  unfold Fz
  rw [if_neg h1, if_neg h2, if_neg (by rw [h3]; exact Bool.false_ne_true), hb]
  simp only [hl]
theorem fz_inv {b : Addr} {u : HO} (e : Fz h base fs pr ls b = some u) : ∃ o, h.get? b = some o ∧ b ∉ pr ∧ b ∉ fs ∧ base.get? b = none ∧ ((∃ xs, ls b = some xs ∧ u = .frz o (.lst xs)) ∨ u = .frz o (.own 0)) := by
  unfold Fz at e
  by_cases hp : b ∈ pr
  · rw [if_pos hp] at e; cases e
  by_cases hf : b ∈ fs
  · rw [if_neg hp, if_pos hf] at e; cases e
  by_cases hz : (base.get? b).isSome = true
  · rw [if_neg hp, if_neg hf, if_pos hz] at e; cases e
  rw [if_neg hp, if_neg hf, if_neg hz] at e
  have hb : base.get? b = none := by
    cases q : base.get? b with
    | none => rfl
    | some o => rw [q] at hz; exact absurd rfl hz
  cases q : h.get? b with
  | none => rw [q] at e; cases e
  | some o =>
    rw [q] at e
    cases q2 : ls b with
    | none =>
      simp only [q2] at e
      cases e
      exact ⟨o, rfl, hp, hf, hb, .inr rfl⟩
    | some xs =>
      simp only [q2] at e
      cases e
      exact ⟨o, rfl, hp, hf, hb, .inl ⟨xs, rfl, rfl⟩⟩
theorem fz_hok (hl : ∀ b xs, ls b = some xs → ∃ o, h.get? b = some o ∧ IsL o xs) : HOk P w (Fz h base fs pr ls) h := fun b u e => by
  obtain ⟨o, ho, _, _, _, hu⟩ := fz_inv e
  rcases hu with ⟨xs, hx, rfl⟩ | rfl
  · obtain ⟨o', ho', z, its, n, r, eo⟩ := hl b xs hx
    rw [ho] at ho'
    cases ho'
    exact ⟨ho, z, its, n, r, by rw [ho, eo]⟩
  · exact ⟨ho, o, ho⟩
end
/-! ### the generator's own context -/
def gX (P : Program) (w : World) (K : PySem.W.Frag) (mg : Str → Option Value) (base : Heap) (N : List Str) (A : Around) (env : Env) (outer : List Env) (s0 : Shared) (H0 : Hp) : Cx where
  prog := P
  w := w
  K := K
  mg := mg
  base := base
  A := A
  N := N
  s_0 := s0
  H_0 := H0
  env := env
  outer := outer
  stack := env :: outer
  ex := []
  calm := true
  fn := fun _ => true
  pn := []
  xe := fun _ _ => False
/-- a generator def's frame, without cells -/
structure GEnv (env : Env) : Prop where
  kind : env.scope.kind = .function
  glob : env.globals = mainGlobals
  blt : env.builtins = builtinsNs
  fr : env.frame = some env.locals
  cells : env.cells = []
  nc : ∀ x, env.kindOf x ≠ some .cell ∧ env.kindOf x ≠ some .free
  co : env.scope.isCoroutine = false
section
variable {P : Program} {w : World} {K : PySem.W.Frag} {mg : Str → Option Value} {base : Heap} {N : List Str} {A : Around} {env : Env} {outer : List Env} {s : Shared} {H : Hp} {pr : List Addr} {ls : Addr → Option (List V)} {σ : L2.St}
/-- where a turn of the generator begins: all else is locked -/
abbrev Hz (env : Env) (base : Heap) (outer : List Env) (s : Shared) (pr : List Addr) (ls : Addr → Option (List V)) : Hp := Fz s.heap base (frs outer) (env.locals :: pr) ls
abbrev Xz (P : Program) (w : World) (K : PySem.W.Frag) (mg : Str → Option Value) (base : Heap) (N : List Str) (A : Around) (env : Env) (outer : List Env) (s : Shared) (pr : List Addr) (ls : Addr → Option (List V)) : Cx :=
  gX P w K mg base N A env outer { s with heap := cut s.heap env.locals } (Hz env base outer s pr ls)
theorem inv_fz (G : GEnv env) (e0 : Env0 P w K mg base A outer s H) (hfr : ∀ b ∈ frs outer, b < env.locals) (hbl : base.objs.size ≤ env.locals) (hd : A.handled = none) {A' : Around} (hA : A'.frames = some (env :: outer)) (hd' : A'.handled = none)
    (hls : ∀ b xs, ls b = some xs → ∃ o, s.heap.get? b = some o ∧ IsL o xs) (hlen : σ.length = N.length)
    (hns : ∃ m, s.heap.Ns env.locals m ∧ ∀ (i : Nat) (x : Str) (v : V), N[i]? = some x → σ[i]? = some (some v) → Vis env.scope x → ∃ u, RelV v u ∧ env.kindOf x = some .local ∧ m x = some u) :
    Inv (Xz P w K mg base N A' env outer s pr ls) [] σ (Hz env base outer s pr ls) s := by
  obtain ⟨m, hm, hv⟩ := hns
  have hL : env.locals < s.heap.objs.size := hm.lt
  have hL' : env.locals ≤ s.heap.objs.size := Nat.le_of_lt hL
  have ncl : ∀ y c, env.cells.lookup y ≠ some c := fun y c z => by rw [G.cells] at z; cases z
  refine ⟨⟨e0.mod, G.kind, G.glob, G.blt, ?_, fun x y c z => (ncl x c z).elim, fun x z => ?_, fun y c _ z => (ncl y c z).elim, fun _ => hd', hA, .inr ⟨rfl, G.fr⟩, fun b z => ?_, fun b o e => ?_, ?_, fun b _ _ z => ?_, fun b z => ?_, cut_funs e0.funs hfr, fun b hb => fz_fs hb⟩,
    rfl, e0.bare, ⟨fun b o e n _ _ => (cut_some hL' e).2, fun b o e _ _ _ => ⟨o.slots, (cut_some hL' e).2⟩, fun b o _ n _ => n, fun b o e _ => ⟨o, (cut_some hL' e).2⟩, fun b xs e => e, fun b o u e => e, fun b ps e => ⟨#[], by rw [Array.append_empty]; exact e⟩⟩,
    ⟨m, hm, fun i x v h1 h2 h3 => ?_⟩, fun y c z => (ncl y c z).elim, fz_pr List.mem_cons_self, fun y c z => (ncl y c z).elim, fun p hp => ?_, fz_hok hls, hlen⟩
  · show (cut s.heap env.locals).objs.size ≤ env.locals
    rw [cut_size hL']
    exact Nat.le_refl _
  · rcases z with z | z
    · exact absurd z (G.nc x).1
    · exact absurd z (G.nc x).2
  · exact absurd (show b ∈ ([] : List Addr) from z) (by simp)
  · obtain ⟨q1, _⟩ := e0.bs b o e
    exact ⟨by show (cut s.heap env.locals).get? b = _; rw [cut_lt (Nat.lt_of_lt_of_le (Heap.lt_size e) hbl)]; exact q1, fz_base e⟩
  · show base.objs.size ≤ (cut s.heap env.locals).objs.size
    rw [cut_size hL']
    exact hbl
  · exact absurd (show b ∈ ([] : List Addr) from z) (by simp)
  · exact absurd (show b ∈ ([] : List Addr) from z) (by simp)
  · obtain ⟨u, q1, q2, q3⟩ := hv i x v h1 h2 h3
    exact ⟨u, q1, .inl ⟨q2, q3⟩⟩
  · exact absurd (show p ∈ ([] : List (Addr × Obj)) from hp) (by simp)
/-- what a stretch of the generator's run leaves of the heap of before -/
structure Eff (base : Heap) (outer : List Env) (pr : List Addr) (s s' : Shared) : Prop where
  os : s'.os = s.os
  bare : AllBare s'.gens
  keep : ∀ b o, s.heap.get? b = some o → b ∉ pr → b ∉ frs outer → s'.heap.get? b = some o
  slot : ∀ b o, s.heap.get? b = some o → b ∈ frs outer → ∃ sl, s'.heap.get? b = some { o with slots := sl }
theorem eff_of {A' : Around} {pins : List (Addr × Obj)} {H1 : Hp} {s1 : Shared} (e0 : Env0 P w K mg base A outer s H) (hfr : ∀ b ∈ frs outer, b < env.locals) (hbl : base.objs.size ≤ env.locals)
    (I : Inv (Xz P w K mg base N A' env outer s pr ls) pins σ H1 s1) : Eff base outer (env.locals :: pr) s s1 := by
  refine ⟨I.os, I.bare, fun b o e n nf => ?_, fun b o e hb => ?_⟩
  · cases q : base.get? b with
    | some o' =>
      have hb : b < env.locals := Nat.lt_of_lt_of_le (Heap.lt_size q) hbl
      exact I.base.keep b o (by show (cut s.heap env.locals).get? b = _; rw [cut_lt hb]; exact e) (fz_base q) nf (fun z => by cases z)
    | none =>
      obtain ⟨u, hu⟩ := fz_get (base := base) (fs := frs outer) (pr := env.locals :: pr) (ls := ls) e n nf q
      exact (I.hok b _ (I.base.frzs b o u hu)).1
  · have hl := hfr b hb
    exact I.base.slot b o (by show (cut s.heap env.locals).get? b = _; rw [cut_lt hl]; exact e) (fz_fs hb) hb (fun z => by cases z)
end
end Gl
namespace Gl
open PySem PySem.Spec PyProof.Rows L2 GenW
section
variable {M : Model} {A : Around} {Φ : End → Shared → Prop} {c : Code} {fs : List Frame} {s : Shared}
theorem sg_bindw {α β : Type} {m : Sem α} {f : α → Sem β} {K : β → Sem PySem.Fin} {J : Value → Sem PySem.Fin} {gd : Bool → Bool} {lv : List Value → List Value}
    (h : wpAny M (A.over c fs) m (fun a s' => Sg M A Φ c ((f a).wrap K J gd lv) fs s') (fun x s' => Sg M A Φ c (J x) fs s') s) : Sg M A Φ c ((m >>= f).wrap K J gd lv) fs s := by
  rw [Sem.bind_eq_wrap' m f, Sem.wrap_wrap]
  exact sg_wrap h
/-- what a generator does when it is woken -/
def Wk (M : Model) (A : Around) (Φ : End → Shared → Prop) (gs : GenState) (s : Shared) : Prop :=
  match gs with
  | .fresh c => Sg M A Φ c (M.den c) [] s
  | .suspended k _ c _ fs _ => Sg M A Φ c (k (.send .none)) fs s
  | _ => False
theorem wpAny_wake {α : Type} {g : Nat} {gs : GenState} {E : Value → Shared → Prop} {l : List Value} {k : GenResult → Sem α} {Q : α → Shared → Prop} (hg : s.gens[g]? = some gs) (hgo : Wk M A Φ gs (s.setGen g .running))
    (hΦ : ∀ e s1, Φ e s1 → e.quiet = true ∧ wpAny M A (k e.result) Q E (s1.setGen g e.genState)) : wpAny M A (.resume g (.send .none) l k) Q E s := by
  intro Γ p hΓ
  rw [Sem.wp_resume]
  cases gs with
  | fresh c =>
    obtain ⟨e, s1, hr, he⟩ := hgo (Γ.wake c p) p rfl (hΓ.wake c p)
    obtain ⟨q1, q2⟩ := hΦ e s1 he
    refine ⟨_, _, ?_, q2 Γ p hΓ⟩
    unfold Wakes
    rw [hg]
    exact ⟨e, s1, hr, q1, rfl, rfl⟩
  | suspended k0 l0 c0 p0 fs0 cl =>
    obtain ⟨e, s1, hr, he⟩ := hgo (Γ.wake c0 p) p0 rfl (hΓ.wake c0 p)
    obtain ⟨q1, q2⟩ := hΦ e s1 he
    refine ⟨_, _, ?_, q2 Γ p hΓ⟩
    unfold Wakes
    rw [hg]
    exact ⟨e, s1, hr, q1, rfl, rfl⟩
  | running => exact hgo.elim
  | finished => exact hgo.elim
end
section
variable {P : Program} {w : World} {A : Around} {E : Value → Shared → Prop} {s : Shared}
/-- the next item of a generator: what it hands out, or its end without a value -/
theorem next_gl {a : Addr} {g : Nat} {gs : GenState} {Φ : End → Shared → Prop} {Q : Option Value → Shared → Prop} (hh : A.handled = none) (hl : s.heap.NoLimit) (hroom : A.depth < recursionLimit) (hg : s.heap.IsGen a g) (hgs : s.gens[g]? = some gs)
    (hgo : Wk (model P w) A.in1 Φ gs (s.setGen g .running))
    (hΦ : ∀ e s1, Φ e s1 → (∃ v l k c p fs, e = .susp v false l k c p fs ∧ fs.any Frame.guarded = false ∧ Q (some v) (s1.setGen g e.genState)) ∨
      (e = .ret (.ok (.ret .none)) ∧ ∀ h', (∀ b o, s1.heap.get? b = some o → h'.get? b = some o) → Q none { s1.setGen g .finished with heap := h' })) : wpAny (model P w) A (pyNext (.ref a)) Q E s := by
  unfold pyNext
  apply wpAny_bind
  apply wpAny_attempt
  refine wpAny_callSpecial?_slot (name := Str.ofString "__next__") hg.typeIs slot_gen_next ?_
  refine wpAny_call_entry slot_gen_next hg.typeIs entry_gen_next ?_ (args_gen_next _)
  show wpAny _ A.in1 (Builtin.Generator.genWake (.ref a) (.send .none)) _ _ s
  unfold Builtin.Generator.genWake
  refine wpAny_bind (wpAny_holding (wpAny_genNumber hg ?_))
  refine wpAny_bind (wpAny_genState hgs ?_)
  have fin : ∀ e s1, Φ e s1 → e.quiet = true := fun e s1 h => by
    rcases hΦ e s1 h with ⟨v, l, k, c, p, fs, rfl, hfs, _⟩ | ⟨rfl, _⟩
    · show (!(false || fs.any Frame.guarded)) = true
      rw [hfs]
      rfl
    · rfl
  cases gs with
  | running => exact hgo.elim
  | finished => exact hgo.elim
  | fresh c0 =>
    apply wpAny_bind
    refine wpAny_roomToWake hl hroom ?_
    show wpAny (model P w) A.in1 (.resume g (.send .none) [] _) _ _ s
    refine wpAny_wake hgs hgo fun e s1 he => ⟨fin e s1 he, ?_⟩
    rcases hΦ e s1 he with ⟨v, l, k, c, p, fs, rfl, _, q⟩ | ⟨rfl, q⟩
    · exact wpAny_pure ⟨v, rfl, wpAny_pure q⟩
    · show wpAny (model P w) A.in1 (newExc (.type "StopIteration") [] >>= _) _ _ _
      apply wpAny_bind
      simp only [newExc, newTuple]
      apply wpAny_bind
      refine wpAny_newObj_type ?_ (by size_fits)
      refine wpAny_bind (m := firstArgMember _ _) (wpAny_of_eq (a := Value.none) ?_ ?_)
      · first
          | rfl
          | (simp only [firstArgMember]; rfl)
      refine wpAny_newObj_type ?_ (by size_fits)
      simp only [raiseNew]
      refine wpAny_bind (wpAny_bind (wpAny_handled ?_))
      rw [show A.in1.handled = none from hh]
      refine wpAny_throw (wpAny_bind ?_)
      refine wpAny_isInstance (T := "StopIteration") (b := true) ⟨_, Heap.get?_push_size _ rfl, rfl⟩ isSubtype_stop ?_
      exact wpAny_pure (q _ fun b o hb => Heap.get?_push_of_some _ (Heap.get?_push_of_some _ hb))
  | suspended k0 l0 c0 p0 fs0 cl =>
    apply wpAny_bind
    refine wpAny_roomToWake hl hroom ?_
    show wpAny (model P w) A.in1 (.resume g (.send .none) [] _) _ _ s
    refine wpAny_wake hgs hgo fun e s1 he => ⟨fin e s1 he, ?_⟩
    rcases hΦ e s1 he with ⟨v, l, k, c, p, fs, rfl, _, q⟩ | ⟨rfl, q⟩
    · exact wpAny_pure ⟨v, rfl, wpAny_pure q⟩
    · show wpAny (model P w) A.in1 (newExc (.type "StopIteration") [] >>= _) _ _ _
      apply wpAny_bind
      simp only [newExc, newTuple]
      apply wpAny_bind
      refine wpAny_newObj_type ?_ (by size_fits)
      refine wpAny_bind (m := firstArgMember _ _) (wpAny_of_eq (a := Value.none) ?_ ?_)
      · first
          | rfl
          | (simp only [firstArgMember]; rfl)
      refine wpAny_newObj_type ?_ (by size_fits)
      simp only [raiseNew]
      refine wpAny_bind (wpAny_bind (wpAny_handled ?_))
      rw [show A.in1.handled = none from hh]
      refine wpAny_throw (wpAny_bind ?_)
      refine wpAny_isInstance (T := "StopIteration") (b := true) ⟨_, Heap.get?_push_size _ rfl, rfl⟩ isSubtype_stop ?_
      exact wpAny_pure (q _ fun b o hb => Heap.get?_push_of_some _ (Heap.get?_push_of_some _ hb))
end
end Gl

namespace Gl
open PySem PySem.Spec PyProof.Rows L2 GenW
section
variable {P : Program} {w : World} {K : PySem.W.Frag} {mg : Str → Option Value} {base : Heap} {N : List Str} {A A' : Around} {env : Env} {outer : List Env} {s : Shared} {pr : List Addr} {ls : Addr → Option (List V)} {σ : L2.St}
variable {tg e : Expr} {yp ypos : Pos} {it : Addr} {fp : List Addr} {tn : Nat → Heap → Prop} {J : It} {g : TG} {te : TE} {i : Nat} {Φ : End → Shared → Prop} {fs : List Frame}
abbrev gBody (e : Expr) (yp ypos : Pos) : List Stmt := [.Expr (.Yield (some e) yp) ypos]
abbrev gLoop (tg e : Expr) (yp ypos : Pos) (it : Addr) (env : Env) : Code := .forLoop tg (.ref it) (gBody e yp ypos) [] env
/-- woken, the loop goes on -/
def Again (P : Program) (w : World) (A : Around) (c : Code) (fs : List Frame) (k : Resume → Sem PySem.Fin) : Prop :=
  ∀ Φ s, Sg (model P w) A Φ c ((model P w).den c) fs s → Sg (model P w) A Φ c (k (.send .none)) fs s
/-- the loop's end is the generator's end -/
def Ends (P : Program) (w : World) (A : Around) (fs : List Frame) : Prop :=
  ∀ Φ c s, Φ (.ret (.ok (.ret .none))) s → Sg (model P w) A Φ c (.pure (.done .next)) fs s
theorem sg_item (hA : A.over (gLoop tg e yp ypos it env) fs = A') (hsp : splitAtGen fs = none) (hgu : fs.any Frame.guarded = false) (hco : env.scope.isCoroutine = false) (hi : interactive env = false)
    (hg : ∀ s0 H0, PG (gX P w K mg base N A' env outer s0 H0) tg g) (he : ∀ s0 H0, PE (gX P w K mg base N A' env outer s0 H0) e te) (T : Turn P w K tg J fp it tn)
    {s0 : Shared} {H0 H : Hp} (I : Inv (gX P w K mg base N A' env outer s0 H0) [] σ H s) (hf : ∀ b ∈ fp, FpOk (gX P w K mg base N A' env outer s0 H0) [] H b) (st : tn i s.heap) (go : J.go i H) {Post : V → Hp → Prop}
    (step : ∀ x H', J.yld i H x H' → g x σ H' fun σ2 H2 => te σ2 H2 fun y H3 => Post y H3)
    (hΦ : ∀ v y σ1 pins H3 s1, Inv (gX P w K mg base N A' env outer s0 H0) pins σ1 H3 s1 → tn (i + 1) s1.heap → (∀ b ∈ fp, H3 b = none) → RelV y v → Post y H3 → ∀ k l p, Again P w A (gLoop tg e yp ypos it env) fs k → Φ (.susp v false l k (gLoop tg e yp ypos it env) p fs) s1) :
    Sg (model P w) A Φ (gLoop tg e yp ypos it env) ((model P w).den (gLoop tg e yp ypos it env)) fs s := by
  show Sg _ A Φ _ ((forTurn tg (.ref it) (gBody e yp ypos) [] env).onRaise _) fs s
  rw [Sem.onRaise_eq_wrap]
  unfold forTurn
  refine sg_bindw (wpAny_standAt ?_)
  refine sg_bindw (wpAny_onRaise ?_)
  rw [hA]
  refine wpAny_mono (T.item _ rfl rfl rfl rfl i [] s σ H (fun _ _ => False) I hf st go) (fun r s1 hr => ?_) fun _ _ z => z.elim
  obtain ⟨u, rfl, hu⟩ := hr
  refine sg_bindw ?_
  rw [hA]
  refine wpAny_mono hu (fun _ s2 h2 => ?_) fun _ _ z => z.elim
  obtain ⟨x, H2, I2, rx, yx, st2, fr2⟩ := h2
  have I2' := I2.pinned (fun b hb => ⟨fr2 b hb, (hf b hb).2⟩) (T.obj _ _ st2)
  refine sg_bindw ?_
  rw [hA]
  refine wpAny_mono ((hg s0 H0).run _ s2 σ H2 x u _ I2' rx (step x H2 yx)) (fun _ s3 h3 => ?_) fun _ _ z => z.elim
  obtain ⟨σ3, H3, I3, q3⟩ := h3
  rw [Sem.bind_eq_wrap' (execs _ _) _, Sem.wrap_wrap]
  rw [execs_cons_wrap]
  rw [exec_Expr env _ ypos hi rfl]
  show Sg _ A Φ _ (.at ypos fun _ => Sem.wrap _ _ _ _ ((eval e env >>= fun v => standAt yp >>= fun _ => yieldOut env v) >>= fun x => dropValue (.Yield (some e) yp) ypos x)) fs s3
  refine sg_at ?_
  rw [Sem.bind_eq_wrap' (eval e env >>= _) _]
  rw [Sem.wrap_wrap]
  refine sg_bindw ?_
  rw [hA]
  refine wpAny_mono ((he s0 H0).run _ s3 σ3 H3 _ I3 q3) (fun v s4 h4 => ?_) fun _ _ z => z.elim
  obtain ⟨y, H4, I4, ry, q4⟩ := h4
  refine sg_bindw (wpAny_standAt ?_)
  have hy : yieldOut env v = yieldValue v := by
    simp only [yieldOut, hco]
    exact if_neg Bool.false_ne_true
  rw [hy]
  have keepT : tn (i + 1) s4.heap := T.keep _ _ _ st2 fun b hb o q => (I4.pin (b, o) (List.mem_append_right _ (List.mem_append_right _ (mem_pinsAt hb q)))).1
  have frT : ∀ b ∈ fp, H4 b = none := fun b hb => by
    obtain ⟨o, q, _⟩ := T.obj _ _ st2 b hb
    exact (I4.pin (b, o) (List.mem_append_right _ (List.mem_append_right _ (mem_pinsAt hb q)))).2.1
  refine sg_yield hsp fun p => ?_
  exact hΦ v y σ3 _ H4 s4 I4 keepT frT ry q4 _ _ p fun Φ' s' h' => sg_again rfl h'
/-- nothing is left -/
theorem sg_stop (hA : A.over (gLoop tg e yp ypos it env) fs = A') (T : Turn P w K tg J fp it tn)
    {s0 : Shared} {H0 H : Hp} (I : Inv (gX P w K mg base N A' env outer s0 H0) [] σ H s) (hf : ∀ b ∈ fp, FpOk (gX P w K mg base N A' env outer s0 H0) [] H b) (st : tn i s.heap) (stop : J.stop i H) (hE : Ends P w A fs)
    (hΦ : ∀ s1, Inv (gX P w K mg base N A' env outer s0 H0) [] σ H s1 → Φ (.ret (.ok (.ret .none))) s1) :
    Sg (model P w) A Φ (gLoop tg e yp ypos it env) ((model P w).den (gLoop tg e yp ypos it env)) fs s := by
  show Sg _ A Φ _ ((forTurn tg (.ref it) (gBody e yp ypos) [] env).onRaise _) fs s
  rw [Sem.onRaise_eq_wrap]
  unfold forTurn
  refine sg_bindw (wpAny_standAt ?_)
  refine sg_bindw (wpAny_onRaise ?_)
  rw [hA]
  refine wpAny_mono (T.done _ rfl rfl rfl rfl i [] s σ H (fun _ _ => False) I hf st stop) (fun r s1 hr => ?_) fun _ _ z => z.elim
  obtain ⟨rfl, I1⟩ := hr
  refine sg_again (c' := .block [] env) rfl ?_
  show Sg _ A Φ _ (.pure (.done .next)) fs s1
  exact hE Φ _ s1 (hΦ s1 I1)
theorem sg_first {iter : Expr} {fpos : Pos} {wi : TI} {s0 : Shared} {H0 H : Hp} {R : It → Hp → Prop} (hs : ∀ x, foldedSetIterable iter env x = pure x)
    (I : Inv (gX P w K mg base N (A.deeper env) env outer s0 H0) [] σ H s) (hi : PI (gX P w K mg base N (A.deeper env) env outer s0 H0) tg iter wi) (hw : wi σ H R)
    (hl : ∀ it fp tn J H1 s1, Inv (gX P w K mg base N (A.deeper env) env outer s0 H0) [] σ H1 s1 → Turn P w K tg J fp it tn → tn 0 s1.heap → (∀ b ∈ fp, FpOk (gX P w K mg base N (A.deeper env) env outer s0 H0) [] H1 b) → R J H1 →
      ∀ fs, splitAtGen fs = none → fs.any Frame.guarded = false → Ends P w A fs → A.over (gLoop tg e yp ypos it env) fs = A.deeper env → Sg (model P w) A Φ (gLoop tg e yp ypos it env) ((model P w).den (gLoop tg e yp ypos it env)) fs s1) :
    Sg (model P w) A Φ (.func [.For tg iter (gBody e yp ypos) [] fpos] env) ((model P w).den (.func [.For tg iter (gBody e yp ypos) [] fpos] env)) [] s := by
  have ov : A.over (.func [.For tg iter (gBody e yp ypos) [] fpos] env) [] = A.deeper env := over_func
  show Sg _ A Φ _ (.point [] fun _ => ((execs [.For tg iter (gBody e yp ypos) [] fpos] env).onRaise (leaving env)) >>= _) [] s
  refine sg_point ?_
  rw [Sem.onRaise_eq_wrap]
  rw [Sem.bind_eq_wrap' (Sem.wrap _ _ _ _ _) _]
  rw [Sem.wrap_wrap]
  rw [execs_cons_wrap]
  rw [arm_exec_For]
  refine sg_bindw (wpAny_standAt ?_)
  refine sg_bindw ?_
  rw [ov]
  refine wpAny_mono (hi.run [] s σ H R I hw) (fun v s1 h1 => ?_) fun _ _ z => z.elim
  refine sg_bindw ?_
  refine wpAny_of_eq (hs v) ?_
  refine sg_bindw (wpAny_standAt ?_)
  refine sg_bindw ?_
  refine wpAny_holding ?_
  rw [ov]
  refine wpAny_mono h1 (fun itv s2 h2 => ?_) fun _ _ z => z.elim
  obtain ⟨it, fp, tn, J, H2, rfl, I2, T, st, hf, q⟩ := h2
  refine sg_call fun p => ?_
  refine hl it fp tn J H2 s2 I2 T st hf q _ rfl rfl ?_ ?_
  · intro Φ' c s' h'
    refine sg_leaf (.ok .next) ?_
    exact sg_end (.ok (.ret .none)) h'
  · rw [← ov]
    exact over_loop rfl rfl
end
end Gl

namespace Gl
open PySem PySem.Spec PyProof.Rows L2 GenW
theorem cells_nil : ∀ {ns : List (Str × NameKind)} {n : Nat}, (∀ y ∈ ns, y.2 ≠ .cell ∧ y.2 ≠ .free) → cellsFrom n ns [] = []
  | [], _, _ => rfl
  | (x, k) :: ns, n, h => by
    have hk : k ≠ .cell ∧ k ≠ .free := h (x, k) List.mem_cons_self
    have ih : cellsFrom n ns [] = [] := cells_nil fun y hy => h y (List.mem_cons_of_mem _ hy)
    cases k with
    | cell => exact absurd rfl hk.1
    | free => exact absurd rfl hk.2
    | _ => exact ih
/-- a generator def of one parameter, its names all local -/
structure GDef (K : PySem.W.Frag) (x qual : Str) (st : Stmt) (f : Addr) (fd : FuncData) (N : List Str) (p0 : Str) : Prop where
  F : Fun K x qual st f fd
  kind : (defScope st).kind = .function
  co : (defScope st).isCoroutine = false
  gen : (defScope st).isGenerator = true
  nd : N.Nodup
  pre : N.take 1 = [p0]
  par : (defScope st).names.lookup p0 = some .local
  loc : ∀ y ∈ (defScope st).names, y.2 ≠ .cell ∧ y.2 ≠ .free
section
variable {x qual : Str} {st : Stmt} {f : Addr} {fd : FuncData} {N : List Str} {p0 : Str} {K : PySem.W.Frag}
theorem lookup_loc {ns : List (Str × NameKind)} (h : ∀ y ∈ ns, y.2 ≠ .cell ∧ y.2 ≠ .free) {y : Str} {k : NameKind} (e : ns.lookup y = some k) : k ≠ .cell ∧ k ≠ .free := h (y, k) (PySem.mem_of_lookup e)
theorem genv (D : GDef K x qual st f fd N p0) (L : Addr) (cd : Value) : GEnv (envOfC qual (defScope st) L f cd) where
  kind := D.kind
  glob := rfl
  blt := rfl
  fr := rfl
  cells := cells_nil D.loc
  nc := fun y => by
    refine ⟨fun z => ?_, fun z => ?_⟩
    · exact (lookup_loc D.loc (show (defScope st).names.lookup y = some .cell from z)).1 rfl
    · exact (lookup_loc D.loc (show (defScope st).names.lookup y = some .free from z)).2 rfl
  co := D.co
/-- what a call of the generator def leaves -/
structure New (qual : Str) (st : Stmt) (f : Addr) (cd : Value) (p0 : Str) (u : Value) (s : Shared) (a : Addr) (g : Nat) (s' : Shared) : Prop where
  gen : s'.heap.IsGen a g
  at_ : s'.gens[g]? = some (.fresh (.func (defBody st) (envOfC qual (defScope st) s.heap.objs.size f cd)))
  le : s.heap.objs.size < a
  os : s'.os = s.os
  bare : AllBare s'.gens
  keep : ∀ b o, s.heap.get? b = some o → s'.heap.get? b = some o
  ns : ∃ m, s'.heap.Ns s.heap.objs.size m ∧ m p0 = some u
theorem made {X : Cx} {k : Nat} {pins : List (Addr × Obj)} {σ : L2.St} {H : Hp} {s : Shared} {u : Value} {E : Value → Shared → Prop} (D : GDef X.K x qual st f fd N p0) (hr : Room k X.A) (I : Inv X pins σ H s) (hb : Binds X.K fd [p0] []) :
    wpAny (model X.prog X.w) X.A (call (.ref f) [u]) (fun r s' => ∃ a g cd, r = .ref a ∧ New qual st f cd p0 u s a g s') E s := by
  obtain ⟨oc, od, kV, doc, pm, an, cdv, ct, osl, rfl, lk, hcd⟩ := D.F.ex
  have KX := I.kIn
  have lim := I.nolimit
  have hkind : ∀ y ∈ [p0].zip [u], (defScope st).names.lookup y.1 = some .local ∨ ((defScope st).names.lookup y.1 = some .cell ∧ ((cellsFrom (s.heap.objs.size + 1) (defScope st).names []).lookup y.1).isSome = true) := fun y hy => by
    rw [List.mem_singleton.mp (show y ∈ [(p0, u)] from hy)]
    exact .inl D.par
  refine wpAny_call ?_
  refine codeAny_call_generator (by have := hr.dp; omega) (KX _ _ lk) rfl D.co D.gen rfl (PySem.W.codeRec_of KX hcd) (hb s [u] KX rfl _ _ _ _ ?_)
  refine wpAny_newFunctionEnv_cells D.kind hkind fun env he s1 q => ?_
  subst he
  refine ⟨lim.keeps q.toInCall.keep, ?_⟩
  obtain ⟨h1, tk, es1, hk1⟩ := q.done
  have gen1 : s1.gens = s.gens := by rw [es1]
  have lt1 : s.heap.objs.size < s1.heap.objs.size := q.toInCall.ns.lt
  refine ⟨s1.heap.objs.size, s1.gens.size, cdv, rfl, ⟨_, _, _, Heap.get?_push_size _ rfl, rfl, rfl, rfl⟩, Array.getElem?_push_size .., lt1, by rw [es1], ?_, fun b o e => Heap.get?_push_of_some _ (q.toInCall.keep b o e), ?_⟩
  · exact AllBare.push (by rw [gen1]; exact I.bare) rfl
  · obtain ⟨o, es, ep, ho, r⟩ := q.toInCall.ns
    refine ⟨_, ⟨o, es, ep, Heap.get?_push_of_some _ ho, r⟩, ?_⟩
    exact bindL_get (List.nodup_cons.mpr ⟨by simp, List.nodup_nil⟩) (show ([p0] : List Str)[0]? = some p0 from rfl) (show ([u] : List Value)[0]? = some u from rfl) D.par
end
end Gl

namespace Gl
open PySem PySem.Spec PyProof.Rows L2 GenW
section
variable {X : Cx} {pins : List (Addr × Obj)} {σ : L2.St} {H : Hp} {s : Shared}
theorem inv_gens {s0 s' : Shared} (I : Inv X pins σ H s0) (e : ∃ G, s0 = { s' with gens := G }) (hb : AllBare s'.gens) : Inv X pins σ H s' := by
  obtain ⟨G, rfl⟩ := e
  exact ⟨I.ok, I.os, hb, I.base, I.loc, I.cell, I.free, I.freeC, I.pin, I.hok, I.len⟩
/-- an address of the generator's own -/
structure Own (X : Cx) (pins : List (Addr × Obj)) (H : Hp) (b : Addr) : Prop where
  un : H b = none
  loc : b ≠ X.env.locals
  fs : b ∉ X.fs
  cell : ∀ x c, X.env.cells.lookup x = some c → c ≠ b
  pin : ∀ p ∈ X.pn ++ pins, p.1 ≠ b
theorem back_any {ch : List Addr} {s4 s5 : Shared} {H' : Hp} (I : Inv X pins σ H s) (Ef : Eff X.base X.stack ch s s4) (k5 : ∀ b o, s4.heap.get? b = some o → s5.heap.get? b = some o) (os5 : s5.os = s4.os) (b5 : AllBare s5.gens)
    (hch : ∀ b ∈ ch, Own X pins H b ∧ X.s_0.heap.objs.size ≤ b) (hH : ∀ b o, s.heap.get? b = some o → H' b = H b) (hsub : ∀ b u, H b = some u → H' b = some u)
    (new : ∀ b u, H' b = some u → H b = none → ObjOk X.prog X.w H' s5.heap b u) : Inv X pins σ H' s5 := by
  have nfr : ∀ b u, H b = some u → b ∉ frs X.stack := fun b u e hm => by
    have := I.stkFree b hm
    rw [e] at this; cases this
  have nch : ∀ b u, H b = some u → b ∉ ch := fun b u e hm => by
    have := (hch b hm).1.un
    rw [e] at this; cases this
  refine I.call' (ch := ch) (os5.trans Ef.os) ⟨fun b o e n nf nx => k5 b o (Ef.keep b o e nx nf), fun b o e n hb _ => ?_, fun b o e n _ => ?_, fun b o e nx => ?_, fun b ys e => hsub b _ e, fun b o u e => hsub b _ e, fun b ps e => ⟨#[], by rw [Array.append_empty]; exact hsub b _ e⟩⟩ (fun b u e => ?_) b5 fun b hb => ?_
  · obtain ⟨sl, q⟩ := Ef.slot b o e hb
    exact ⟨sl, k5 b _ q⟩
  · rw [hH b o e]; exact n
  · by_cases hf : b ∈ frs X.stack
    · obtain ⟨sl, q⟩ := Ef.slot b o e hf
      exact ⟨_, k5 b _ q⟩
    · exact ⟨o, k5 b o (Ef.keep b o e nx hf)⟩
  · cases q : H b with
    | none => exact new b u e q
    | some u' =>
      have e2 := hsub b u' q
      rw [e] at e2
      cases e2
      refine (I.hok b u q).stay (fun c v hc hv => ?_) (fun c hc => hsub c _ hc) fun c ys hc => hsub c _ hc
      have hu : ∃ u2, H c = some u2 := by
        rcases hc with rfl | hc
        · exact ⟨u, q⟩
        · exact ⟨_, hc⟩
      obtain ⟨u2, hu⟩ := hu
      exact k5 c v (Ef.keep c v hv (nch c u2 hu) (nfr c u2 hu))
  · obtain ⟨o1, o2⟩ := hch b hb
    exact ⟨.inr o2, o1.loc, o1.cell, o1.pin⟩
end
/-- the text of a generator def whose loop goes over zip(x, x[1:]) and hands out the pairs -/
structure GT (P : Program) (w : World) (K : PySem.W.Frag) (mg : Str → Option Value) (base : Heap) (x qual : Str) (st : Stmt) (f : Addr) (fd : FuncData) (N : List Str) (p0 : Str) (tg iter e : Expr) (yp ypos fpos : Pos) (g : TG) (te : TE) (wi : TI) : Prop where
  D : GDef K x qual st f fd N p0
  body : defBody st = [.For tg iter (gBody e yp ypos) [] fpos]
  hs : ∀ env v, foldedSetIterable iter env v = pure v
  int : ∀ L cd, interactive (envOfC qual (defScope st) L f cd) = false
  hg : ∀ A' L cd outer s0 H0, PG (gX P w K mg base N A' (envOfC qual (defScope st) L f cd) outer s0 H0) tg g
  he : ∀ A' L cd outer s0 H0, PE (gX P w K mg base N A' (envOfC qual (defScope st) L f cd) outer s0 H0) e te
  hi : ∀ A' L cd outer s0 H0, PI (gX P w K mg base N A' (envOfC qual (defScope st) L f cd) outer s0 H0) tg iter wi
  r1 : ∀ (H : Hp) (lo : Addr) (xs : List V) (R : It → Hp → Prop), SqL K H lo xs → (∀ sl, H sl = none → R (Itz K lo sl) (upd H sl (.lst (xs.drop 1)))) → wi (some (.ref lo) :: List.replicate (N.length - 1) none) H R
  r2 : ∀ (σ : L2.St) (H : Hp) (T : Addr) (a b : V) (R : VK), σ.length = N.length → H T = none → (∀ p, upd H T (.tup [a, b]) p = none → R (.ref p) (upd (upd H T (.tup [a, b])) p (.tup [a, b]))) → g (.ref T) σ (upd H T (.tup [a, b])) fun σ2 H2 => te σ2 H2 R
section
variable {P : Program} {w : World} {K : PySem.W.Frag} {mg : Str → Option Value} {base : Heap} {x qual : Str} {st : Stmt} {f : Addr} {fd : FuncData} {N : List Str} {p0 : Str} {tg iter e : Expr} {yp ypos fpos : Pos} {g : TG} {te : TE} {wi : TI}
/-- the generator asleep, i items handed out -/
structure Slp (P : Program) (w : World) (K : PySem.W.Frag) (base : Heap) (tg e : Expr) (yp ypos : Pos) (A : Around) (env : Env) (outer : List Env) (lo : Addr) (ys : List V) (i : Nat) (gs : GenState) (h : Heap) (fp : List Addr) (sl : Addr) : Prop where
  ex : ∃ (it : Addr) (tn : Nat → Heap → Prop) (fs : List Frame) (k : Resume → Sem PySem.Fin) (l : List Value) (p : Pos), gs = .suspended k l (gLoop tg e yp ypos it env) p fs false ∧ splitAtGen fs = none ∧ fs.any Frame.guarded = false ∧ Ends P w A fs ∧
    A.over (gLoop tg e yp ypos it env) fs = A.deeper env ∧ Again P w A (gLoop tg e yp ypos it env) fs k ∧ Turn P w K tg (Itz K lo sl) fp it tn ∧ tn i h
  fpo : ∀ b ∈ fp, b ≠ env.locals ∧ b ∉ frs outer ∧ env.locals ≤ b
  lst : ∃ o, h.get? sl = some o ∧ IsL o ys
  slfp : sl ∉ fp
  slL : sl ≠ env.locals
  slb : base.get? sl = none
  slfs : sl ∉ frs outer
  ns : ∃ m, h.Ns env.locals m
theorem Slp.keep {A : Around} {env : Env} {outer : List Env} {lo : Addr} {ys : List V} {i : Nat} {gs : GenState} {h h' : Heap} {fp : List Addr} {sl : Addr} (S : Slp P w K base tg e yp ypos A env outer lo ys i gs h fp sl)
    (k : ∀ b ∈ env.locals :: sl :: fp, ∀ o, h.get? b = some o → h'.get? b = some o) : Slp P w K base tg e yp ypos A env outer lo ys i gs h' fp sl := by
  obtain ⟨it, tn, fs, kk, l, p, e1, e2, e3, e4, e5, e6, T, st⟩ := S.ex
  obtain ⟨o, ho, q⟩ := S.lst
  obtain ⟨m, o2, es, ep, ho2, r⟩ := S.ns
  exact ⟨⟨it, tn, fs, kk, l, p, e1, e2, e3, e4, e5, e6, T, T.keep i h h' st fun b hb o q => k b (List.mem_cons_of_mem _ (List.mem_cons_of_mem _ hb)) o q⟩, S.fpo, ⟨o, k sl (by simp) o ho, q⟩, S.slfp, S.slL, S.slb, S.slfs, m, o2, es, ep, k _ (by simp) o2 ho2, r⟩
theorem Slp.obj {A : Around} {env : Env} {outer : List Env} {lo : Addr} {ys : List V} {i : Nat} {gs : GenState} {h : Heap} {fp : List Addr} {sl : Addr} (S : Slp P w K base tg e yp ypos A env outer lo ys i gs h fp sl) :
    ∀ b ∈ env.locals :: sl :: fp, ∃ o, h.get? b = some o ∧ ∀ v, o.data ≠ .cell v := by
  intro b hb
  obtain ⟨it, tn, fs, kk, l, p, e1, e2, e3, e4, e5, e6, T, st⟩ := S.ex
  rcases List.mem_cons.mp hb with rfl | hb
  · obtain ⟨m, o, es, ep, ho, hd, _⟩ := S.ns
    exact ⟨o, ho, fun v z => by rw [hd] at z; cases z⟩
  rcases List.mem_cons.mp hb with rfl | hb
  · obtain ⟨o, ho, _, its, n, _, rfl⟩ := S.lst
    exact ⟨_, ho, fun v z => by cases z⟩
  · exact T.obj i h st b hb
/-- what stands of the lists -/
def lsOf (lo : Addr) (xs : List V) (sl : Addr) (ys : List V) : Addr → Option (List V) := fun b => if b = lo then some xs else if b = sl then some ys else none
/-- a new tuple of two in the generator's context stands nowhere of before -/
theorem not_there {A' : Around} {env : Env} {outer : List Env} {s s1 : Shared} {pr : List Addr} {ls : Addr → Option (List V)} {pins : List (Addr × Obj)} {σ : L2.St} {H1 : Hp} {p : Addr} {u : HO}
    (I : Inv (Xz P w K mg base N A' env outer s pr ls) pins σ H1 s1) (hfr : ∀ b ∈ frs outer, b < env.locals) (hpr : ∀ b ∈ pr, H1 b = none) (e1 : H1 p = some u) (hu : ∀ o v, u ≠ .frz o v) : s.heap.get? p = none := by
  cases q : s.heap.get? p with
  | none => rfl
  | some o =>
    have h1 : p ∉ env.locals :: pr := fun hm => by
      rcases List.mem_cons.mp hm with rfl | hm
      · rw [show H1 env.locals = none from I.free] at e1; cases e1
      · rw [hpr p hm] at e1; cases e1
    have h2 : p ∉ frs outer := fun hm => by
      have := I.base.free p o (by show (cut s.heap env.locals).get? p = _; rw [cut_lt (hfr p hm)]; exact q) (fz_fs hm) (fun z => by cases z)
      rw [e1] at this; cases this
    have h3 : base.get? p = none := by
      cases qb : base.get? p with
      | none => rfl
      | some ob =>
        have := (I.bs p ob qb).2
        rw [e1] at this; cases this
    obtain ⟨v, hv⟩ := fz_get (ls := ls) q h1 h2 h3
    have := I.base.frzs p o v hv
    rw [e1] at this
    exact absurd (Option.some.inj this) (hu o v)
end
section
theorem ok_some {P : Program} {w : World} {H : Hp} {h : Heap} {a : Addr} {o : HO} (x : ObjOk P w H h a o) : ∃ ob, h.get? a = some ob := by
  cases o with
  | lst xs => obtain ⟨_, _, _, _, e⟩ := x; exact ⟨_, e⟩
  | tup xs => obtain ⟨_, _, _, ob, e, _⟩ := x; exact ⟨ob, e⟩
  | dK kvs => obtain ⟨_, _, _, _, ob, _, _, e, _⟩ := x; exact ⟨ob, e⟩
  | dT kvs => obtain ⟨_, _, _, _, ob, _, _, e, _⟩ := x; exact ⟨ob, e⟩
  | set S n => obtain ⟨ob, _, _, _, e, _⟩ := x; exact ⟨ob, e⟩
  | ins C dx fs => obtain ⟨_, _, _, e, _⟩ := x; exact ⟨_, e⟩
  | own y => obtain ⟨ob, e⟩ := x; exact ⟨ob, e⟩
  | xd fs => obtain ⟨_, ⟨ob, _, _, e, _⟩, _⟩ := x; exact ⟨ob, e⟩
  | rng lo hi => obtain ⟨_, _, _, e⟩ := x; exact ⟨_, e⟩
  | frz ob u => exact ⟨ob, x.1⟩
  | tbl ps => exact ⟨_, (show h.get? a = some _ from x)⟩
  | met f y => exact ⟨_, (show h.get? a = some _ from x)⟩
  | ext φ => exact x.2.1
variable {X : Cx} {pins : List (Addr × Obj)} {σ : L2.St} {H : Hp} {s : Shared}
theorem new_none {b : Addr} (I : Inv X pins σ H s) (h : s.heap.get? b = none) : H b = none := by
  cases q : H b with
  | none => rfl
  | some u =>
    obtain ⟨ob, e⟩ := ok_some (I.hok b u q)
    rw [h] at e; cases e
theorem own_new {b : Addr} (I : Inv X pins σ H s) (h : s.heap.get? b = none) : Own X pins H b where
  un := new_none I h
  loc := fun z => by
    obtain ⟨m, ⟨o, _, _, ho, _⟩, _⟩ := I.loc
    rw [← z, h] at ho; cases ho
  fs := fun z => by
    obtain ⟨_, o, ho, _⟩ := I.funs.mem z
    rw [h] at ho; cases ho
  cell := fun y c e z => by
    obtain ⟨v, o, ho, _⟩ := I.cell y c e
    rw [z, h] at ho; cases ho
  pin := fun p hp z => by
    have := (I.pin p hp).1
    rw [z, h] at this; cases this
theorem Own.up {b p : Addr} {o : HO} (h : Own X pins H b) (hb : b ≠ p) : Own X pins (upd H p o) b := ⟨by rw [upd_ne hb]; exact h.un, h.loc, h.fs, h.cell, h.pin⟩
end
section
variable {X : Cx} {pins : List (Addr × Obj)} {σ : L2.St} {H : Hp} {s : Shared} {k : Nat} {x qual : Str} {st : Stmt} {f : Addr} {fd : FuncData} {N : List Str} {p0 : Str} {tg iter e : Expr} {yp ypos fpos : Pos} {g : TG} {te : TE} {wi : TI}
/-- a turn's end: the next pair, or nothing -/
def Turned (X : Cx) (pins : List (Addr × Obj)) (σ : L2.St) (H : Hp) (tg e : Expr) (yp ypos : Pos) (env : Env) (a : Addr) (gn : Nat) (lo : Addr) (xs : List V) (i : Nat) (r : Option Value) (s1 : Shared) : Prop :=
  (∃ (u v : V) (p : Addr) (gs : GenState) (fp : List Addr) (sl : Addr), r = some (.ref p) ∧ xs[i]? = some u ∧ xs[i + 1]? = some v ∧ H p = none ∧ Inv X pins σ (upd H p (.tup [u, v])) s1 ∧ s1.heap.IsGen a gn ∧ s1.gens[gn]? = some gs ∧
    Slp X.prog X.w X.K X.base tg e yp ypos X.A.in1 env X.stack lo (xs.drop 1) (i + 1) gs s1.heap fp sl ∧ (∀ b ∈ a :: env.locals :: sl :: fp, Own X pins (upd H p (.tup [u, v])) b) ∧ a ∉ env.locals :: fp) ∨
  (r = none ∧ xs.length ≤ i + 1 ∧ Inv X pins σ H s1)
theorem drop1 {xs : List V} {i : Nat} : (xs.drop 1)[i]? = xs[i + 1]? := by
  rw [List.getElem?_drop, Nat.add_comm]
theorem itz_go {K : PySem.W.Frag} {H : Hp} {lo sl : Addr} {xs : List V} {i : Nat} (h1 : SqL K H lo xs) (h2 : SqL K H sl (xs.drop 1)) (h : i + 1 < xs.length) : (Itz K lo sl).go i H :=
  ⟨xs, xs.drop 1, xs[i], xs[i + 1], h1, h2, List.getElem?_eq_getElem _, by rw [drop1]; exact List.getElem?_eq_getElem h⟩
theorem itz_stop {K : PySem.W.Frag} {H : Hp} {lo sl : Addr} {xs : List V} {i : Nat} (h1 : SqL K H lo xs) (h2 : SqL K H sl (xs.drop 1)) (h : xs.length ≤ i + 1) : (Itz K lo sl).stop i H :=
  ⟨xs, xs.drop 1, h1, h2, .inr (by rw [List.length_drop]; omega)⟩
theorem same_of_new {H : Hp} {p : Addr} {o : HO} (h : H p = none) : Same H (upd H p o) := fun b u q => by
  rw [upd_ne (fun z => by rw [z, h] at q; cases q)]
  exact q
theorem env0_run {gn : Nat} (I : Inv X pins σ H s) : Env0 X.prog X.w X.K X.mg X.base X.A.in1 X.stack (s.setGen gn .running) H :=
  ⟨I.env0.frames, I.env0.mod, I.env0.bs, I.env0.bsz, I.env0.funs, I.env0.frf, I.env0.hok, allBare_setGen I.bare rfl⟩
theorem isl_of {lo : Addr} {xs : List V} (I : Inv X pins σ H s) (h : H lo = some (.lst xs)) : ∃ o, s.heap.get? lo = some o ∧ IsL o xs := by
  obtain ⟨z, its, n, r, e⟩ := I.hok lo _ h
  exact ⟨_, e, z, its, n, r, rfl⟩
theorem turned_back {L : Addr} {cd : Value} {a : Addr} {gn lo i : Nat} {xs : List V} {u v : V} {p : Addr} {fp : List Addr} {sl : Addr} {gs : GenState} {s1 : Shared} (I : Inv X pins σ H s) (Ef : Eff X.base X.stack (L :: fp) s s1) (hp : s.heap.get? p = none)
    (ht : ∃ its, Vals [u, v] its ∧ IsTup s1.heap p its.toArray) (hu : xs[i]? = some u) (hv : xs[i + 1]? = some v) (hch : ∀ b ∈ L :: fp, Own X pins H b ∧ X.s_0.heap.objs.size ≤ b) (hgen : s.heap.IsGen a gn) (hag : a ∉ L :: fp) (hafs : a ∉ frs X.stack)
    (hbare : gs.bare = true) (hsz : gn < s1.gens.size) (S : Slp X.prog X.w X.K X.base tg e yp ypos X.A.in1 (envOfC qual (defScope st) L f cd) X.stack lo (xs.drop 1) (i + 1) gs s1.heap fp sl) (hown : ∀ b ∈ a :: L :: sl :: fp, Own X pins H b ∧ b ≠ p) :
    Turned X pins σ H tg e yp ypos (envOfC qual (defScope st) L f cd) a gn lo xs i (some (.ref p)) (s1.setGen gn gs) := by
  have hpn := new_none I hp
  refine .inl ⟨u, v, p, gs, fp, sl, rfl, hu, hv, hpn, ?_, ?_, setGen_at hsz, S, fun b hb => (hown b hb).1.up (hown b hb).2, hag⟩
  · refine back_any (s4 := s1) I Ef (fun b o q => q) rfl (allBare_setGen Ef.bare hbare) hch (fun b o q => ?_) (fun b u q => ?_) fun b u' q n => ?_
    · rw [upd_ne (fun z => by rw [z, hp] at q; cases q)]
    · rw [upd_ne (fun z => by rw [z, hpn] at q; cases q)]
      exact q
    · by_cases hb : b = p
      · subst hb
        rw [upd_same] at q
        cases q
        obtain ⟨its, r, tt⟩ := ht
        exact ⟨by show 2 ≤ sizeLine; decide, its, r, tt⟩
      · rw [upd_ne hb, n] at q
        cases q
  · obtain ⟨o, nm, qn, ho, r⟩ := hgen
    exact ⟨o, nm, qn, Ef.keep a o ho hag hafs, r⟩
theorem next_slp {L : Addr} {cd : Value} {a : Addr} {gn lo i : Nat} {xs : List V} {fp : List Addr} {sl : Addr} {gs : GenState} {E : Value → Shared → Prop} (Tx : GT X.prog X.w X.K X.mg X.base x qual st f fd N p0 tg iter e yp ypos fpos g te wi) (hr : Room k X.A) (I : Inv X pins σ H s)
    (hlo : H lo = some (.lst xs)) (hL1 : ∀ b ∈ frs X.stack, b < L) (hL2 : X.base.objs.size ≤ L) (hL3 : X.s_0.heap.objs.size ≤ L) (hgen : s.heap.IsGen a gn) (hgs : s.gens[gn]? = some gs)
    (S : Slp X.prog X.w X.K X.base tg e yp ypos X.A.in1 (envOfC qual (defScope st) L f cd) X.stack lo (xs.drop 1) i gs s.heap fp sl) (hown : ∀ b ∈ a :: L :: sl :: fp, Own X pins H b) (hag : a ∉ L :: fp) (hafs : a ∉ frs X.stack) :
    wpAny (model X.prog X.w) X.A (pyNext (.ref a)) (Turned X pins σ H tg e yp ypos (envOfC qual (defScope st) L f cd) a gn lo xs i) E s := by
  obtain ⟨it, tn, fs, kk, l, pp, rfl, e2, e3, e4, e5, e6, T, stn⟩ := S.ex
  obtain ⟨m, hm⟩ := S.ns
  have e0 := env0_run (gn := gn) I
  have hgl : gn < s.gens.size := (Array.getElem?_eq_some_iff.mp hgs).1
  have hls : ∀ b ys, lsOf lo xs sl (xs.drop 1) b = some ys → ∃ o, (s.setGen gn .running).heap.get? b = some o ∧ IsL o ys := fun b ys q => by
    unfold lsOf at q
    by_cases h1 : b = lo
    · rw [if_pos h1] at q
      cases q
      rw [h1]
      have := isl_of I hlo
      exact this
    · rw [if_neg h1] at q
      by_cases h2 : b = sl
      · rw [if_pos h2] at q
        cases q
        rw [h2]
        exact S.lst
      · rw [if_neg h2] at q
        cases q
  have Ig := inv_fz (N := N) (σ := List.replicate N.length none) (pr := fp) (genv Tx.D L cd) e0 hL1 hL2 hr.hd (Around.frames_deeper (env := envOfC qual (defScope st) L f cd) e0.frames) hr.hd hls (by simp) ⟨m, hm, fun j y z h1 h2 _ => by
    rw [List.getElem?_replicate] at h2
    split at h2 <;> cases h2⟩
  have hlo0 : ∀ b ∈ L :: fp, b ≠ lo := fun b hb z => by
    have := (hown b (by rcases List.mem_cons.mp hb with q | q <;> simp [q])).un
    rw [z, hlo] at this; cases this
  obtain ⟨olo, hol, _⟩ := isl_of I hlo
  have hlob : X.base.get? lo = none := by
    cases q : X.base.get? lo with
    | none => rfl
    | some o =>
      have := (I.bs lo o q).2
      rw [hlo] at this; cases this
  have hlof : lo ∉ frs X.stack := fun z => by
    have := I.stkFree lo z
    rw [hlo] at this; cases this
  have slo : sl ≠ lo := fun z => by
    have := (hown sl (by simp)).un
    rw [z, hlo] at this; cases this
  obtain ⟨osl, hosl, _⟩ := S.lst
  have q1 : SqL X.K (Hz (envOfC qual (defScope st) L f cd) X.base X.stack (s.setGen gn .running) fp (lsOf lo xs sl (xs.drop 1))) lo xs :=
    .inl (.inr ⟨olo, fz_lst hol (fun z => hlo0 lo z rfl) hlof hlob (if_pos rfl)⟩)
  have q2 : SqL X.K (Hz (envOfC qual (defScope st) L f cd) X.base X.stack (s.setGen gn .running) fp (lsOf lo xs sl (xs.drop 1))) sl (xs.drop 1) := by
    refine .inl (.inr ⟨osl, fz_lst hosl (fun z => ?_) S.slfs S.slb ?_⟩)
    · rcases List.mem_cons.mp z with q | q
      · exact S.slL q
      · exact S.slfp q
    · unfold lsOf
      rw [if_neg slo, if_pos rfl]
  have hf : ∀ b ∈ fp, FpOk (Xz X.prog X.w X.K X.mg X.base N (X.A.in1.deeper (envOfC qual (defScope st) L f cd)) (envOfC qual (defScope st) L f cd) X.stack (s.setGen gn .running) fp (lsOf lo xs sl (xs.drop 1))) [] (Hz (envOfC qual (defScope st) L f cd) X.base X.stack (s.setGen gn .running) fp (lsOf lo xs sl (xs.drop 1))) b := fun b hb => by
    obtain ⟨z1, z2, z3⟩ := S.fpo b hb
    refine ⟨fz_pr (List.mem_cons_of_mem _ hb), z1, z2, .inr ?_, fun y c z => ?_, fun p hp => ?_⟩
    · show (cut s.heap L).objs.size ≤ b
      have ec : (cut s.heap L).objs.size = L := cut_size (Nat.le_of_lt hm.lt)
      rw [ec]
      exact z3
    · have z : (cellsFrom (L + 1) (defScope st).names []).lookup y = some c := z
      rw [cells_nil Tx.D.loc] at z
      cases z
    · exact absurd (show p ∈ ([] : List (Addr × Obj)) from hp) (by simp)
  have hch : ∀ b ∈ L :: fp, Own X pins H b ∧ X.s_0.heap.objs.size ≤ b := fun b hb => by
    refine ⟨hown b (by rcases List.mem_cons.mp hb with q | q <;> simp [q]), ?_⟩
    rcases List.mem_cons.mp hb with q | q
    · rw [q]; exact hL3
    · exact Nat.le_trans hL3 (S.fpo b q).2.2
  have efs : ∀ {s1 : Shared}, Eff X.base X.stack (L :: fp) (s.setGen gn .running) s1 → Eff X.base X.stack (L :: fp) s s1 := fun z => ⟨z.os, z.bare, z.keep, z.slot⟩
  refine wpAny_gsz (n := gn + 1) hgl ?_
  refine next_gl (Φ := fun ee s1 => (∃ ps k' l' pos u v, ee = .susp (.ref ps) false l' k' (gLoop tg e yp ypos it (envOfC qual (defScope st) L f cd)) pos fs ∧ xs[i]? = some u ∧ xs[i + 1]? = some v ∧ s.heap.get? ps = none ∧ Eff X.base X.stack (L :: fp) s s1 ∧
      (∃ its, Vals [u, v] its ∧ IsTup s1.heap ps its.toArray) ∧ tn (i + 1) s1.heap ∧ Again X.prog X.w X.A.in1 (gLoop tg e yp ypos it (envOfC qual (defScope st) L f cd)) fs k' ∧ ∃ m, s1.heap.Ns L m) ∨
    (ee = .ret (.ok (.ret .none)) ∧ xs.length ≤ i + 1 ∧ Eff X.base X.stack (L :: fp) s s1)) hr.hd I.nolimit (by have := hr.dp; omega) hgen hgs ?_ ?_
  · refine e6 _ _ ?_
    by_cases hlen : i + 1 < xs.length
    · refine sg_item (A' := X.A.in1.deeper (envOfC qual (defScope st) L f cd)) e5 e2 e3 Tx.D.co (Tx.int L cd) (fun s0 H0 => Tx.hg _ L cd _ s0 H0) (fun s0 H0 => Tx.he _ L cd _ s0 H0) T Ig hf stn (itz_go q1 q2 hlen)
        (Post := fun y H3 => ∃ TT a b p, y = .ref p ∧ H3 p = some (.tup [a, b]) ∧ xs[i]? = some a ∧ xs[i + 1]? = some b ∧ H3 = upd (upd (Hz (envOfC qual (defScope st) L f cd) X.base X.stack (s.setGen gn .running) fp (lsOf lo xs sl (xs.drop 1))) TT (.tup [a, b])) p (.tup [a, b])) ?_ ?_
      · rintro y H2 ⟨TT, a', b', rfl, ht, rfl, g1, g2⟩
        exact Tx.r2 _ _ TT a' b' _ (by simp) ht fun p hp => ⟨TT, a', b', p, rfl, upd_same, g1 xs q1, by rw [← drop1]; exact g2 _ q2, rfl⟩
      · rintro v y σ1 pins1 H3 s1 I1 st1 fr1 rv ⟨TT, a', b', p, rfl, hp3, g1, g2, rfl⟩ k' l' pos ag
        obtain rfl : v = Value.ref p := rv
        obtain ⟨_, its, r, tt⟩ := I1.hok p _ hp3
        obtain ⟨m1, hm1, _⟩ := I1.loc
        exact .inl ⟨p, k', l', pos, a', b', rfl, g1, g2, not_there (s := s.setGen gn .running) I1 hL1 fr1 hp3 (fun o v z => by cases z), efs (eff_of e0 hL1 hL2 I1), ⟨its, r, tt⟩, st1, ag, m1, hm1⟩
    · exact sg_stop e5 T Ig hf stn (itz_stop q1 q2 (by omega)) e4 fun s1 I1 => .inr ⟨rfl, by omega, efs (eff_of e0 hL1 hL2 I1)⟩
  · rintro ee s1 (⟨ps, k', l', pos, u, v, rfl, g1, g2, hps, Ef, ht, st1, ag, hns1⟩ | ⟨rfl, hlen, Ef⟩)
    · refine .inl ⟨.ref ps, l', k', _, pos, fs, rfl, e3, fun hsz => ?_⟩
      have egs : (End.susp (.ref ps) false l' k' (gLoop tg e yp ypos it (envOfC qual (defScope st) L f cd)) pos fs).genState = .suspended k' l' (gLoop tg e yp ypos it (envOfC qual (defScope st) L f cd)) pos fs false := by
        show GenState.suspended _ _ _ _ _ (false || fs.any Frame.guarded) = _
        rw [e3]
        rfl
      rw [egs] at hsz ⊢
      rw [setGen_size] at hsz
      have ksl : s1.heap.get? sl = some osl := Ef.keep sl osl hosl (fun z => by
        rcases List.mem_cons.mp z with q | q
        · exact S.slL q
        · exact S.slfp q) S.slfs
      obtain ⟨osl', hosl', isl'⟩ := S.lst
      rw [hosl] at hosl'
      cases hosl'
      refine turned_back I Ef hps ht g1 g2 hch hgen hag hafs rfl hsz ⟨⟨it, tn, fs, k', l', pos, rfl, e2, e3, e4, e5, ag, T, st1⟩, S.fpo, ⟨osl, ksl, isl'⟩, S.slfp, S.slL, S.slb, S.slfs, hns1⟩ fun b hb => ⟨hown b hb, fun z => ?_⟩
      rw [z] at hb
      rcases List.mem_cons.mp hb with q | hb
      · obtain ⟨o, _, _, ho, _⟩ := hgen
        rw [← q, hps] at ho; cases ho
      rcases List.mem_cons.mp hb with q | hb
      · obtain ⟨o, _, _, ho, _⟩ := hm
        have ho : s.heap.get? L = some o := ho
        rw [← q, hps] at ho; cases ho
      rcases List.mem_cons.mp hb with q | hb
      · rw [← q, hps] at hosl; cases hosl
      · obtain ⟨o, ho, _⟩ := T.obj i _ stn ps hb
        rw [hps] at ho; cases ho
    · refine .inr ⟨rfl, fun h' hk _ => .inr ⟨rfl, hlen, ?_⟩⟩
      exact back_any (s4 := s1) I Ef hk rfl (allBare_setGen Ef.bare rfl) hch (fun b o q => rfl) (fun b u q => q) fun b u q n => by rw [n] at q; cases q
theorem next_new {L : Addr} {cd : Value} {a : Addr} {gn lo : Nat} {xs : List V} {E : Value → Shared → Prop} (Tx : GT X.prog X.w X.K X.mg X.base x qual st f fd N p0 tg iter e yp ypos fpos g te wi) (hr : Room k X.A) (I : Inv X pins σ H s)
    (hlo : H lo = some (.lst xs)) (hL1 : ∀ b ∈ frs X.stack, b < L) (hL2 : X.base.objs.size ≤ L) (hL3 : X.s_0.heap.objs.size ≤ L) (hgen : s.heap.IsGen a gn)
    (hgs : s.gens[gn]? = some (.fresh (.func (defBody st) (envOfC qual (defScope st) L f cd)))) (hns : ∃ m, s.heap.Ns L m ∧ m p0 = some (.ref lo)) (hown : ∀ b ∈ [a, L], Own X pins H b) (haL : a ≠ L) (hafs : a ∉ frs X.stack) (hab : X.base.get? a = none) :
    wpAny (model X.prog X.w) X.A (pyNext (.ref a)) (Turned X pins σ H tg e yp ypos (envOfC qual (defScope st) L f cd) a gn lo xs 0) E s := by
  obtain ⟨m, hm, hmp⟩ := hns
  have e0 := env0_run (gn := gn) I
  have hgl : gn < s.gens.size := (Array.getElem?_eq_some_iff.mp hgs).1
  have hls : ∀ b ys, lsOf lo xs lo xs b = some ys → ∃ o, (s.setGen gn .running).heap.get? b = some o ∧ IsL o ys := fun b ys q => by
    unfold lsOf at q
    by_cases h1 : b = lo
    · rw [if_pos h1] at q
      cases q
      rw [h1]
      have := isl_of I hlo
      exact this
    · rw [if_neg h1, if_neg h1] at q
      cases q
  have hN : N = p0 :: N.drop 1 := by
    have := List.take_append_drop 1 N
    rw [Tx.D.pre] at this
    exact this.symm
  have Ig := inv_fz (N := N) (σ := some (.ref lo) :: List.replicate (N.length - 1) none) (pr := []) (genv Tx.D L cd) e0 hL1 hL2 hr.hd (Around.frames_deeper (env := envOfC qual (defScope st) L f cd) e0.frames) hr.hd hls (by
    rw [hN]
    simp) ⟨m, hm, fun j y z h1 h2 _ => by
    cases j with
    | zero =>
      rw [hN] at h1
      cases h1
      cases h2
      exact ⟨_, rfl, Tx.D.par, hmp⟩
    | succ j =>
      rw [List.getElem?_cons_succ, List.getElem?_replicate] at h2
      split at h2 <;> cases h2⟩
  obtain ⟨olo, hol, _⟩ := isl_of I hlo
  have hlob : X.base.get? lo = none := by
    cases q : X.base.get? lo with
    | none => rfl
    | some o =>
      have := (I.bs lo o q).2
      rw [hlo] at this; cases this
  have hlof : lo ∉ frs X.stack := fun z => by
    have := I.stkFree lo z
    rw [hlo] at this; cases this
  have hloL : lo ≠ L := fun z => by
    have := (hown L (by simp)).un
    rw [← z, hlo] at this; cases this
  have q1 : SqL X.K (Hz (envOfC qual (defScope st) L f cd) X.base X.stack (s.setGen gn .running) [] (lsOf lo xs lo xs)) lo xs :=
    .inl (.inr ⟨olo, fz_lst hol (fun z => hloL (List.mem_singleton.mp z)) hlof hlob (if_pos rfl)⟩)
  have efs : ∀ {s1 : Shared}, Eff X.base X.stack [L] (s.setGen gn .running) s1 → Eff X.base X.stack [L] s s1 := fun z => ⟨z.os, z.bare, z.keep, z.slot⟩
  have hch : ∀ b ∈ [L], Own X pins H b ∧ X.s_0.heap.objs.size ≤ b := fun b hb => by
    obtain rfl := List.mem_singleton.mp hb
    exact ⟨hown b (by simp), hL3⟩
  refine wpAny_gsz (n := gn + 1) hgl ?_
  refine next_gl (Φ := fun ee s1 => (∃ ps k' l' pos u v it fp tn sl fs, ee = .susp (.ref ps) false l' k' (gLoop tg e yp ypos it (envOfC qual (defScope st) L f cd)) pos fs ∧ splitAtGen fs = none ∧ fs.any Frame.guarded = false ∧ Ends X.prog X.w X.A.in1 fs ∧
      X.A.in1.over (gLoop tg e yp ypos it (envOfC qual (defScope st) L f cd)) fs = X.A.in1.deeper (envOfC qual (defScope st) L f cd) ∧ xs[0]? = some u ∧ xs[0 + 1]? = some v ∧ s.heap.get? ps = none ∧ Eff X.base X.stack [L] s s1 ∧
      (∃ its, Vals [u, v] its ∧ IsTup s1.heap ps its.toArray) ∧ Turn X.prog X.w X.K tg (Itz X.K lo sl) fp it tn ∧ tn (0 + 1) s1.heap ∧ Again X.prog X.w X.A.in1 (gLoop tg e yp ypos it (envOfC qual (defScope st) L f cd)) fs k' ∧ (∃ m, s1.heap.Ns L m) ∧
      (∀ b ∈ fp, b ≠ L ∧ L ≤ b ∧ s.heap.get? b = none ∧ b ∉ frs X.stack ∧ b ≠ ps) ∧ s.heap.get? sl = none ∧ sl ∉ fp ∧ sl ≠ ps ∧ ∃ o, s1.heap.get? sl = some o ∧ IsL o (xs.drop 1)) ∨
    (ee = .ret (.ok (.ret .none)) ∧ xs.length ≤ 0 + 1 ∧ Eff X.base X.stack [L] s s1)) hr.hd I.nolimit (by have := hr.dp; omega) hgen hgs ?_ ?_
  · show Sg _ X.A.in1 _ (.func (defBody st) _) _ [] _
    rw [Tx.body]
    refine sg_first (tg := tg) (e := e) (yp := yp) (ypos := ypos) (N := N) (R := fun J H1 => ∃ sl, J = Itz X.K lo sl ∧ (Hz (envOfC qual (defScope st) L f cd) X.base X.stack (s.setGen gn .running) [] (lsOf lo xs lo xs)) sl = none ∧
      H1 = upd (Hz (envOfC qual (defScope st) L f cd) X.base X.stack (s.setGen gn .running) [] (lsOf lo xs lo xs)) sl (.lst (xs.drop 1))) (Tx.hs _) Ig (Tx.hi _ L cd _ _ _) (Tx.r1 _ lo xs _ q1 fun sl hsl => ⟨sl, rfl, hsl, rfl⟩) ?_
    rintro it fp tn J H1 s1 I1 T stn hf ⟨sl, rfl, hsl, rfl⟩ fs e2 e3 e4 e5
    have q1' : SqL X.K (upd (Hz (envOfC qual (defScope st) L f cd) X.base X.stack (s.setGen gn .running) [] (lsOf lo xs lo xs)) sl (.lst (xs.drop 1))) lo xs := (same_of_new hsl).seq q1
    have q2' : SqL X.K (upd (Hz (envOfC qual (defScope st) L f cd) X.base X.stack (s.setGen gn .running) [] (lsOf lo xs lo xs)) sl (.lst (xs.drop 1))) sl (xs.drop 1) := .inl (.inl upd_same)
    have nth : ∀ {p u}, (upd (Hz (envOfC qual (defScope st) L f cd) X.base X.stack (s.setGen gn .running) [] (lsOf lo xs lo xs)) sl (.lst (xs.drop 1))) p = some u → (∀ o v, u ≠ .frz o v) → s.heap.get? p = none := fun {p u} z1 z2 =>
      not_there (s := s.setGen gn .running) I1 hL1 (fun b z => by cases z) z1 z2
    have hsln := nth upd_same (fun o v z => by cases z)
    by_cases hlen : 0 + 1 < xs.length
    · refine sg_item (A' := X.A.in1.deeper (envOfC qual (defScope st) L f cd)) e5 e2 e3 Tx.D.co (Tx.int L cd) (fun s0 H0 => Tx.hg _ L cd _ s0 H0) (fun s0 H0 => Tx.he _ L cd _ s0 H0) T I1 hf stn (itz_go q1' q2' hlen)
        (Post := fun y H3 => ∃ TT a b p, y = .ref p ∧ H3 p = some (.tup [a, b]) ∧ xs[0]? = some a ∧ xs[0 + 1]? = some b ∧ sl ≠ p ∧ H3 sl = some (.lst (xs.drop 1)) ∧
          H3 = upd (upd (upd (Hz (envOfC qual (defScope st) L f cd) X.base X.stack (s.setGen gn .running) [] (lsOf lo xs lo xs)) sl (.lst (xs.drop 1))) TT (.tup [a, b])) p (.tup [a, b])) ?_ ?_
      · rintro y H2 ⟨TT, a', b', rfl, ht, rfl, g1, g2⟩
        have nT : sl ≠ TT := fun z => by rw [← z, upd_same] at ht; cases ht
        refine Tx.r2 _ _ TT a' b' _ (by rw [hN]; simp) ht fun p hp => ?_
        have np : sl ≠ p := fun z => by
          rw [← z, upd_ne nT, upd_same] at hp
          cases hp
        exact ⟨TT, a', b', p, rfl, upd_same, g1 xs q1', by rw [← drop1]; exact g2 _ q2', np, by rw [upd_ne np, upd_ne nT, upd_same], rfl⟩
      · rintro v y σ1 pins1 H3 s2 I2 st2 fr2 rv ⟨TT, a', b', p, rfl, hp3, g1, g2, np, hs3, rfl⟩ k' l' pos ag
        obtain rfl : v = Value.ref p := rv
        obtain ⟨_, its, r, tt⟩ := I2.hok p _ hp3
        obtain ⟨z9, itl, nl, rl, el⟩ := I2.hok sl _ hs3
        obtain ⟨m1, hm1, _⟩ := I2.loc
        have nsl : sl ∉ fp := fun z => by
          have := (hf sl z).1
          rw [upd_same] at this; cases this
        refine .inl ⟨p, k', l', pos, a', b', it, fp, tn, sl, fs, rfl, e2, e3, e4, e5, g1, g2, not_there (s := s.setGen gn .running) I2 hL1 (fun b z => by cases z) hp3 (fun o v z => by cases z), efs (eff_of e0 hL1 hL2 I2), ⟨its, r, tt⟩, T, st2, ag, ⟨m1, hm1⟩, fun b hb => ?_, hsln, nsl, np, _, el, z9, itl, nl, rl, rfl⟩
        obtain ⟨z1, z2, z3, z4, _⟩ := hf b hb
        have hLb : L ≤ b := by
          rcases z4 with z | z
          · exact absurd (show b ∈ ([] : List Addr) from z) (by simp)
          · have ec : (cut s.heap L).objs.size = L := cut_size (Nat.le_of_lt hm.lt)
            have z : (cut s.heap L).objs.size ≤ b := z
            rwa [ec] at z
        refine ⟨z2, hLb, ?_, z3, fun z => ?_⟩
        · cases q : s.heap.get? b with
          | none => rfl
          | some o =>
            have hbb : X.base.get? b = none := by
              cases qb : X.base.get? b with
              | none => rfl
              | some ob =>
                have := Heap.lt_size qb
                exact absurd (Nat.lt_of_lt_of_le this (Nat.le_trans hL2 hLb)) (Nat.lt_irrefl _)
            obtain ⟨u', hu'⟩ := fz_get (h := s.heap) (base := X.base) (fs := frs X.stack) (pr := [L]) (ls := lsOf lo xs lo xs) q (fun z => z2 (List.mem_singleton.mp z)) z3 hbb
            have hu' : (Hz (envOfC qual (defScope st) L f cd) X.base X.stack (s.setGen gn .running) [] (lsOf lo xs lo xs)) b = some (.frz o u') := hu'
            have nb : b ≠ sl := fun z => nsl (by rw [← z]; exact hb)
            rw [upd_ne nb, hu'] at z1
            cases z1
        · have := fr2 b hb
          rw [z, upd_same] at this
          cases this
    · exact sg_stop e5 T I1 hf stn (itz_stop q1' q2' (by omega)) e4 fun s2 I2 => .inr ⟨rfl, by omega, efs (eff_of e0 hL1 hL2 I2)⟩
  · rintro ee s1 (⟨ps, k', l', pos, u, v, it, fp, tn, sl, fs, rfl, e2, e3, e4, e5, g1, g2, hps, Ef, ht, T, st1, ag, hns1, hfp, hsln, nsl, np, isl⟩ | ⟨rfl, hlen, Ef⟩)
    · refine .inl ⟨.ref ps, l', k', _, pos, fs, rfl, e3, fun hsz => ?_⟩
      have egs : (End.susp (.ref ps) false l' k' (gLoop tg e yp ypos it (envOfC qual (defScope st) L f cd)) pos fs).genState = .suspended k' l' (gLoop tg e yp ypos it (envOfC qual (defScope st) L f cd)) pos fs false := by
        show GenState.suspended _ _ _ _ _ (false || fs.any Frame.guarded) = _
        rw [e3]
        rfl
      rw [egs] at hsz ⊢
      rw [setGen_size] at hsz
      obtain ⟨oa, _, _, hoa, _⟩ := hgen
      obtain ⟨oL, _, _, hoL, _⟩ := hm
      have hoL : s.heap.get? L = some oL := hoL
      have Ef2 : Eff X.base X.stack (L :: fp) s s1 := ⟨Ef.os, Ef.bare, fun b o q n nf => Ef.keep b o q (fun z => n (by rw [List.mem_singleton.mp z]; exact List.mem_cons_self)) nf, Ef.slot⟩
      have hslb : X.base.get? sl = none := by
        cases qb : X.base.get? sl with
        | none => rfl
        | some ob =>
          have := (I.bs sl ob qb).1
          rw [hsln] at this; cases this
      have hslf : sl ∉ frs X.stack := fun z => by
        obtain ⟨_, o, ho, _⟩ := I.stack.mem z
        rw [hsln] at ho; cases ho
      have hslL : sl ≠ L := fun z => by rw [z, hoL] at hsln; cases hsln
      have hch2 : ∀ b ∈ L :: fp, Own X pins H b ∧ X.s_0.heap.objs.size ≤ b := fun b hb => by
        rcases List.mem_cons.mp hb with rfl | hb
        · exact ⟨hown b (by simp), hL3⟩
        · obtain ⟨_, z2, z3, _, _⟩ := hfp b hb
          exact ⟨own_new I z3, Nat.le_trans hL3 z2⟩
      refine turned_back I Ef2 hps ht g1 g2 hch2 ⟨oa, _, _, hoa, by assumption⟩ (fun z => ?_) hafs rfl hsz ⟨⟨it, tn, fs, k', l', pos, rfl, e2, e3, e4, e5, ag, T, st1⟩, fun b hb => ⟨(hfp b hb).1, (hfp b hb).2.2.2.1, (hfp b hb).2.1⟩, isl, nsl, hslL, hslb, hslf, hns1⟩ fun b hb => ?_
      · rcases List.mem_cons.mp z with z | z
        · exact haL z
        · rw [(hfp a z).2.2.1] at hoa; cases hoa
      · rcases List.mem_cons.mp hb with rfl | hb
        · exact ⟨hown b (by simp), fun z => by rw [z, hps] at hoa; cases hoa⟩
        rcases List.mem_cons.mp hb with rfl | hb
        · exact ⟨hown b (by simp), fun z => by rw [z, hps] at hoL; cases hoL⟩
        rcases List.mem_cons.mp hb with rfl | hb
        · exact ⟨own_new I hsln, np⟩
        · exact ⟨own_new I (hfp b hb).2.2.1, (hfp b hb).2.2.2.2⟩
    · refine .inr ⟨rfl, fun h' hk _ => .inr ⟨rfl, hlen, ?_⟩⟩
      exact back_any (s4 := s1) I Ef hk rfl (allBare_setGen Ef.bare rfl) hch (fun b o q => rfl) (fun b u q => q) fun b u q n => by rw [n] at q; cases q
end
end Gl

namespace Gl
open PySem PySem.Spec PyProof.Rows L2 GenW
/-- for x in f(l): the pairs of neighbours of the list l, new tuples, one after another -/
def tForG (t : TA) (g1 : TG) (tb : TS) : TS := fun D σ H => t σ H fun vs H1 => ∃ (lo : Addr) (xs : List V), vs = [.ref lo] ∧ H1 lo = some (.lst xs) ∧ ∃ Pv : Nat → L2.St → Hp → Prop, Pv 0 σ H1 ∧ (∀ i σ' H', Pv i σ' H' → H' lo = some (.lst xs)) ∧
  (∀ i u v σ' H' p, xs[i]? = some u → xs[i + 1]? = some v → Pv i σ' H' → H' p = none → g1 (.ref p) σ' (upd H' p (.tup [u, v])) fun σ2 H2 => tb { D with nx := Pv (i + 1), ct := Pv (i + 1), bk := D.nx } σ2 H2) ∧
  ∀ σ' H', Pv (xs.length - 1) σ' H' → D.nx σ' H'
section
variable {X : Cx} {k : Nat} {x qual nm : Str} {st : Stmt} {f : Addr} {fd : FuncData} {N : List Str} {p0 : Str} {tg iter e : Expr} {yp ypos fpos : Pos} {g : TG} {te : TE} {wi : TI} {tg1 e1 : Expr} {body : List Stmt} {g1 : TG} {tb : TS} {t : TA} {np cp pos : Pos}
/-- pinned, as they stand -/
theorem own_pinned {pins : List (Addr × Obj)} {σ : L2.St} {H : Hp} {s : Shared} {pv : List Addr} (I : Inv X pins σ H s) (ho : ∀ b ∈ pv, Own X pins H b) (he : ∀ b ∈ pv, ∃ o, s.heap.get? b = some o ∧ ∀ v, o.data ≠ .cell v) : Inv X (pins ++ pinsAt pv s.heap) σ H s := by
  refine I.pins_of fun p hp => ?_
  rcases List.mem_append.mp hp with z | z
  · exact I.pin p (List.mem_append_right _ z)
  · obtain ⟨hb, q⟩ := of_pinsAt z
    obtain ⟨o, q2, d⟩ := he p.1 hb
    rw [q] at q2
    cases q2
    exact ⟨q, (ho p.1 hb).un, (ho p.1 hb).loc, (ho p.1 hb).fs, d⟩
theorem inv_lull {pins : List (Addr × Obj)} {σ : L2.St} {H : Hp} {s : Shared} (I : Inv X pins σ H s) : Inv X pins σ H (Sw.lulled s) :=
  inv_gens I ⟨s.gens, rfl⟩ (Sw.allBare_lull I.bare)
theorem ps_forG (Tx : GT X.prog X.w X.K X.mg X.base x qual st f fd N p0 tg iter e yp ypos fpos g te wi) (hr : Room k X.A) (hc : X.calm = true) (hg : Gl X nm) (hm : X.mg nm = some (.ref f)) (hk : PySem.W.keepIn X.K (.ref f) = true) (hb : Binds X.K fd [p0] [])
    (ha : PA X [e1] t) (hg1 : PG X.nox tg1 g1) (hbd : PSs X.nox body tb) (hdb : (nm == ("__debug__" : Str)) = false := by decide) (hs : ∀ v, foldedSetIterable (.Call (.Name nm np) [e1] [] cp) X.env v = pure v := by intro _; rfl)
    (he : starEach [e1] X.env = (false, eval e1 X.env) :: starEach [] X.env := by rfl) : PS X (.For tg1 (.Call (.Name nm np) [e1] [] cp) body [] pos) (tForG t g1 tb) := by
  refine ⟨fun pins s σ H D I h => ?_⟩
  refine wpAny_For ?_ hs
  refine wpAny_Call_Name_kw (ld_glob I hg hm ?_ hdb)
  refine PySem.W.callWith_K (h₀ := X.base) I.ok.mod.kin hk (thn (ha.run cp pins s σ H _ I h) fun us s1 h1 => ?_) he rfl
  obtain ⟨vs, H1, I1, r, lo, xs, rfl, hlo, Pv, p1, pl, pt, pd⟩ := h1
  refine ⟨I1.kIn, ?_⟩
  obtain ⟨ulo, rfl, rlo⟩ : ∃ ulo, us = [ulo] ∧ ulo = .ref lo := by
    cases r with
    | cons r1 r2 => cases r2; exact ⟨_, rfl, r1⟩
  subst rlo
  refine wpAny_mono (made (E := fun _ _ => False) Tx.D hr I1 hb) (fun r2 s2 h2 => ?_) fun _ _ z => z.elim
  obtain ⟨a, gn, cd, rfl, W⟩ := h2
  obtain ⟨L, hL⟩ : ∃ L, L = s1.heap.objs.size := ⟨_, rfl⟩
  have I2 : Inv X pins σ H1 s2 := I1.call' (ch := []) W.os (Un.kept W.keep) (I1.hok.kept W.keep) W.bare fun b z => by simp at z
  have lt1 : ∀ {b o}, s1.heap.get? b = some o → b < L := fun q => by rw [hL]; exact Heap.lt_size q
  have hL1 : ∀ b ∈ frs X.stack, b < L := fun b hb => by
    obtain ⟨_, o, ho, _⟩ := I1.stack.mem hb
    exact lt1 ho
  have hL2 : X.base.objs.size ≤ L := by rw [hL]; exact Nat.le_trans I1.ok.bsz I1.sz
  have hL3 : X.s_0.heap.objs.size ≤ L := by rw [hL]; exact I1.sz
  have haL : a ≠ L := by rw [hL]; exact Nat.ne_of_gt W.le
  have hafs : a ∉ frs X.stack := fun z => by
    have h1 := hL1 a z
    have h2 := W.le
    rw [← hL] at h2
    exact Nat.lt_irrefl _ (Nat.lt_trans h1 h2)
  have nold : ∀ {b}, L ≤ b → s1.heap.get? b = none := fun {b} hb => by
    cases q : s1.heap.get? b with
    | none => rfl
    | some o => exact absurd (Nat.lt_of_lt_of_le (lt1 q) hb) (Nat.lt_irrefl _)
  have own2 : ∀ b ∈ [a, L], Own X pins H1 b := fun b hb => by
    refine own_new I1 (nold ?_)
    have h2 := W.le
    rw [← hL] at h2
    rcases List.mem_cons.mp hb with z | z
    · rw [z]
      exact Nat.le_of_lt h2
    · rw [List.mem_singleton.mp z]
      exact Nat.le_refl _
  have hab : X.base.get? a = none := by
    cases q : X.base.get? a with
    | none => rfl
    | some o =>
      have h1 := Heap.lt_size q
      have h2 := W.le
      rw [← hL] at h2
      exact absurd (Nat.lt_trans (Nat.lt_of_lt_of_le h1 hL2) h2) (Nat.lt_irrefl _)
  refine wpAny_pyIter_gen W.gen ?_
  have W1 := W.at_
  have W2 := W.ns
  rw [← hL] at W1 W2
  refine codeAny_forLoop_any (fun n s' => ∃ i σ' H', Inv X pins σ' H' s' ∧ Pv i σ' H' ∧ i ≤ xs.length - 1 ∧ n = xs.length - i ∧ s'.heap.IsGen a gn ∧
    ((i = 0 ∧ s'.gens[gn]? = some (.fresh (.func (defBody st) (envOfC qual (defScope st) L f cd))) ∧ (∃ m, s'.heap.Ns L m ∧ m p0 = some (.ref lo)) ∧ ∀ b ∈ [a, L], Own X pins H' b) ∨
      ∃ gs fp sl, s'.gens[gn]? = some gs ∧ Slp X.prog X.w X.K X.base tg e yp ypos X.A.in1 (envOfC qual (defScope st) L f cd) X.stack lo (xs.drop 1) i gs s'.heap fp sl ∧ (∀ b ∈ a :: L :: sl :: fp, Own X pins H' b) ∧ a ∉ L :: fp)) ?_ xs.length
    ⟨0, σ, H1, I2, p1, Nat.zero_le _, rfl, W.gen, .inl ⟨rfl, W1, W2, own2⟩⟩
  rintro n s3 ⟨i, σ3, H3, I3, p3, hi, rfl, hg3, hst⟩
  have key : wpAny (model X.prog X.w) X.A (pyNext (.ref a)) (Turned X pins σ3 H3 tg e yp ypos (envOfC qual (defScope st) L f cd) a gn lo xs i) (fun _ _ => False) s3 := by
    rcases hst with ⟨rfl, q1, q2, q3⟩ | ⟨gs, fp, sl, q1, q2, q3, q4⟩
    · exact next_new Tx hr I3 (pl _ _ _ p3) hL1 hL2 hL3 hg3 q1 q2 q3 haL hafs hab
    · exact next_slp Tx hr I3 (pl _ _ _ p3) hL1 hL2 hL3 hg3 q1 q2 q3 q4 hafs
  refine wpAny_mono key (fun r s4 h4 => ?_) fun _ _ z => z.elim
  rcases h4 with ⟨u, v, p, gs, fp, sl, rfl, hu, hv, hpn, I4, hg4, hgs4, S4, own4, hag4⟩ | ⟨rfl, hlen, I4⟩
  · obtain ⟨og, gnm, gqn, hog, hogc, hogd, _⟩ := id hg4
    refine go_of (n := "generator") hog hogc hogd (by decide) ?_
    have hobj : ∀ b ∈ a :: L :: sl :: fp, ∃ o, s4.heap.get? b = some o ∧ ∀ v, o.data ≠ .cell v := fun b hb => by
      rcases List.mem_cons.mp hb with rfl | hb
      · exact ⟨og, hog, fun v z => by rw [hogd] at z; cases z⟩
      · exact S4.obj b hb
    have I5 := (inv_lull (own_pinned I4 own4 hobj)).wish fun _ _ => False
    obtain ⟨kg, lg, cg, pg, fg, clg, egs⟩ : ∃ kg lg cg pg fg clg, gs = .suspended kg lg cg pg fg clg := by
      obtain ⟨_, _, _, _, _, _, q, _⟩ := S4.ex
      exact ⟨_, _, _, _, _, _, q⟩
    refine wpAny_mono (Sw.wpAny_sw (hg1.run _ (Sw.lulled s4) σ3 _ (.ref p) (.ref p) _ I5 rfl (pt i u v σ3 H3 p hu hv p3 hpn))) (fun _ s5 h5 => ?_) fun _ _ ⟨_, _, z⟩ => z.elim
    obtain ⟨s0, B5, σ5, H5, I5', q5⟩ := h5
    have hgs5 : s5.gens[gn]? = some gs := (B5.sleep gn _ _ _ _ _ _ (by rw [hgs4, egs])).trans hgs4
    have I6 := inv_gens I5' B5.eq (B5.bare I5'.bare)
    refine wpAny_mono (Sw.wpAny_sw (hbd.run _ (Sw.lulled s5) σ5 H5 _ (inv_lull I6) q5)) (fun fl s6 h6 => ?_) fun _ _ ⟨_, _, z⟩ => z.elim
    obtain ⟨s00, B6, q6⟩ := h6
    have hgs6 : s6.gens[gn]? = some gs := (B6.sleep gn _ _ _ _ _ _ (by rw [hgs5, egs])).trans hgs5
    have again : ∀ {σ7 : L2.St} {H7 : Hp}, Inv X.nox (pins ++ pinsAt (a :: L :: sl :: fp) s4.heap) σ7 H7 s00 → Pv (i + 1) σ7 H7 → ∃ m, m < xs.length - i ∧ ∃ i' σ' H', Inv X pins σ' H' s6 ∧ Pv i' σ' H' ∧ i' ≤ xs.length - 1 ∧ m = xs.length - i' ∧ s6.heap.IsGen a gn ∧
        ((i' = 0 ∧ s6.gens[gn]? = some (.fresh (.func (defBody st) (envOfC qual (defScope st) L f cd))) ∧ (∃ m, s6.heap.Ns L m ∧ m p0 = some (.ref lo)) ∧ ∀ b ∈ [a, L], Own X pins H' b) ∨
          ∃ gs fp sl, s6.gens[gn]? = some gs ∧ Slp X.prog X.w X.K X.base tg e yp ypos X.A.in1 (envOfC qual (defScope st) L f cd) X.stack lo (xs.drop 1) i' gs s6.heap fp sl ∧ (∀ b ∈ a :: L :: sl :: fp, Own X pins H' b) ∧ a ∉ L :: fp) := fun {σ7 H7} I7 p7 => by
      have I8 := (inv_gens I7 B6.eq (B6.bare I7.bare)).unwish
      have kept : ∀ b ∈ a :: L :: sl :: fp, ∀ o, s4.heap.get? b = some o → s6.heap.get? b = some o ∧ H7 b = none := fun b hb o q => by
        obtain ⟨z1, z2, _⟩ := I8.pin (b, o) (List.mem_append_right _ (List.mem_append_right _ (mem_pinsAt hb q)))
        exact ⟨z1, z2⟩
      have hil : i + 1 < xs.length := (List.getElem?_eq_some_iff.mp hv).1
      refine ⟨xs.length - (i + 1), by omega, i + 1, σ7, H7, I8.unpinned, p7, by omega, rfl, ⟨og, gnm, gqn, (kept a (by simp) og hog).1, hogc, hogd, by assumption⟩, .inr ⟨gs, fp, sl, hgs6, S4.keep fun b hb o q => (kept b (List.mem_cons_of_mem _ hb) o q).1, fun b hb => ?_, hag4⟩⟩
      obtain ⟨o, q, _⟩ := hobj b hb
      have o4 := own4 b hb
      exact ⟨(kept b hb o q).2, o4.loc, o4.fs, o4.cell, o4.pin⟩
    have bk : ∀ {σ7 : L2.St} {H7 : Hp}, Inv X.nox (pins ++ pinsAt (a :: L :: sl :: fp) s4.heap) σ7 H7 s00 → Inv X pins σ7 H7 s6 := fun I7 => (inv_gens I7 B6.eq (B6.bare I7.bare)).unwish.unpinned
    cases fl with
    | next => obtain ⟨σ7, H7, I7, n7⟩ := q6; exact again I7 n7
    | cont => obtain ⟨σ7, H7, I7, n7⟩ := q6; exact again I7 n7
    | brk => obtain ⟨σ7, H7, I7, q7⟩ := q6; exact ⟨σ7, H7, bk I7, q7⟩
    | ret v => obtain ⟨x7, σ7, H7, I7, r7, q7⟩ := q6; exact ⟨x7, σ7, H7, bk I7, r7, q7⟩
  · refine wpAny_execs_nil ⟨σ3, H3, I4, pd σ3 H3 ?_⟩
    have : i = xs.length - 1 := by omega
    rw [← this]
    exact p3
end
end Gl

namespace Gl
open PySem PySem.Spec PyProof.Rows L2 GenW
section
variable {X : Cx} {k : Nat} {x qual nm : Str} {st : Stmt} {f : Addr} {fd : FuncData} {N : List Str} {p0 : Str} {tg iter e : Expr} {yp ypos fpos : Pos} {g : TG} {te : TE} {wi : TI}
/-- the pairs of neighbours, as far as they stand -/
def Prs (xs : List V) (H : Hp) (ys : List V) : Prop := ∀ j v, ys[j]? = some v → ∃ p u w, v = .ref p ∧ xs[j]? = some u ∧ xs[j + 1]? = some w ∧ H p = some (.tup [u, w])
/-- the loop of list(g) over a generator of pairs -/
theorem drain_g {A0 : Around} (hA : X.A = A0.in1) (Tx : GT X.prog X.w X.K X.mg X.base x qual st f fd N p0 tg iter e yp ypos fpos g te wi) (hr : Room k X.A) {pins : List (Addr × Obj)} {σ : L2.St} {L a lo S : Addr} {cd res : Value} {gn : Nat} {xs : List V} {R : Result → Shared → Prop}
    (hL1 : ∀ b ∈ frs X.stack, b < L) (hL2 : X.base.objs.size ≤ L) (hL3 : X.s_0.heap.objs.size ≤ L) (haL : a ≠ L) (hafs : a ∉ frs X.stack) (hab : X.base.get? a = none) (hx : xs.length ≤ 1000) (hSlo : lo ≠ S) :
    ∀ (n i : Nat) (s : Shared) (H : Hp) (ys : List V), xs.length - 1 - i = n → i ≤ xs.length - 1 → Inv X pins σ H s → H lo = some (.lst xs) → H S = some (.lst ys) → ys.length = i → Prs xs H ys → s.heap.IsGen a gn →
      ((i = 0 ∧ s.gens[gn]? = some (.fresh (.func (defBody st) (envOfC qual (defScope st) L f cd))) ∧ (∃ m, s.heap.Ns L m ∧ m p0 = some (.ref lo)) ∧ ∀ b ∈ [a, L], Own X pins H b) ∨
        ∃ gs fp sl, s.gens[gn]? = some gs ∧ Slp X.prog X.w X.K X.base tg e yp ypos X.A.in1 (envOfC qual (defScope st) L f cd) X.stack lo (xs.drop 1) i gs s.heap fp sl ∧ (∀ b ∈ a :: L :: sl :: fp, Own X pins H b) ∧ a ∉ L :: fp) →
      (∀ s' H' zs, Inv X pins σ H' s' → H' S = some (.lst zs) → zs.length = xs.length - 1 → Prs xs H' zs → (∀ b o, b ≠ S → H b = some o → H' b = some o) → R (.ok (.ret res)) s') →
      codeAny (model X.prog X.w) A0 (.builtin "list.extend.loop" ⟨[.ref S, .ref a, res], []⟩) R s := by
  intro n
  induction n with
  | zero =>
    intro i s H ys hn hi I hlo hS hy hp hg hst hR
    refine codeAny_builtin F.entry_extend_loop ?_
    rw [Around.under_plainId F.plain_extend_loop _]
    show wpAny _ A0.in1 (pyNext (.ref a) >>= _) _ _ s
    rw [← hA]
    have key : wpAny (model X.prog X.w) X.A (pyNext (.ref a)) (Turned X pins σ H tg e yp ypos (envOfC qual (defScope st) L f cd) a gn lo xs i) (fun _ _ => False) s := by
      rcases hst with ⟨rfl, q1, q2, q3⟩ | ⟨gs, fp, sl, q1, q2, q3, q4⟩
      · exact next_new Tx hr I hlo hL1 hL2 hL3 hg q1 q2 q3 haL hafs hab
      · exact next_slp Tx hr I hlo hL1 hL2 hL3 hg q1 q2 q3 q4 hafs
    refine wpAny_bind (wpAny_mono key (fun r s4 h4 => ?_) fun _ _ z => z.elim)
    rcases h4 with ⟨u, v, p, gs, fp, sl, rfl, hu, hv, _⟩ | ⟨rfl, hlen, I4⟩
    · have := (List.getElem?_eq_some_iff.mp hv).1
      omega
    · exact wpAny_pure (hR _ H ys I4 hS (by omega) hp fun _ _ _ z => z)
  | succ n ih =>
    intro i s H ys hn hi I hlo hS hy hp hg hst hR
    refine codeAny_builtin F.entry_extend_loop ?_
    rw [Around.under_plainId F.plain_extend_loop _]
    show wpAny _ A0.in1 (pyNext (.ref a) >>= _) _ _ s
    rw [← hA]
    have key : wpAny (model X.prog X.w) X.A (pyNext (.ref a)) (Turned X pins σ H tg e yp ypos (envOfC qual (defScope st) L f cd) a gn lo xs i) (fun _ _ => False) s := by
      rcases hst with ⟨rfl, q1, q2, q3⟩ | ⟨gs, fp, sl, q1, q2, q3, q4⟩
      · exact next_new Tx hr I hlo hL1 hL2 hL3 hg q1 q2 q3 haL hafs hab
      · exact next_slp Tx hr I hlo hL1 hL2 hL3 hg q1 q2 q3 q4 hafs
    refine wpAny_bind (wpAny_mono key (fun r s4 h4 => ?_) fun _ _ z => z.elim)
    rcases h4 with ⟨u, v, p, gs, fp, sl, rfl, hu, hv, hpn, I4, hg4, hgs4, S4, own4, hag4⟩ | ⟨rfl, hlen, I4⟩
    · have hpS : S ≠ p := fun z => by rw [← z, hS] at hpn; cases hpn
      have hS4 : upd H p (.tup [u, v]) S = some (.lst ys) := by rw [upd_ne hpS]; exact hS
      have hlp : lo ≠ p := fun z => by rw [← z, hlo] at hpn; cases hpn
      obtain ⟨z, its, c, r, hl, es⟩ := I4.lstM hS4
      show wpAny _ _ (updateSeq S (·.push (.ref p)) >>= _) _ _ _
      refine wpAny_bind ?_
      have h1001 : (1001 : Nat) ≤ sizeLine := by decide
      have hb1 : its.toArray.size ≤ sizeLine := by rw [List.size_toArray]; omega
      have hb2 : (its.toArray.push (Value.ref p)).size ≤ sizeLine + 1 := by rw [Array.size_push, List.size_toArray]; omega
      have hb3 : (ys ++ [V.ref p]).length ≤ sizeLine := by rw [List.length_append, List.length_singleton]; omega
      refine wpAny_updateSeq es rfl (wpAny_pure ⟨plainId_quiet F.plain_extend_loop _, ?_⟩) hb1 hb2
      have rp : Vals [V.ref p] [Value.ref p] := .cons (show RelV (V.ref p) (Value.ref p) from rfl) .nil
      have I5 := I4.lset (its' := its ++ [Value.ref p]) (ys := ys ++ [V.ref p]) (f := fun zs => zs.push (Value.ref p)) (t' := s4.toks) hS4 es (by simp) (r.append rp) hb3
      have nS : ∀ b, upd H p (.tup [u, v]) b = none → b ≠ S := fun b q z => by rw [z, hS4] at q; cases q
      have keepS : ∀ b o, b ≠ S → s4.heap.get? b = some o → (s4.heap.update S (Obj.mapSeq (·.push (.ref p)))).get? b = some o := fun b o h q => (Heap.get?_update_other _ _ (Ne.symm h)).trans q
      refine ih (i + 1) _ _ (ys ++ [.ref p]) (by omega) (by omega) I5 (by rw [upd_ne hSlo, upd_ne hlp]; exact hlo) upd_same (by rw [List.length_append, hy]; rfl) ?_ ?_ (.inr ⟨gs, fp, sl, hgs4, S4.keep fun b hb o q => keepS b o (nS b (own4 b (List.mem_cons_of_mem _ hb)).un) q, fun b hb => ?_, hag4⟩) ?_
      · intro j w hj
        rw [List.getElem?_append] at hj
        split at hj
        · obtain ⟨p', u', w', q1, q2, q3, q4⟩ := hp j w hj
          refine ⟨p', u', w', q1, q2, q3, ?_⟩
          have n1 : p' ≠ S := fun z => by rw [z, hS] at q4; cases q4
          have n2 : p' ≠ p := fun z => by rw [z, hpn] at q4; cases q4
          rw [upd_ne n1, upd_ne n2]
          exact q4
        · rename_i hnj
          have hj0 : j - ys.length = 0 := by
            have := (List.getElem?_eq_some_iff.mp hj).1
            simp at this
            omega
          rw [hj0] at hj
          cases hj
          have : j = i := by omega
          subst this
          exact ⟨p, u, v, rfl, hu, hv, by rw [upd_ne (Ne.symm hpS), upd_same]⟩
      · obtain ⟨o, nm', qn, ho, r'⟩ := hg4
        exact ⟨o, nm', qn, keepS a o (nS a (own4 a (by simp)).un) ho, r'⟩
      · have o4 := own4 b hb
        exact o4.up (nS b o4.un)
      · intro s' H' zs q1 q2 q3 q4 q5
        refine hR s' H' zs q1 q2 q3 q4 fun b o hb q => q5 b o hb ?_
        rw [upd_ne hb, upd_ne (fun z => by rw [z, hpn] at q; cases q)]
        exact q
    · omega
theorem inv_at {A1 : Around} {pins : List (Addr × Obj)} {σ : L2.St} {H : Hp} {s : Shared} (h1 : A1.handled = X.A.handled) (h2 : A1.frames = X.A.frames) (I : Inv X pins σ H s) : Inv { X with A := A1 } pins σ H s :=
  ⟨⟨I.ok.mod, I.ok.kind, I.ok.glob, I.ok.blt, I.ok.above, I.ok.inj, I.ok.has, I.ok.cab, fun c => h1.trans (I.ok.hd c), h2.trans I.ok.frames, I.ok.stk, I.ok.exf, I.ok.bs, I.ok.bsz, I.ok.noex, I.ok.exfs, I.ok.funs, I.ok.frf⟩, I.os, I.bare, I.base, I.loc, I.cell, I.free, I.freeC, I.pin, I.hok, I.len⟩
theorem inv_back {A1 : Around} {pins : List (Addr × Obj)} {σ : L2.St} {H : Hp} {s : Shared} (h1 : A1.handled = X.A.handled) (h2 : A1.frames = X.A.frames) (I : Inv { X with A := A1 } pins σ H s) : Inv X pins σ H s :=
  inv_at (X := { X with A := A1 }) (A1 := X.A) h1.symm h2.symm I
/-- list(g) of a generator of pairs that was just made -/
theorem call_list_g (Tx : GT X.prog X.w X.K X.mg X.base x qual st f fd N p0 tg iter e yp ypos fpos g te wi) (hr : Room (k + 1) X.A) {pins : List (Addr × Obj)} {σ : L2.St} {H : Hp} {L a lo gn : Nat} {cd : Value} {xs : List V} {s : Shared} {Q : Value → Shared → Prop} {E : Value → Shared → Prop}
    (I : Inv X pins σ H s) (hlo : H lo = some (.lst xs)) (hx : xs.length ≤ 1000)
    (hL1 : ∀ b ∈ frs X.stack, b < L) (hL2 : X.base.objs.size ≤ L) (hL3 : X.s_0.heap.objs.size ≤ L) (haL : a ≠ L) (hafs : a ∉ frs X.stack) (hab : X.base.get? a = none) (hg : s.heap.IsGen a gn)
    (hgs : s.gens[gn]? = some (.fresh (.func (defBody st) (envOfC qual (defScope st) L f cd)))) (hns : ∃ m, s.heap.Ns L m ∧ m p0 = some (.ref lo)) (hown : ∀ b ∈ [a, L], Own X pins H b)
    (hQ : ∀ S s' H' zs, H S = none → Inv X pins σ H' s' → H' S = some (.lst zs) → zs.length = xs.length - 1 → Prs xs H' zs → Same H H' → Q (.ref S) s') :
    wpAny (model X.prog X.w) X.A (call (.type "list") [.ref a]) Q E s := by
  have hl := I.nolimit
  obtain ⟨oa, _, _, hoa, _⟩ := id hg
  have hSa : s.heap.objs.size ≠ a := Nat.ne_of_gt (Heap.lt_size hoa)
  have hHS : H s.heap.objs.size = none := I.hok.fresh (Nat.le_refl _)
  refine callType_codes (Q₁ := fun obj s₁ => obj = .ref s.heap.objs.size ∧ s₁ = { s with heap := s.heap.push { cls := .type "list", data := .seq #[] } }) F.called_list (F.typeCall_list_1 _) F.entry_list_init
    (code_list_new _ ⟨rfl, rfl⟩) fun obj s₁ h₁ => ?_
  obtain ⟨rfl, rfl⟩ := h₁
  have hS : (s.heap.push { cls := .type "list", data := .seq #[] }).get? s.heap.objs.size = some { cls := .type "list", data := .seq #[] } := Heap.get?_push_size _ rfl
  refine ⟨⟨_, hS, rfl⟩, F.args_list_init_2 _ _, ?_⟩
  show wpAny _ X.A.in1.in1 (do let old ← Builtin.List.listItems (.ref s.heap.objs.size); Builtin.List.listUpdate (.ref s.heap.objs.size) (fun _ => #[]); letGo old.toList.reverse; Builtin.List.listExtendWith (.ref s.heap.objs.size) (.ref a) .none) _ _ _
  refine wpAny_bind ?_
  unfold Builtin.List.listItems
  refine wpAny_bind (wpAny_seqItems hS rfl (wpAny_pure ?_))
  show wpAny _ X.A.in1.in1 (updateSeq s.heap.objs.size (fun _ => #[]) >>= fun _ => letGo (#[] : Array Value).toList.reverse >>= fun _ => Builtin.List.listExtendWith (.ref s.heap.objs.size) (.ref a) .none) _ _ _
  refine wpAny_bind (wpAny_updateSeq hS rfl ?_)
  have hS2 := Heap.get?_update_self (Obj.mapSeq (fun _ => (#[] : Array Value))) hS rfl
  refine wpAny_bind (wpAny_letGo ?_)
  unfold Builtin.List.listExtendWith
  have up : ∀ (h : Heap) (f : Obj → Obj), (∀ b o, s.heap.get? b = some o → h.get? b = some o) → ∀ b o, s.heap.get? b = some o → (h.update s.heap.objs.size f).get? b = some o := fun h f q b o e =>
    (Heap.get?_update_other _ _ (Ne.symm (Nat.ne_of_lt (Heap.lt_size e)))).trans (q b o e)
  have k1 : ∀ b o, s.heap.get? b = some o → (s.heap.push { cls := .type "list", data := .seq #[] }).get? b = some o := fun b o e => Heap.get?_push_of_some _ e
  have k2 := up _ (Obj.mapSeq (fun _ => (#[] : Array Value))) k1
  have gty : ∀ {h : Heap}, (∀ b o, s.heap.get? b = some o → h.get? b = some o) → h.IsGen a gn := fun {h} q => hg.keeps q
  refine wpAny_bind (wpAny_typeOf (Heap.IsGen.typeIs (s := { s with heap := _ }) (gty k2)) ?_)
  have h1 : Builtin.List.listSameRef (.ref s.heap.objs.size) (.ref a) = false := by simp [Builtin.List.listSameRef, hSa]
  have h2 : (Value.type "generator" == Value.type "list") = false := by decide
  have h3 : (Value.type "generator" == Value.type "tuple") = false := by decide
  simp only [h1, h2, h3, Bool.or_false, Bool.false_eq_true, if_false]
  refine wpAny_bind (wpAny_pyIter_gen (s := { s with heap := _ }) (gty k2) ?_)
  refine wpAny_bind (wpAny_holding ?_)
  unfold Builtin.List.listLengthHint
  refine wpAny_bind (wpAny_specialOf (Heap.IsGen.typeIs (s := { s with heap := _ }) (gty k2)) F.gen_no_len ?_)
  show wpAny _ X.A.in1.in1 (specialOf (Value.ref a) (Str.ofString "__length_hint__") >>= _) _ _ _
  refine wpAny_bind (wpAny_specialOf (Heap.IsGen.typeIs (s := { s with heap := _ }) (gty k2)) F.gen_no_hint ?_)
  refine wpAny_pure ?_
  show wpAny _ X.A.in1.in1 (rule "list.extend.makes-room" >>= fun _ => Builtin.List.listTouch (.ref s.heap.objs.size) >>= fun _ =>
    again (.builtin "list.extend.loop" ⟨[.ref s.heap.objs.size, .ref a, .none], []⟩)) _ _ _
  refine wpAny_bind (wpAny_rule ?_)
  refine wpAny_bind ?_
  show wpAny _ X.A.in1.in1 (updateSeq s.heap.objs.size (·.push .none) >>= fun _ => updateSeq s.heap.objs.size (·.pop)) _ _ _
  refine wpAny_bind (wpAny_updateSeq hS2 rfl ?_)
  have hS3 := Heap.get?_update_self (Obj.mapSeq (·.push Value.none)) hS2 rfl
  refine wpAny_updateSeq (hz := by seq_fits) hS3 rfl ?_
  have hS4 := Heap.get?_update_self (Obj.mapSeq (·.pop)) hS3 rfl
  have k4 := up _ (Obj.mapSeq (·.pop)) (up _ (Obj.mapSeq (·.push Value.none)) k2)
  refine wpAny_pure ⟨plainId_quiet F.plain_extend_loop _, ?_⟩
  have IS := inv_at (A1 := X.A.in1.in1) rfl rfl (I.drained (s' := { s with heap := (((s.heap.push { cls := .type "list", data := .seq #[] }).update s.heap.objs.size (Obj.mapSeq fun _ => #[])).update s.heap.objs.size (Obj.mapSeq (·.push Value.none))).update s.heap.objs.size (Obj.mapSeq (·.pop)) }) (H' := H) (ex := []) (out := []) (acc := #[]) (Nat.le_refl _) (Nat.zero_le _) hS4 .nil ExOk.nil rfl I.bare (Un.kept k4) (I.hok.kept k4) hHS)
  have nS : ∀ b ∈ [a, L], b ≠ s.heap.objs.size := fun b hb => by
    rcases List.mem_cons.mp hb with z | z
    · rw [z]; exact Ne.symm hSa
    · rw [List.mem_singleton.mp z]
      obtain ⟨m, hm, _⟩ := hns
      exact Nat.ne_of_lt hm.lt
  have hloS : lo ≠ s.heap.objs.size := fun z => by rw [z, hHS] at hlo; cases hlo
  obtain ⟨m, hm, hmp⟩ := hns
  refine drain_g (X := { X with A := X.A.in1.in1 }) (A0 := X.A.in1) (k := k) rfl Tx ⟨hr.hd, ?_, ?_⟩ hL1 hL2 hL3 haL hafs hab hx hloS _ 0 _ _ [] rfl (Nat.zero_le _) IS (by rw [upd_ne hloS]; exact hlo) upd_same rfl (fun j v z => by cases z) (gty k4) (.inl ⟨rfl, hgs, ⟨m, hm.at' fun o q => k4 _ o q, hmp⟩, fun b hb => ?_⟩) fun s' H' zs q1 q2 q3 q4 q5 => ⟨rfl, ?_⟩
  · have := hr.dp
    show X.A.depth + 3 * k + 5 < _
    omega
  · have := hr.un
    show X.A.units + 1 + 1 + 16 * k + 200 < _
    omega
  · have := (hown b hb).up (o := .lst []) (nS b hb)
    exact ⟨this.un, this.loc, this.fs, this.cell, this.pin⟩
  · refine hQ _ s' H' zs hHS (inv_back (X := X) (A1 := X.A.in1.in1) rfl rfl q1) q2 q3 q4 fun b o q => ?_
    have nb : b ≠ s.heap.objs.size := fun z => by rw [z, hHS] at q; cases q
    exact q5 b o nb (by rw [upd_ne nb]; exact q)
def tListF (t : TA) : TE := fun σ H Q => t σ H fun vs H1 => ∃ (lo : Addr) (xs : List V), vs = [.ref lo] ∧ H1 lo = some (.lst xs) ∧ xs.length ≤ 1000 ∧
  ∀ S H' zs, H1 S = none → H' S = some (.lst zs) → zs.length = xs.length - 1 → Prs xs H' zs → Same H1 H' → Q (.ref S) H'
/-- list(f(l)) -/
theorem pe_listF {e1 : Expr} {t : TA} {ln : Str} {np cp lp pos : Pos} (Tx : GT X.prog X.w X.K X.mg X.base x qual st f fd N p0 tg iter e yp ypos fpos g te wi) (hr : Room (k + 1) X.A) (hg : Gl X nm) (hm : X.mg nm = some (.ref f)) (hk : PySem.W.keepIn X.K (.ref f) = true) (hb : Binds X.K fd [p0] [])
    (hgl : Gl X ln) (hml : X.mg ln = none) (hv : bootBuiltins ln = some (.type "list")) (ha : PA X [e1] t) (hnl : ln ≠ "__name__" := by decide) (hdl : (ln == ("__debug__" : Str)) = false := by decide) (hdb : (nm == ("__debug__" : Str)) = false := by decide)
    (he : starEach [e1] X.env = (false, eval e1 X.env) :: starEach [] X.env := by rfl)
    (hel : starEach [Expr.Call (.Name nm np) [e1] [] cp] X.env = (false, eval (Expr.Call (.Name nm np) [e1] [] cp) X.env) :: starEach [] X.env := by rfl) :
    PE X (.Call (.Name ln lp) [.Call (.Name nm np) [e1] [] cp] [] pos) (tListF t) := by
  refine ⟨fun pins s σ H Q I h => ?_⟩
  refine wpAny_Call_Name_kw (ld_blt I hgl hml hv ?_ hnl hdl)
  refine PyProof.Rows.callWith_type1 ?_ hel rfl
  rw [hel]
  show wpAny _ _ (spliced ((false, eval (Expr.Call (.Name nm np) [e1] [] cp) X.env) :: backTo pos (starEach [] X.env))) _ _ s
  have gen : wpAny (model X.prog X.w) X.A (eval (Expr.Call (.Name nm np) [e1] [] cp) X.env) (fun (r2 : Value) (s2 : Shared) => ∃ (vs : List V) (H1 : Hp) (s1 : Shared) (a : Addr) (gn : Nat) (cd : Value) (lo : Addr), Inv X pins σ H1 s1 ∧ vs = [V.ref lo] ∧ (∃ (lo : Addr) (xs : List V), vs = [.ref lo] ∧ H1 lo = some (.lst xs) ∧ xs.length ≤ 1000 ∧
      ∀ S H' zs, H1 S = none → H' S = some (.lst zs) → zs.length = xs.length - 1 → Prs xs H' zs → Same H1 H' → Q (.ref S) H') ∧ r2 = Value.ref a ∧ New qual st f cd p0 (Value.ref lo) s1 a gn s2) X.xe s := by
    refine wpAny_Call_Name_kw (ld_glob I hg hm ?_ hdb)
    refine PySem.W.callWith_K (h₀ := X.base) I.ok.mod.kin hk (thn (ha.run cp pins s σ H _ I h) fun us s1 h1 => ?_) he rfl
    obtain ⟨vs, H1, I1, r, lo, xs, rfl, hlo, q⟩ := h1
    refine ⟨I1.kIn, ?_⟩
    obtain ⟨ulo, rfl, rlo⟩ : ∃ ulo, us = [ulo] ∧ ulo = .ref lo := by
      cases r with
      | cons r1 r2 => cases r2; exact ⟨_, rfl, r1⟩
    subst rlo
    refine wpAny_mono (made (E := fun _ _ => False) Tx.D hr I1 hb) (fun r2 s2 h2 => ?_) fun _ _ z => z.elim
    obtain ⟨a, gn, cd, rfl, W⟩ := h2
    exact ⟨_, H1, s1, a, gn, cd, lo, I1, rfl, ⟨lo, xs, rfl, hlo, q⟩, rfl, W⟩
  refine Calls.spliced_cons (thn gen fun u s2 h2 => ?_)
  refine Calls.spliced_nil ?_
  obtain ⟨_, H1, s1, a, gn, cd, lo, I1, rfl, ⟨lo', xs, el, hlo, hx, q⟩, rfl, W⟩ := h2
  cases el
  obtain ⟨L, hL⟩ : ∃ L, L = s1.heap.objs.size := ⟨_, rfl⟩
  have I2 : Inv X pins σ H1 s2 := I1.call' (ch := []) W.os (Un.kept W.keep) (I1.hok.kept W.keep) W.bare fun b z => by simp at z
  have lt1 : ∀ {b o}, s1.heap.get? b = some o → b < L := fun q => by rw [hL]; exact Heap.lt_size q
  have hL1 : ∀ b ∈ frs X.stack, b < L := fun b hb => by
    obtain ⟨_, o, ho, _⟩ := I1.stack.mem hb
    exact lt1 ho
  have hL2 : X.base.objs.size ≤ L := by rw [hL]; exact Nat.le_trans I1.ok.bsz I1.sz
  have hL3 : X.s_0.heap.objs.size ≤ L := by rw [hL]; exact I1.sz
  have haL : a ≠ L := by rw [hL]; exact Nat.ne_of_gt W.le
  have hafs : a ∉ frs X.stack := fun z => by
    have h1 := hL1 a z
    have h2 := W.le
    rw [← hL] at h2
    exact Nat.lt_irrefl _ (Nat.lt_trans h1 h2)
  have nold : ∀ {b}, L ≤ b → s1.heap.get? b = none := fun {b} hb => by
    cases q : s1.heap.get? b with
    | none => rfl
    | some o => exact absurd (Nat.lt_of_lt_of_le (lt1 q) hb) (Nat.lt_irrefl _)
  have own2 : ∀ b ∈ [a, L], Own X pins H1 b := fun b hb => by
    refine own_new I1 (nold ?_)
    have h2 := W.le
    rw [← hL] at h2
    rcases List.mem_cons.mp hb with z | z
    · rw [z]
      exact Nat.le_of_lt h2
    · rw [List.mem_singleton.mp z]
      exact Nat.le_refl _
  have hab : X.base.get? a = none := by
    cases q : X.base.get? a with
    | none => rfl
    | some o =>
      have h1 := Heap.lt_size q
      have h2 := W.le
      rw [← hL] at h2
      exact absurd (Nat.lt_trans (Nat.lt_of_lt_of_le h1 hL2) h2) (Nat.lt_irrefl _)
  have W1 := W.at_
  have W2 := W.ns
  rw [← hL] at W1 W2
  exact call_list_g Tx hr I2 hlo hx hL1 hL2 hL3 haL hafs hab W.gen W1 W2 own2 fun S s' H' zs q1 q2 q3 q4 q5 q6 => ⟨.ref S, H', q2, rfl, q S H' zs q1 q3 q4 q5 q6⟩
end
end Gl

namespace Gl
open PySem PySem.Spec PyProof.Rows L2
/-! the parts of a generator def's body -/
def bTg : List Stmt → Expr
  | .For tg _ _ _ _ :: _ => tg
  | _ => .Constant .none 0 ⟨0, 0, 0, 0⟩
def bIt : List Stmt → Expr
  | .For _ it _ _ _ :: _ => it
  | _ => .Constant .none 0 ⟨0, 0, 0, 0⟩
def bE : List Stmt → Expr
  | .For _ _ (.Expr (.Yield (some e) _) _ :: _) _ _ :: _ => e
  | _ => .Constant .none 0 ⟨0, 0, 0, 0⟩
def bYp : List Stmt → Pos
  | .For _ _ (.Expr (.Yield _ p) _ :: _) _ _ :: _ => p
  | _ => ⟨0, 0, 0, 0⟩
def bYs : List Stmt → Pos
  | .For _ _ (.Expr _ p :: _) _ _ :: _ => p
  | _ => ⟨0, 0, 0, 0⟩
def bFp : List Stmt → Pos
  | .For _ _ _ _ p :: _ => p
  | _ => ⟨0, 0, 0, 0⟩
theorem cut1 (xs : List V) : cutV xs (some 1) none = xs.drop 1 := by
  have e2 : HT.sIx xs.length xs.length none = xs.length := rfl
  have e1 : HT.sIx xs.length 0 (some 1) = min 1 xs.length := by
    unfold HT.sIx
    simp
  unfold cutV
  rw [e1, e2]
  cases xs with
  | nil => rfl
  | cons x xs =>
    rw [show min 1 (x :: xs).length = 1 by rw [List.length_cons]; omega]
    rw [List.drop_succ_cons, List.drop_zero, List.length_cons, Nat.add_sub_cancel, List.take_length]
theorem zip_r1 {K : PySem.W.Frag} {a b c : Str} (H : Hp) (lo : Addr) (xs : List V) (R : It → Hp → Prop) (h : SqL K H lo xs) (q : ∀ sl, H sl = none → R (Itz K lo sl) (upd H sl (.lst (xs.drop 1)))) :
    iZip K (tCons (tVar 0) (tCons (tSl (rSlL K) (tVar 0) (tPart (tC (.int 1))) tNoPart) tNil)) (some (.ref lo) :: List.replicate (([a, b, c] : List Str).length - 1) none) H R := by
  refine ⟨_, rfl, _, rfl, 1, rfl, lo, xs, rfl, h, fun sl hsl => ?_⟩
  rw [cut1]
  exact ⟨lo, sl, xs, xs.drop 1, rfl, (same_of_new hsl).seq h, .inl (.inl upd_same), q sl hsl⟩
theorem zip_r2 {K : PySem.W.Frag} {a b c : Str} (σ : L2.St) (H : Hp) (T : Addr) (u v : V) (R : VK) (hl : σ.length = ([a, b, c] : List Str).length) (hT : H T = none) (q : ∀ p, upd H T (.tup [u, v]) p = none → R (.ref p) (upd (upd H T (.tup [u, v])) p (.tup [u, v]))) :
    gTup K 2 (gCons (gName 1) (gCons (gName 2) gNil)) (.ref T) σ (upd H T (.tup [u, v])) fun σ2 H2 => tTup (tCons (tVar 1) (tCons (tVar 2) tNil)) σ2 H2 R := by
  match σ, hl with
  | [s0, s1, s2], _ =>
    exact ⟨T, [u, v], rfl, .inl (.inl upd_same), rfl, u, [v], rfl, v, [], rfl, rfl, u, rfl, v, rfl, by show 2 ≤ sizeLine; decide, q⟩
end Gl

namespace Z
open PySem PySem.Spec PyProof.Rows L2

/-! ### operators -/
section
variable {X : Cx}
def CFd (_ j : Int) : Prop := j ≠ 0 ∧ j.natAbs.log2 < 9000
theorem op_fdivZ : OpR X (binaryOp .FloorDiv) (rI CFd fun i j => .int (i.fdiv j)) := opI fun i j _ _ _ _ _ hc q => floordiv_int hc.1 q (.inl (PyProof.noPylong_of_log2 hc.2))
theorem pe_globE {x : Str} {pos : Pos} {v : V} (h : ∃ u, X.mg x = some u ∧ RelV v u) (hg : Gl X x := by rfl) (hdb : (x == ("__debug__" : Str)) = false := by decide) : PE X (.Name x pos) (tC v) := by
  obtain ⟨u, h1, h2⟩ := h
  exact pe_glob hg h1 h2 hdb
theorem pe_globR {x : Str} {pos : Pos} {a : Addr} (h : X.mg x = some (.ref a)) (hg : Gl X x := by rfl) (hdb : (x == ("__debug__" : Str)) = false := by decide) : PE X (.Name x pos) (tC (.ref a)) := pe_glob hg h rfl hdb
end
/-- an own error class over ValueError -/
structure ExcX (K : PySem.W.Frag) (mg : Str → Option Value) (x : Str) (C : Addr) : Prop where
  g : mg x = some (.ref C)
  q : PySem.W.excIn K C [.type "ValueError", .type "Exception", .type "BaseException", .type "object"] "ValueError.__new__" = true
  k : PySem.W.keepIn K (.ref C) = true
  t : PySem.W.typeIn K (.ref C) = some (.type "type")
  c : ExcC K C
  v : PySem.W.subIn K (.ref C) (.type "ValueError") = some true
section
variable {X : Cx} {C D : Addr} {K : PySem.W.Frag} {mg : Str → Option Value} {x y : Str} {b : Bool}
theorem pmk {m : Str} {j : Nat} {p p2 pos : Pos} (E : ExcX X.K X.mg x C) (hg : Gl X x) (hdb : (x == ("__debug__" : Str)) = false := by decide) :
    PMk X (.Call (.Name x p) [.Constant (.str m) j p2] [] pos) (fun _ H Q => Q (.ref C) none H) := pmk_own PySem.F.excBase_ValueError E.q E.g E.k (raises_own E.c.hs E.t) hg hdb
theorem exm (E : ExcX K mg x C) (h : PySem.W.subIn K (.ref D) (.ref C) = some b) : PySem.W.exmOne K (.ref D) (.ref C) = some b := PySem.W.exm_ref E.c.hs E.c.hd E.t h
theorem kit_own (E : ExcX K mg x C) (h : PySem.W.subIn K (.ref D) (.ref C) = some b) (hs : PySem.W.subIn K (.ref C) (.ref C) = some true) : PySem.W.kitOne K (.ref D) (.ref C) = some b := by
  unfold PySem.W.kitOne
  by_cases e : D = C
  · subst e
    rw [hs] at h
    cases h
    rw [if_pos (by simp)]
  · rw [if_neg (by simpa using e)]
    unfold PySem.W.kitCls
    obtain ⟨cd, hc, _⟩ := PySem.W.any_some E.c.hd
    have e2 : ((PySem.W.clsIn K C).isSome && PySem.W.typeIn K (.ref C) == some (.type "type")) = true := by rw [hc, E.t] <;> rfl
    show (if _ then _ else _) = _
    rw [if_pos e2, h]
theorem kit_ve (E : ExcX K mg x D) : PySem.W.kitOne K (.ref D) (.type "ValueError") = some true := by
  unfold PySem.W.kitOne
  rw [if_neg (by simp)]
  unfold PySem.W.kitCls
  show (if _ then _ else _) = _
  rw [if_pos (by decide +kernel), E.v]
/-- isinstance of the error that a suite holds -/
def rIsEx (K : PySem.W.Frag) (cls : Value) (d : Option Addr) (a : Addr) : List V → Hp → VK → Prop := fun xs H Q => ∃ D, cls = .ref D ∧ d = none ∧ ExcC K D ∧ rIsE K D a xs H Q
theorem call_isE {a : Addr} {oe : Obj} {cls : Value} {d : Option Addr} {pn : List (Addr × Obj)} (hz : Zc cls d oe) (hf : ∃ vs, oe.data = .fields vs) : CallR (X.suite a ((a, oe) :: pn)) (.builtin "isinstance") (rIsEx X.K cls d a) := by
  intro pins s σ H xs us Q I r h
  obtain ⟨D, e1, e2, c, h⟩ := h
  subst e1
  subst e2
  exact L2.call_isE c hz hf pins s σ H xs us Q I r h
end

/-! ### heaps -/
theorem same_upd {H : Hp} {p : Addr} {o : HO} (h : H p = none) : Same H (upd H p o) := fun b x e => by
  rw [upd_ne (ne_of_none e h)]
  exact e
theorem Same.seqT {K : PySem.W.Frag} {H H' : Hp} {a : Addr} {xs : List V} (e : Same H H') (h : SqT K H a xs) : SqT K H' a xs := by
  rcases h with (h | ⟨o, h⟩) | h
  · exact .inl (.inl (e _ _ h))
  · exact .inl (.inr ⟨o, e _ _ h⟩)
  · exact .inr h
theorem seqT {K : PySem.W.Frag} {H H' : Hp} {a : Addr} {xs : List V} (e : Same H H') (h : SqT K H a xs) : SqT K H' a xs := Same.seqT e h
theorem sz {n : Nat} (h : n ≤ 1000) : n ≤ sizeLine := Nat.le_trans h (by decide)

/-! ### readings, step by step -/
def NewT (Q : VK) : List V → Hp → Prop := fun xs H1 => xs.length ≤ sizeLine ∧ ∀ p, H1 p = none → Q (.ref p) (upd H1 p (.tup xs))
def NewL (Q : VK) : List V → Hp → Prop := fun xs H1 => xs.length ≤ sizeLine ∧ ∀ p, H1 p = none → Q (.ref p) (upd H1 p (.lst xs))
section
variable {σ : L2.St} {H : Hp} {n : L2.St → Hp → Prop} {r : VK} {b c : L2.St → Hp → Prop} {t u : TS} {te ta tb : TE} {tt tu : TT} {Q : VK} {QB : Bool → Hp → Prop} {v w x y : V} {i j : Int} {K : PySem.W.Frag}
theorem z_seq (h : t ⟨u ⟨n, r, b, c⟩, r, b, c⟩ σ H) : tSeq t u ⟨n, r, b, c⟩ σ H := h
theorem z_asg {k : Nat} (h : te σ H fun x H1 => n (σ.set k (some x)) H1) : tAsg te (gName k) ⟨n, r, b, c⟩ σ H := h
theorem z_asgS {to ti : TE} {st : TSet} (h : te σ H fun v H0 => to σ H0 fun o H1 => ti σ H1 fun k H2 => st o k v H2 fun H3 => n σ H3) : tAsg te (gSub to ti st) ⟨n, r, b, c⟩ σ H := h
theorem z_drop (h : te σ H fun _ H1 => n σ H1) : tDrop te ⟨n, r, b, c⟩ σ H := h
theorem z_ret (h : te σ H r) : tRet te ⟨n, r, b, c⟩ σ H := h
theorem z_retN (h : r .non H) : tRetN ⟨n, r, b, c⟩ σ H := h
theorem z_next (h : n σ H) : tNext ⟨n, r, b, c⟩ σ H := h
theorem z_brk (h : b σ H) : tBreak ⟨n, r, b, c⟩ σ H := h
theorem z_cont (h : c σ H) : tCont ⟨n, r, b, c⟩ σ H := h
theorem z_ifs (h : tt σ H fun k H1 => if k = true then t ⟨n, r, b, c⟩ σ H1 else u ⟨n, r, b, c⟩ σ H1) : tIfS tt t u ⟨n, r, b, c⟩ σ H := h
theorem z_par {p q : Nat} {tl : TA} (h : tl σ H fun vs H1 => ∃ v w, vs = [v, w] ∧ n ((σ.set p (some v)).set q (some w)) H1) : tPar p q tl ⟨n, r, b, c⟩ σ H := h
theorem z_two {R : V → V → Prop} (h : R v w) : ∃ v' w', [v, w] = [v', w'] ∧ R v' w' := ⟨v, w, rfl, h⟩
theorem z_aug {k : Nat} {ti : TIp} (h : σ[k]? = some (some x)) (q : te σ H fun y H1 => ti x y H1 fun z H2 => n (σ.set k (some z)) H2) : tAug k te ti ⟨n, r, b, c⟩ σ H := ⟨x, h, q⟩
theorem z_ipI {f : Int → Int → Int} (q : Q (.int (f i j)) H) : ipI f (.int i) (.int j) H Q := ⟨i, j, rfl, rfl, q⟩
theorem z_var {k : Nat} (h : σ[k]? = some (some v)) (q : Q v H) : tVar k σ H Q := ⟨v, h, q⟩
theorem z_c (q : Q v H) : tC v σ H Q := q
theorem z_op {g : R2} (h : ta σ H fun x H1 => tb σ H1 fun y H2 => g x y H2 Q) : tOp g ta tb σ H Q := h
theorem z_un {g : V → Hp → VK → Prop} (h : ta σ H fun x H1 => g x H1 Q) : tUn g ta σ H Q := h
theorem z_I0 {g : Int → Int → V} (q : Q (g i j) H) : rI0 g (.int i) (.int j) H Q := ⟨i, j, rfl, rfl, q⟩
theorem z_I {C : Int → Int → Prop} {g : Int → Int → V} (hc : C i j) (q : Q (g i j) H) : rI C g (.int i) (.int j) H Q := ⟨i, j, rfl, rfl, hc, q⟩
theorem z_U {g : Int → V} (q : Q (g i) H) : rU g (.int i) H Q := ⟨i, rfl, q⟩
theorem z_eqI (q : Q (.bl (decide (i = j))) H) : rEq (.int i) (.int j) H Q := ⟨rfl, by rw [show decide (V.int i = V.int j) = decide (i = j) by simp]; exact q⟩
theorem z_neI (q : Q (.bl (decide (¬ i = j))) H) : rNe (.int i) (.int j) H Q := ⟨rfl, by rw [show (!decide (V.int i = V.int j)) = decide (¬ i = j) by simp]; exact q⟩
theorem z_eq (h : scal x y = true) (q : Q (.bl (decide (x = y))) H) : rEq x y H Q := ⟨h, q⟩
theorem z_test (h : te σ H fun x H1 => ∃ k, x = .bl k ∧ QB k H1) : tTest te σ H QB := h
theorem z_tB (h : te σ H fun x H1 => ∃ k, x = .bl k ∧ QB k H1) : tB te σ H QB := h
theorem z_bl {k : Bool} {R : Bool → Prop} (q : R k) : ∃ k', V.bl k = V.bl k' ∧ R k' := ⟨k, rfl, q⟩
theorem z_notT (h : tt σ H fun k H1 => QB (!k) H1) : tNot tt σ H QB := h
theorem z_andT (h : tt σ H fun k H1 => if k = true then tu σ H1 QB else QB false H1) : tAnd tt tu σ H QB := h
theorem z_orT (h : tt σ H fun k H1 => if k = true then QB true H1 else tu σ H1 QB) : tOr tt tu σ H QB := h
theorem z_andV (h : ta σ H fun x H1 => ∃ k, x = .bl k ∧ if k = true then tb σ H1 Q else Q (.bl false) H1) : tAndV ta tb σ H Q := h
theorem z_orV (h : ta σ H fun x H1 => ∃ k, x = .bl k ∧ if k = true then Q (.bl true) H1 else tb σ H1 Q) : tOrV ta tb σ H Q := h
theorem z_notV (h : ta σ H fun x H1 => ∃ k, x = .bl k ∧ Q (.bl (!k)) H1) : tNotV ta σ H Q := h
theorem z_ifE (h : tt σ H fun k H1 => if k = true then ta σ H1 Q else tb σ H1 Q) : tIf tt ta tb σ H Q := h
theorem z_chain {g g' : R2} {tc : TE} (h : ta σ H fun x H1 => tb σ H1 fun y H2 => g x y H2 fun z H3 => ∃ k, z = .bl k ∧ (if k = true then tc σ H3 fun w' H4 => g' y w' H4 Q else Q (.bl false) H3)) : tChain g g' ta tb tc σ H Q := h
theorem z_nil {R : List V → Hp → Prop} (q : R [] H) : tNil σ H R := q
theorem z_cons {tr : TA} {R : List V → Hp → Prop} (h : ta σ H fun x H1 => tr σ H1 fun xs H2 => R (x :: xs) H2) : tCons ta tr σ H R := h
theorem z_tup {tl : TA} (h : tl σ H (NewT Q)) : tTup tl σ H Q := h
theorem z_lst {tl : TA} (h : tl σ H (NewL Q)) : tLst tl σ H Q := h
theorem z_newT {xs : List V} (hl : xs.length ≤ 1000) (q : ∀ p H', H p = none → Same H H' → H' p = some (.tup xs) → Q (.ref p) H') : NewT Q xs H := ⟨sz hl, fun p hp => q p _ hp (same_upd hp) upd_same⟩
theorem z_newL {xs : List V} (hl : xs.length ≤ 1000) (q : ∀ p H', H p = none → Same H H' → H' p = some (.lst xs) → Q (.ref p) H') : NewL Q xs H := ⟨sz hl, fun p hp => q p _ hp (same_upd hp) upd_same⟩
theorem z_cb {g : List V → Hp → VK → Prop} {tl : TA} (h : tl σ H fun vs H1 => g vs H1 Q) : tCB g tl σ H Q := h
theorem z_call {sp : Sp} {E : XK} {tl : TA} (h : tl σ H fun vs H1 => sp vs H1 Q E) : tCall sp [] E tl σ H Q := by
  unfold tCall
  simpa only [List.append_nil] using h
theorem z_callS {sp : Sp} {E : L2.St → XK} {tl : TA} (h : tl σ H fun vs H1 => sp vs H1 Q (E σ)) : tCallS sp E tl σ H Q := h
theorem z_ixL {p : Addr} {xs : List V} (h : SqL K H p xs) (ha : atI xs i = some v) (q : Q v H) : rIxL K (.ref p) (.int i) H Q := ⟨p, xs, i, v, rfl, rfl, h, ha, q⟩
theorem z_ixT {p : Addr} {xs : List V} (h : SqT K H p xs) (ha : atI xs i = some v) (q : Q v H) : rIxT K (.ref p) (.int i) H Q := ⟨p, xs, i, v, rfl, rfl, h, ha, q⟩
theorem z_setL {p : Addr} {xs : List V} {k : Nat} {R : Hp → Prop} (h : H p = some (.lst xs)) (hk : ixN xs.length i = some k) (q : R (upd H p (.lst (xs.set k v)))) : rSetL (.ref p) (.int i) v H R := ⟨p, xs, i, k, rfl, rfl, h, hk, q⟩
theorem z_if {p : Prop} [Decidable p] {A B : Prop} (h1 : p → A) (h2 : ¬ p → B) : if decide p = true then A else B := by
  by_cases h : p
  · rw [if_pos (decide_eq_true h)]
    exact h1 h
  · rw [if_neg (by simpa using h)]
    exact h2 h
theorem z_ifB {k : Bool} {A B : Prop} (h1 : k = true → A) (h2 : k = false → B) : if k = true then A else B := by
  cases k with
  | true => exact h1 rfl
  | false => exact h2 rfl
/-- and, or, not of a test whose answer is known, the heap as it was -/
theorem z_andK {k k' : Bool} (h : k = true → ∀ R : Bool → Hp → Prop, R k' H → tu σ H R) (q : QB (k && k') H) : if k = true then tu σ H QB else QB false H := by
  cases k with
  | true => exact h rfl QB q
  | false => exact q
theorem z_orK {k k' : Bool} (h : k = false → ∀ R : Bool → Hp → Prop, R k' H → tu σ H R) (q : QB (k || k') H) : if k = true then QB true H else tu σ H QB := by
  cases k with
  | true => exact q
  | false => exact h rfl QB q
theorem z_andKV {k k' : Bool} (h : k = true → ∀ R : VK, R (.bl k') H → tb σ H R) (q : Q (.bl (k && k')) H) : if k = true then tb σ H Q else Q (.bl false) H := by
  cases k with
  | true => exact h rfl Q q
  | false => exact q
theorem z_orKV {k k' : Bool} (h : k = false → ∀ R : VK, R (.bl k') H → tb σ H R) (q : Q (.bl (k || k')) H) : if k = true then Q (.bl true) H else tb σ H Q := by
  cases k with
  | true => exact q
  | false => exact h rfl Q q
/-- the second comparison of a chain -/
theorem z_chK {k k' : Bool} {tc : TE} {g' : R2} (h : k = true → ∀ R : VK, R (.bl k') H → tc σ H fun w' H4 => g' y w' H4 R) (q : Q (.bl (k && k')) H) :
    if k = true then tc σ H fun w' H4 => g' y w' H4 Q else Q (.bl false) H := by
  cases k with
  | true => exact h rfl Q q
  | false => exact q
theorem z_ty {x : V} {t : String} {T : String} {k : Bool} {H : Hp} {Q : VK} (h : TyX K H x (.type t)) (e : kitB t T = some k) (q : Q (.bl k) H) : rIsi K [x, .ty T] H Q := ⟨x, .ty T, .type t, .type T, k, rfl, .ty T, h, kit_ty e, q⟩
end
end Z
namespace Z
open PySem PySem.Spec PyProof.Rows L2
theorem pe_powc {X : Cx} {a b v : Int} {j1 j2 : Nat} {p1 p2 pos : Pos} (h0 : CPow a b) (hv : a ^ b.toNat = v) : PE X (.BinOp (.Constant (.int a) j1 p1) .Pow (.Constant (.int b) j2 p2) pos) (tC (.int v)) := by
  subst hv
  exact ⟨fun pins s σ H Q I h => (pe_op op_pow pe_int pe_int).run pins s σ H Q I ⟨a, b, rfl, rfl, h0, h⟩⟩
def rInt1 : List V → Hp → VK → Prop := fun xs H Q => (∃ i, xs = [.int i] ∧ Q (.int i) H) ∨ ∃ k, xs = [.bl k] ∧ Q (.int (if k then 1 else 0)) H
def rAbs : List V → Hp → VK → Prop := fun xs H Q => ∃ i, xs = [.int i] ∧ Q (.int (if i < 0 then -i else i)) H
def rLen (K : PySem.W.Frag) : List V → Hp → VK → Prop := fun xs H Q => ∃ p ys, xs = [.ref p] ∧ (SqL K H p ys ∨ SqT K H p ys) ∧ Q (.int ys.length) H
theorem c_int {X : Cx} : CallR X (.type "int") rInt1 := call_int1
theorem c_abs {X : Cx} : CallR X (.builtin "abs") rAbs := call_abs
theorem c_len {X : Cx} : CallR X (.builtin "len") (rLen X.K) := call_len_seq
section
variable {H : Hp} {Q : VK} {i j : Int} {v : V} {R : Prop}
theorem z_int1 (q : Q (.int i) H) : rInt1 [.int i] H Q := .inl ⟨i, rfl, q⟩
theorem z_int1b {k : Bool} (q : Q (.int (if k then 1 else 0)) H) : rInt1 [.bl k] H Q := .inr ⟨k, rfl, q⟩
theorem z_abs (q : Q (.int (if i < 0 then -i else i)) H) : rAbs [.int i] H Q := ⟨i, rfl, q⟩
theorem z_gcd (q : Q (.int ((Nat.gcd i.natAbs j.natAbs : Nat) : Int)) H) : rGcd [.int i, .int j] H Q := ⟨i, j, rfl, q⟩
theorem z_lenL {K : PySem.W.Frag} {p : Addr} {xs : List V} (h : SqL K H p xs) (q : Q (.int (xs.length : Int)) H) : rLen K [.ref p] H Q := ⟨p, xs, rfl, .inl h, q⟩
theorem z_lenT {K : PySem.W.Frag} {p : Addr} {xs : List V} (h : SqT K H p xs) (q : Q (.int (xs.length : Int)) H) : rLen K [.ref p] H Q := ⟨p, xs, rfl, .inr h, q⟩
theorem z_isII {K : PySem.W.Frag} (q : Q (.bl true) H) : rIsi K [.int i, .ty "int"] H Q := z_ty (.base (.int i)) (by decide +kernel) q
theorem z_isIB {K : PySem.W.Frag} (q : Q (.bl false) H) : rIsi K [.int i, .ty "bool"] H Q := z_ty (.base (.int i)) (by decide +kernel) q
theorem z_isBB {K : PySem.W.Frag} {k : Bool} (q : Q (.bl true) H) : rIsi K [.bl k, .ty "bool"] H Q := z_ty (.base (.bl k)) (by decide +kernel) q
theorem z_isTT {K : PySem.W.Frag} {p : Addr} {xs : List V} (h : H p = some (.tup xs)) (q : Q (.bl true) H) : rIsi K [.ref p, .ty "tuple"] H Q := z_ty (.base (.tup h)) (by decide +kernel) q
theorem z_isLL {K : PySem.W.Frag} {p : Addr} {xs : List V} (h : H p = some (.lst xs)) (q : Q (.bl true) H) : rIsi K [.ref p, .ty "list"] H Q := z_ty (.base (.lst h)) (by decide +kernel) q
theorem z_new {xs : List V} {F : Addr → Prop} (h : xs.length ≤ 1000) (q : ∀ p, H p = none → F p) : xs.length ≤ sizeLine ∧ ∀ p, H p = none → F p := ⟨sz h, q⟩
end
end Z
namespace Z
open PySem PySem.Spec PyProof.Rows L2
section
variable {σ : L2.St} {H : Hp} {n : L2.St → Hp → Prop} {r : VK} {b c : L2.St → Hp → Prop} {tb : TS} {K : PySem.W.Frag}
/-- for k in range(m) -/
theorem z_forR1 {ta : TA} {k : Nat} (m : Nat) (hm : m < 2 ^ 62) (ha : ∀ R : List V → Hp → Prop, R [.int (m : Int)] H → ta σ H R) (Pv : Nat → L2.St → Hp → Prop) (h0 : Pv 0 σ H)
    (hs : ∀ i σ H, i < m → Pv i σ H → tb ⟨Pv (i + 1), r, n, Pv (i + 1)⟩ (σ.set k (some (.int (i : Int)))) H) (hd : ∀ σ H, Pv m σ H → n σ H) : tFor (iRng1 ta) (gName k) tb ⟨n, r, b, c⟩ σ H := by
  refine ha _ ⟨(m : Int), rfl, by omega, by omega, ?_⟩
  refine for_range (lo := 0) (n := (m : Int).toNat) Pv h0 (fun i σ' H' hi p => ?_) (fun σ' H' p => hd σ' H' (by simpa using p))
  have e : (0 : Int) + (i : Int) = (i : Int) := Int.zero_add _
  show tb _ (σ'.set k (some (.int ((0 : Int) + (i : Int))))) H'
  rw [e]
  exact hs i σ' H' (by simpa using hi) p
/-- for k in range(lo, hi) -/
theorem z_forR2 {ta : TA} {k : Nat} (lo : Int) (m : Nat) (hl : -(2 ^ 61) ≤ lo ∧ lo < 2 ^ 61) (hm : m < 2 ^ 61) (ha : ∀ R : List V → Hp → Prop, R [.int lo, .int (lo + (m : Int))] H → ta σ H R) (Pv : Nat → L2.St → Hp → Prop) (h0 : Pv 0 σ H)
    (hs : ∀ i σ H, i < m → Pv i σ H → tb ⟨Pv (i + 1), r, n, Pv (i + 1)⟩ (σ.set k (some (.int (lo + (i : Int))))) H) (hd : ∀ σ H, Pv m σ H → n σ H) : tFor (iRng2 ta) (gName k) tb ⟨n, r, b, c⟩ σ H := by
  refine ha _ ⟨lo, lo + (m : Int), rfl, by omega, ?_⟩
  have en : (lo + (m : Int) - lo).toNat = m := by omega
  rw [en]
  exact for_range (lo := lo) (n := m) Pv h0 hs hd
/-- for x in a list, in a tuple -/
theorem z_forL {tl : TE} {g : TG} {a : Addr} {xs : List V} (ha : ∀ R : VK, R (.ref a) H → tl σ H R) (hx : SqL K H a xs) (Pv : Nat → L2.St → Hp → Prop) (h0 : Pv 0 σ H) (hl : ∀ i σ H, i ≤ xs.length → Pv i σ H → SqL K H a xs)
    (hs : ∀ i x σ H, xs[i]? = some x → Pv i σ H → g x σ H fun σ2 H2 => tb ⟨Pv (i + 1), r, n, Pv (i + 1)⟩ σ2 H2) (hd : ∀ σ H, Pv xs.length σ H → n σ H) : tFor (iList K tl) g tb ⟨n, r, b, c⟩ σ H :=
  ha _ ⟨a, rfl, ⟨xs, hx⟩, for_list Pv h0 hl hs hd⟩
theorem z_forT {tl : TE} {g : TG} {a : Addr} {xs : List V} (ha : ∀ R : VK, R (.ref a) H → tl σ H R) (hx : SqT K H a xs) (Pv : Nat → L2.St → Hp → Prop) (h0 : Pv 0 σ H) (hl : ∀ i σ H, i ≤ xs.length → Pv i σ H → SqT K H a xs)
    (hs : ∀ i x σ H, xs[i]? = some x → Pv i σ H → g x σ H fun σ2 H2 => tb ⟨Pv (i + 1), r, n, Pv (i + 1)⟩ σ2 H2) (hd : ∀ σ H, Pv xs.length σ H → n σ H) : tFor (iTup K tl) g tb ⟨n, r, b, c⟩ σ H :=
  ha _ ⟨a, rfl, ⟨xs, hx⟩, for_tup Pv h0 hl hs hd⟩
theorem z_gName {k : Nat} {v : V} {R : L2.St → Hp → Prop} (q : R (σ.set k (some v)) H) : gName k v σ H R := q
end
end Z
namespace Z
section
variable {A B : Prop}
theorem z_ifT (q : A) : if true = true then A else B := by
  rw [if_pos rfl]
  exact q
theorem z_ifF (q : B) : if false = true then A else B := by
  rw [if_neg Bool.false_ne_true]
  exact q
theorem z_ifNF (q : A) : if (!false) = true then A else B := z_ifT q
theorem z_ifNT (q : B) : if (!true) = true then A else B := z_ifF q
theorem z_ifN {p : Prop} [Decidable p] (h1 : ¬ p → A) (h2 : p → B) : if (!decide p) = true then A else B := by
  by_cases h : p
  · rw [if_neg (by simpa using h)]
    exact h2 h
  · rw [if_pos (by simpa using h)]
    exact h1 h
end
end Z
namespace Z
theorem z_ifYes {A B : Prop} {k : Bool} (h : k = true) (q : A) : if k = true then A else B := by
  rw [if_pos h]
  exact q
theorem z_ifNo {A B : Prop} {k : Bool} (h : k = false) (q : B) : if k = true then A else B := by
  rw [if_neg (by rw [h]; exact Bool.false_ne_true)]
  exact q
end Z
namespace Z
open PySem PySem.Spec PyProof.Rows L2
theorem z_exc {K : PySem.W.Frag} {cv cls : Value} {i : Nat} {ts : Addr → Value → Option Addr → TS} {Wout : WX} {n : L2.St → Hp → Prop} {r : VK} {b c : L2.St → Hp → Prop} {d : Option Addr} {σ : L2.St} {H : Hp} (e : PySem.W.exmOne K cls cv = some true)
    (h : ∀ a, H a = none → ts a cls d ⟨fun σ' H' => n (σ'.set i none) H', r, fun σ' H' => b (σ'.set i none) H', fun σ' H' => c (σ'.set i none) H'⟩ (σ.set i (some (.ref a))) H) : WE (wAs K cv i ts Wout ⟨n, r, b, c⟩) σ cls d H :=
  ⟨true, e, fun _ a ha => h a ha, fun z => Bool.noConfusion z⟩
theorem z_excO {K : PySem.W.Frag} {cv cls : Value} {ts : Addr → Value → Option Addr → TS} {Wout : WX} {D : Ends} {d : Option Addr} {σ : L2.St} {H : Hp} (e : PySem.W.exmOne K cls cv = some true)
    (h : ∀ a, H a = none → ts a cls d D σ H) : WE (wOnly K cv ts Wout D) σ cls d H :=
  ⟨true, e, fun _ a ha => h a ha, fun z => Bool.noConfusion z⟩
theorem z_isEr {K : PySem.W.Frag} {a C D : Addr} {k : Bool} {H : Hp} {Q : VK} (x : ExcC K D) (e : PySem.W.kitOne K (.ref D) (.ref C) = some k) (q : Q (.bl k) H) : rIsEx K (.ref D) none a [.ref a, .ref C] H Q :=
  ⟨D, rfl, rfl, x, .ref C, .ref C, k, rfl, fun u h => h, e, q⟩
theorem z_isEt {K : PySem.W.Frag} {a D : Addr} {t : String} {k : Bool} {H : Hp} {Q : VK} (x : ExcC K D) (e : PySem.W.kitOne K (.ref D) (.type t) = some k) (q : Q (.bl k) H) : rIsEx K (.ref D) none a [.ref a, .ty t] H Q :=
  ⟨D, rfl, rfl, x, .ty t, .type t, k, rfl, fun u h => h, e, q⟩
/-- two lists, tuples of flat things compared -/
theorem z_eqD {K : PySem.W.Frag} {x y : V} {d e : PyData} {H : Hp} {Q : VK} (h1 : Dp K H x d) (h2 : Dp K H y e) (s1 : SeqAt.shaped d = true) (s2 : SeqAt.shaped e = true) (q : Q (.bl (PyData.eqv d e)) H) : rEqD K x y H Q := ⟨d, e, h1, h2, s1, s2, q⟩
end Z
namespace Z
open PySem PySem.Spec PyProof.Rows L2
theorem z_eqSame {K : PySem.W.Frag} {x y : V} {d : PyData} {H : Hp} {Q : VK} (h1 : Dp K H x d) (h2 : Dp K H y d) (s : SeqAt.shaped d = true) (q : Q (.bl true) H) : rEqD K x y H Q :=
  ⟨d, d, h1, h2, s, s, by rw [SeqAt.eqv_refl d (SeqAt.canLay_of_shaped s)]; exact q⟩
theorem dpT2 {K : PySem.W.Frag} {H : Hp} {p : Addr} {n d : Int} (h : H p = some (.tup [.int n, .int d])) : Dp K H (.ref p) (.tuple [.int n, .int d]) := .tup (.inl (.inl h)) (.cons (.int n) (.cons (.int d) .nil))
theorem dpB3 {K : PySem.W.Frag} {H : Hp} {p : Addr} {a b c : Bool} (h : H p = some (.lst [.bl a, .bl b, .bl c])) : Dp K H (.ref p) (.list [.bool a, .bool b, .bool c]) := .lst (.inl (.inl h)) (.cons (.bl a) (.cons (.bl b) (.cons (.bl c) .nil)))
end Z
namespace Z
open PySem PySem.Spec PyProof.Rows L2
theorem z_cut {t u : TS} {n : L2.St → Hp → Prop} {r : VK} {b c : L2.St → Hp → Prop} {σ : L2.St} {H : Hp} (Mid : L2.St → Hp → Prop) (h : t ⟨Mid, r, b, c⟩ σ H) (k : ∀ σ' H', Mid σ' H' → u ⟨n, r, b, c⟩ σ' H') : Evl.tCut t u ⟨n, r, b, c⟩ σ H := ⟨Mid, h, k⟩
end Z
namespace Z
open PySem PySem.Spec PyProof.Rows L2
section
variable {σ : L2.St} {H : Hp} {n : L2.St → Hp → Prop} {r : VK} {b c : L2.St → Hp → Prop} {te : TE} {K : PySem.W.Frag} {a : Addr} {xs : List V} {gs : TGs} {m : Nat} {v : V}
theorem z_asgT (h : te σ H fun x H1 => ∃ a xs, x = .ref a ∧ SqT K H1 a xs ∧ xs.length = m ∧ gs xs σ H1 n) : tAsg te (gTup K m gs) ⟨n, r, b, c⟩ σ H := h
theorem z_asgL (h : te σ H fun x H1 => ∃ a xs, x = .ref a ∧ SqL K H1 a xs ∧ xs.length = m ∧ gs xs σ H1 n) : tAsg te (gLst K m gs) ⟨n, r, b, c⟩ σ H := h
theorem z_up (h : SqT K H a xs) (hm : xs.length = m) (q : gs xs σ H n) : ∃ a' xs', V.ref a = .ref a' ∧ SqT K H a' xs' ∧ xs'.length = m ∧ gs xs' σ H n := ⟨a, xs, rfl, h, hm, q⟩
theorem z_upL (h : SqL K H a xs) (hm : xs.length = m) (q : gs xs σ H n) : ∃ a' xs', V.ref a = .ref a' ∧ SqL K H a' xs' ∧ xs'.length = m ∧ gs xs' σ H n := ⟨a, xs, rfl, h, hm, q⟩
theorem z_gT (h : SqT K H a xs) (hm : xs.length = m) (q : gs xs σ H n) : gTup K m gs (.ref a) σ H n := ⟨a, xs, rfl, h, hm, q⟩
theorem z_gcons {t : TG} {u : TGs} {R : L2.St → Hp → Prop} (h : t v σ H fun σ' H' => u xs σ' H' R) : gCons t u (v :: xs) σ H R := ⟨v, xs, rfl, h⟩
theorem z_gnil {R : L2.St → Hp → Prop} (h : R σ H) : gNil [] σ H R := ⟨rfl, h⟩
end
end Z
namespace Z
open PySem PySem.Spec PyProof.Rows L2
section
variable {K : PySem.W.Frag} {Wout : WX} {D : Ends} {c cls : Value} {ts : Addr → Value → Option Addr → TS} {l : List (Value × (Addr → Value → Option Addr → TS))} {σ : L2.St} {H : Hp} {d : Option Addr}
theorem z_many1 (e : PySem.W.exmOne K cls c = some true) (h : ∀ a, H a = none → ts a cls d D σ H) : WE (wMany K Wout D ((c, ts) :: l)) σ cls d H := ⟨true, e, fun _ a ha => h a ha, fun z => Bool.noConfusion z⟩
theorem z_many0 (e : PySem.W.exmOne K cls c = some false) (h : WE (wMany K Wout D l) σ cls d H) : WE (wMany K Wout D ((c, ts) :: l)) σ cls d H := ⟨false, e, fun z => Bool.noConfusion z, fun _ => h⟩
theorem z_eqS {x : Str} {Q : VK} (q : Q (.bl true) H) : rEq (.str x) (.str x) H Q := ⟨rfl, by rw [decide_eq_true rfl]; exact q⟩
end
end Z
/-! ### data: what a value stands for -/
namespace Z
open PySem PySem.Spec PyProof.Rows L2
section
variable {K : PySem.W.Frag} {H H' : Hp} {v : V} {d d1 d2 d3 d4 d5 d6 : PyData}
mutual
theorem dp_mono (s : Same H H') : ∀ {d : PyData} {v : V}, Dp K H v d → Dp K H' v d
  | _, _, .non => .non
  | _, _, .bl b => .bl b
  | _, _, .int i => .int i
  | _, _, .str x => .str x
  | _, _, .lst h a => .lst (s.seq h) (dp_monoA s a)
  | _, _, .tup h a => .tup (seqT s h) (dp_monoA s a)
theorem dp_monoA (s : Same H H') : ∀ {ds : List PyData} {vs : List V}, DpAll K H vs ds → DpAll K H' vs ds
  | _, _, .nil => .nil
  | _, _, .cons h a => .cons (dp_mono s h) (dp_monoA s a)
end
mutual
def tupOnly : PyData → Bool
  | .list _ => false
  | .dict _ => false
  | .tuple ds => tupOnlyA ds
  | .none => true
  | .bool _ => true
  | .int _ => true
  | .str _ => true
def tupOnlyA : List PyData → Bool
  | [] => true
  | d :: ds => tupOnly d && tupOnlyA ds
end
def Kp (p : Addr) (H H' : Hp) : Prop := ∀ b o, b ≠ p → H b = some o → H' b = some o
theorem seqT_kp {p a : Addr} {xs ys : List V} (k : Kp p H H') (hp : H p = some (.lst xs)) (h : SqT K H a ys) : SqT K H' a ys := by
  rcases h with (h | ⟨o, h⟩) | h
  · exact .inl (.inl (k _ _ (ne_of h hp (by intro z; cases z)) h))
  · exact .inl (.inr ⟨o, k _ _ (ne_of h hp (by intro z; cases z)) h⟩)
  · exact .inr h
mutual
theorem dp_kp {p : Addr} {xs : List V} (k : Kp p H H') (hp : H p = some (.lst xs)) : ∀ {d : PyData} {v : V}, tupOnly d = true → Dp K H v d → Dp K H' v d
  | _, _, _, .non => .non
  | _, _, _, .bl b => .bl b
  | _, _, _, .int i => .int i
  | _, _, _, .str x => .str x
  | _, _, t, .lst h a => by simp [tupOnly] at t
  | _, _, t, .tup h a => .tup (seqT_kp k hp h) (dp_kpA k hp (by simpa [tupOnly] using t) a)
theorem dp_kpA {p : Addr} {xs : List V} (k : Kp p H H') (hp : H p = some (.lst xs)) : ∀ {ds : List PyData} {vs : List V}, tupOnlyA ds = true → DpAll K H vs ds → DpAll K H' vs ds
  | _, _, _, .nil => .nil
  | _, _, t, .cons h a => by
    have t' : (tupOnly _ && tupOnlyA _) = true := t
    rw [Bool.and_eq_true] at t'
    exact .cons (dp_kp k hp t'.1 h) (dp_kpA k hp t'.2 a)
end
theorem dp_int {i : Int} (h : Dp K H v (.int i)) : v = .int i := by
  cases h
  rfl
theorem dp_non (h : Dp K H v .none) : v = .non := by
  cases h
  rfl
theorem dp_bool {b : Bool} (h : Dp K H v (.bool b)) : v = .bl b := by
  cases h
  rfl
theorem dp_str {b : Str} (h : Dp K H v (.str b)) : v = .str b := by
  cases h
  rfl
theorem dp_tup {ds : List PyData} (h : Dp K H v (.tuple ds)) : ∃ p vs, v = .ref p ∧ SqT K H p vs ∧ DpAll K H vs ds := by
  cases h with
  | tup h a => exact ⟨_, _, rfl, h, a⟩
theorem dpa_nil {vs : List V} (h : DpAll K H vs []) : vs = [] := by
  cases h
  rfl
theorem dpa_cons {vs : List V} {ds : List PyData} (h : DpAll K H vs (d :: ds)) : ∃ v r, vs = v :: r ∧ Dp K H v d ∧ DpAll K H r ds := by
  cases h with
  | cons a b => exact ⟨_, _, rfl, a, b⟩
theorem dp_t1 (h : Dp K H v (.tuple [d1])) : ∃ p v1, v = .ref p ∧ SqT K H p [v1] ∧ Dp K H v1 d1 := by
  obtain ⟨p, vs, e, hS, a⟩ := dp_tup h
  obtain ⟨v1, _, rfl, h1, a⟩ := dpa_cons a
  obtain rfl := dpa_nil a
  exact ⟨p, v1, e, hS, h1⟩
theorem dp_t2 (h : Dp K H v (.tuple [d1, d2])) : ∃ p v1 v2, v = .ref p ∧ SqT K H p [v1, v2] ∧ Dp K H v1 d1 ∧ Dp K H v2 d2 := by
  obtain ⟨p, vs, e, hS, a⟩ := dp_tup h
  obtain ⟨v1, _, rfl, h1, a⟩ := dpa_cons a
  obtain ⟨v2, _, rfl, h2, a⟩ := dpa_cons a
  obtain rfl := dpa_nil a
  exact ⟨p, v1, v2, e, hS, h1, h2⟩
theorem dp_t3 (h : Dp K H v (.tuple [d1, d2, d3])) : ∃ p v1 v2 v3, v = .ref p ∧ SqT K H p [v1, v2, v3] ∧ Dp K H v1 d1 ∧ Dp K H v2 d2 ∧ Dp K H v3 d3 := by
  obtain ⟨p, vs, e, hS, a⟩ := dp_tup h
  obtain ⟨v1, _, rfl, h1, a⟩ := dpa_cons a
  obtain ⟨v2, _, rfl, h2, a⟩ := dpa_cons a
  obtain ⟨v3, _, rfl, h3, a⟩ := dpa_cons a
  obtain rfl := dpa_nil a
  exact ⟨p, v1, v2, v3, e, hS, h1, h2, h3⟩
theorem dp_t6 (h : Dp K H v (.tuple [d1, d2, d3, d4, d5, d6])) : ∃ p v1 v2 v3 v4 v5 v6, v = .ref p ∧ SqT K H p [v1, v2, v3, v4, v5, v6] ∧ Dp K H v1 d1 ∧ Dp K H v2 d2 ∧ Dp K H v3 d3 ∧ Dp K H v4 d4 ∧ Dp K H v5 d5 ∧ Dp K H v6 d6 := by
  obtain ⟨p, vs, e, hS, a⟩ := dp_tup h
  obtain ⟨v1, _, rfl, h1, a⟩ := dpa_cons a
  obtain ⟨v2, _, rfl, h2, a⟩ := dpa_cons a
  obtain ⟨v3, _, rfl, h3, a⟩ := dpa_cons a
  obtain ⟨v4, _, rfl, h4, a⟩ := dpa_cons a
  obtain ⟨v5, _, rfl, h5, a⟩ := dpa_cons a
  obtain ⟨v6, _, rfl, h6, a⟩ := dpa_cons a
  obtain rfl := dpa_nil a
  exact ⟨p, v1, v2, v3, v4, v5, v6, e, hS, h1, h2, h3, h4, h5, h6⟩
theorem dp_mk {p : Addr} {vs : List V} {ds : List PyData} (h : H p = some (.tup vs)) (a : DpAll K H vs ds) : Dp K H (.ref p) (.tuple ds) := .tup (.inl (.inl h)) a
end
/-! ### numbers -/
def qD (r : Rat) : PyData := .tuple [.int r.num, .int (r.den : Int)]
theorem dp_q {K : PySem.W.Frag} {H : Hp} {v : V} {r : Rat} (h : Dp K H v (qD r)) : ∃ p, v = .ref p ∧ SqT K H p [.int r.num, .int (r.den : Int)] := by
  obtain ⟨p, v1, v2, e, hS, h1, h2⟩ := dp_t2 h
  rw [dp_int h1, dp_int h2] at hS
  exact ⟨p, e, hS⟩
theorem dp_mkq {K : PySem.W.Frag} {H : Hp} {p : Addr} {r : Rat} (h : H p = some (.tup [.int r.num, .int (r.den : Int)])) : Dp K H (.ref p) (qD r) := dp_mk h (.cons (.int _) (.cons (.int _) .nil))
theorem dp_seqq {K : PySem.W.Frag} {H : Hp} {p : Addr} {r : Rat} (h : SqT K H p [.int r.num, .int (r.den : Int)]) : Dp K H (.ref p) (qD r) := .tup h (.cons (.int _) (.cons (.int _) .nil))
/-- numerator and denominator at most so great -/
def Bd (r : Rat) (p q : Nat) : Prop := r.num.natAbs ≤ p ∧ r.den ≤ q
theorem bd_divInt {n d : Int} (h : d ≠ 0) : Bd (Rat.divInt n d) n.natAbs d.natAbs := by
  unfold Bd
  rw [Rat.num_divInt, Rat.den_divInt, if_neg h]
  refine ⟨Nat.le_trans (Int.natAbs_ediv_le_natAbs _ _) ?_, Nat.div_le_self _ _⟩
  rw [Int.natAbs_mul]
  have : d.sign.natAbs ≤ 1 := by
    rcases Int.lt_trichotomy d 0 with z | z | z
    · rw [Int.sign_eq_neg_one_of_neg z]; decide
    · exact absurd z h
    · rw [Int.sign_eq_one_of_pos z]; decide
  calc d.sign.natAbs * n.natAbs ≤ 1 * n.natAbs := Nat.mul_le_mul_right _ this
    _ = n.natAbs := Nat.one_mul _
theorem q_self (r : Rat) : Rat.divInt r.num (r.den : Int) = r := Rat.num_divInt_den r
end Z
namespace Z
open PySem PySem.Spec PyProof.Rows L2
def gd (n d : Int) : Int := ((Nat.gcd n.natAbs d.natAbs : Nat) : Int)
def rn (n d : Int) : Int := (if d < 0 then -n else n) / gd n d
def rd (n d : Int) : Int := (if d < 0 then -d else d) / gd n d
theorem rn_q {n d : Int} (h : d ≠ 0) : rn n d = (Rat.divInt n d).num := by
  rw [Rat.num_divInt]
  unfold rn gd
  have e : d.gcd n = Nat.gcd n.natAbs d.natAbs := Nat.gcd_comm _ _
  rw [e]
  congr 1
  split
  · rename_i z
    rw [Int.sign_eq_neg_one_of_neg z]
    omega
  · rename_i z
    rw [Int.sign_eq_one_of_pos (by omega)]
    omega
theorem rd_q {n d : Int} (h : d ≠ 0) : rd n d = ((Rat.divInt n d).den : Int) := by
  rw [Rat.den_divInt, if_neg h]
  unfold rd gd
  have e : d.gcd n = Nat.gcd n.natAbs d.natAbs := Nat.gcd_comm _ _
  rw [e]
  rw [Int.natCast_ediv]
  congr 1
  split <;> omega
def lim : Int := 1000000000000000000
def fitsQ (r : Rat) : Prop := -lim ≤ r.num ∧ r.num ≤ lim ∧ (r.den : Int) ≤ lim
theorem bd_add {a b : Rat} {p q p' q' : Nat} (h : Bd a p q) (h' : Bd b p' q') : Bd (a + b) (p * q' + p' * q) (q * q') := by
  have ha := a.den_nz
  have hb := b.den_nz
  have e : a + b = Rat.divInt (a.num * b.den + b.num * a.den) ((a.den : Int) * b.den) := by
    rw [← Rat.divInt_add_divInt _ _ (by omega) (by omega), Rat.num_divInt_den, Rat.num_divInt_den]
  rw [e]
  have hd : ((a.den : Int) * b.den) ≠ 0 := Int.mul_ne_zero (by omega) (by omega)
  have k := bd_divInt (n := a.num * b.den + b.num * a.den) hd
  refine ⟨Nat.le_trans k.1 (Nat.le_trans (Int.natAbs_add_le _ _) ?_), Nat.le_trans k.2 ?_⟩
  · rw [Int.natAbs_mul, Int.natAbs_mul]
    exact Nat.add_le_add (Nat.mul_le_mul h.1 h'.2) (Nat.mul_le_mul h'.1 h.2)
  · rw [Int.natAbs_mul]
    exact Nat.mul_le_mul h.2 h'.2
theorem bd_mul {a b : Rat} {p q p' q' : Nat} (h : Bd a p q) (h' : Bd b p' q') : Bd (a * b) (p * p') (q * q') := by
  have ha := a.den_nz
  have hb := b.den_nz
  have e : a * b = Rat.divInt (a.num * b.num) ((a.den : Int) * b.den) := by
    rw [← Rat.divInt_mul_divInt, Rat.num_divInt_den, Rat.num_divInt_den]
  rw [e]
  have hd : ((a.den : Int) * b.den) ≠ 0 := Int.mul_ne_zero (by omega) (by omega)
  have k := bd_divInt (n := a.num * b.num) hd
  refine ⟨Nat.le_trans k.1 ?_, Nat.le_trans k.2 ?_⟩
  · rw [Int.natAbs_mul]
    exact Nat.mul_le_mul h.1 h'.1
  · rw [Int.natAbs_mul]
    exact Nat.mul_le_mul h.2 h'.2
theorem bd_neg {a : Rat} {p q : Nat} (h : Bd a p q) : Bd (-a) p q := by
  unfold Bd
  rw [Rat.neg_num, Rat.neg_den, Int.natAbs_neg]
  exact h
theorem bd_sub {a b : Rat} {p q p' q' : Nat} (h : Bd a p q) (h' : Bd b p' q') : Bd (a - b) (p * q' + p' * q) (q * q') := by
  rw [Rat.sub_eq_add_neg]
  exact bd_add h (bd_neg h')
theorem q_div (a b : Rat) (h : b ≠ 0) : a / b = Rat.divInt (a.num * b.den) ((a.den : Int) * b.num) := by
  rw [Rat.div_def, ← Rat.num_divInt_den b, Rat.inv_divInt]
  conv => lhs; lhs; rw [← Rat.num_divInt_den a]
  rw [Rat.divInt_mul_divInt, Rat.num_divInt_den]
theorem bd_div {a b : Rat} {p q p' q' : Nat} (hb : b ≠ 0) (h : Bd a p q) (h' : Bd b p' q') : Bd (a / b) (p * q') (q * p') := by
  have ha := a.den_nz
  rw [q_div a b hb]
  have hn : b.num ≠ 0 := fun z => hb (Rat.num_eq_zero.mp z)
  have hd : ((a.den : Int) * b.num) ≠ 0 := Int.mul_ne_zero (by omega) hn
  have k := bd_divInt (n := a.num * b.den) hd
  refine ⟨Nat.le_trans k.1 ?_, Nat.le_trans k.2 ?_⟩
  · rw [Int.natAbs_mul]
    exact Nat.mul_le_mul h.1 h'.2
  · rw [Int.natAbs_mul]
    exact Nat.mul_le_mul h.2 h'.1
theorem Bd.le {a : Rat} {p q p' q' : Nat} (h : Bd a p q) (h1 : p ≤ p') (h2 : q ≤ q') : Bd a p' q' := ⟨Nat.le_trans h.1 h1, Nat.le_trans h.2 h2⟩
theorem Bd.fits {a : Rat} {p q : Nat} (h : Bd a p q) (h1 : p ≤ 1000000000000000000) (h2 : q ≤ 1000000000000000000) : fitsQ a := by
  have a1 := h.1
  have a2 := h.2
  unfold fitsQ lim
  omega
theorem q_add (a b : Rat) : a + b = Rat.divInt (a.num * b.den + b.num * a.den) ((a.den : Int) * b.den) := by
  have ha := a.den_nz
  have hb := b.den_nz
  rw [← Rat.divInt_add_divInt _ _ (by omega) (by omega), Rat.num_divInt_den, Rat.num_divInt_den]
theorem q_sub (a b : Rat) : a - b = Rat.divInt (a.num * b.den - b.num * a.den) ((a.den : Int) * b.den) := by
  have ha := a.den_nz
  have hb := b.den_nz
  rw [← Rat.divInt_sub_divInt _ _ (by omega) (by omega), Rat.num_divInt_den, Rat.num_divInt_den]
theorem q_mul (a b : Rat) : a * b = Rat.divInt (a.num * b.num) ((a.den : Int) * b.den) := by
  rw [← Rat.divInt_mul_divInt, Rat.num_divInt_den, Rat.num_divInt_den]
theorem q_dd (a b : Rat) : ((a.den : Int) * b.den) ≠ 0 := by
  have ha := a.den_nz
  have hb := b.den_nz
  exact Int.mul_ne_zero (by omega) (by omega)
end Z
namespace Z
open PySem PySem.Spec PyProof.Rows L2
theorem tyx_T {K : PySem.W.Frag} {H : Hp} {a : Addr} {xs : List V} (h : SqT K H a xs) : TyX K H (.ref a) (.type "tuple") := by
  rcases h with (h | ⟨o, h⟩) | ⟨o, its, n, h, c, _⟩
  · exact .base (.tup h)
  · exact .fTuple h
  · exact .kTuple h c
theorem z_isT {K : PySem.W.Frag} {H : Hp} {Q : VK} {p : Addr} {xs : List V} (h : SqT K H p xs) (q : Q (.bl true) H) : rIsi K [.ref p, .ty "tuple"] H Q := z_ty (tyx_T h) (by decide +kernel) q
end Z
namespace Z
open PySem PySem.Spec PyProof.Rows L2
/-- a tuple of the module's own -/
theorem dpk {K : PySem.W.Frag} {H : Hp} {a : Addr} {od : Option Addr} {its : List Value} {n : Nat} {sl : Array (Option Value)} {vs : List V} {ds : List PyData} (h : K.lookup a = some ⟨.type "tuple", od, .seq its.toArray n, sl⟩)
    (hs : its.length ≤ 1000) (r : Vals vs its) (d : DpAll K H vs ds) : Dp K H (.ref a) (.tuple ds) :=
  .tup (.inr ⟨_, its.toArray, n, h, rfl, rfl, by rw [List.size_toArray]; exact sz hs, by simpa using r⟩) d
/-- a tuple and a tuple -/
theorem z_catT {K : PySem.W.Frag} {H : Hp} {Q : VK} {p q : Addr} {xs ys : List V} (h1 : SqT K H p xs) (h2 : SqT K H q ys) (hx : xs ≠ []) (hl : xs.length + ys.length ≤ 1000) (hy : ys ≠ [])
    (k : ∀ p H', H p = none → Same H H' → H' p = some (.tup (xs ++ ys)) → Q (.ref p) H') : rCatT K (.ref p) (.ref q) H Q := by
  refine ⟨p, q, xs, ys, rfl, rfl, h1, h2, hx, sz hl, fun z => absurd z hy, fun _ a ha => k a _ ha (same_upd ha) upd_same⟩
end Z
namespace Z
open PySem PySem.Spec PyProof.Rows L2
def rTupOf (K : PySem.W.Frag) : List V → Hp → VK → Prop := fun xs H Q => ∃ p ys, xs = [.ref p] ∧ ((SqL K H p ys ∧ ∀ l, H l = none → Q (.ref l) (upd H l (.tup ys))) ∨ (SqT K H p ys ∧ Q (.ref p) H))
def rListOf (K : PySem.W.Frag) : List V → Hp → VK → Prop := fun xs H Q => ∃ p ys, xs = [.ref p] ∧ (SqL K H p ys ∨ SqT K H p ys) ∧ ∀ l, H l = none → Q (.ref l) (upd H l (.lst ys))
theorem c_tupOf {X : Cx} : CallR X (.type "tuple") (rTupOf X.K) := call_tuple_of
theorem c_listOf {X : Cx} : CallR X (.type "list") (rListOf X.K) := call_list_of
section
variable {K : PySem.W.Frag} {H : Hp} {Q : VK} {p : Addr} {xs : List V} {σ : L2.St}
theorem z_tupOf (h : SqL K H p xs) (q : ∀ a H', H a = none → Same H H' → H' a = some (.tup xs) → Q (.ref a) H') : rTupOf K [.ref p] H Q := ⟨p, xs, rfl, .inl ⟨h, fun l hl => q l _ hl (same_upd hl) upd_same⟩⟩
theorem z_tupOfT (h : SqT K H p xs) (q : Q (.ref p) H) : rTupOf K [.ref p] H Q := ⟨p, xs, rfl, .inr ⟨h, q⟩⟩
theorem z_listOf (h : SqL K H p xs) (q : ∀ a H', H a = none → Same H H' → H' a = some (.lst xs) → Q (.ref a) H') : rListOf K [.ref p] H Q := ⟨p, xs, rfl, .inl h, fun l hl => q l _ hl (same_upd hl) upd_same⟩
theorem z_listOfT (h : SqT K H p xs) (q : ∀ a H', H a = none → Same H H' → H' a = some (.lst xs) → Q (.ref a) H') : rListOf K [.ref p] H Q := ⟨p, xs, rfl, .inr h, fun l hl => q l _ hl (same_upd hl) upd_same⟩
theorem z_yes {QB : Bool → Hp → Prop} (q : QB true H) : tYes σ H QB := q
/-- [e for k in range(m)] -/
theorem z_lcR1 {ta : TA} {k : Nat} {te : TE} {vs : List Nat} (m : Nat) (hm : m ≤ 1000) (ha : ∀ R : List V → Hp → Prop, R [.int (m : Int)] H → ta σ H R) (hw : ∀ x, wipe ((wipe σ vs).set k (some x)) vs = wipe σ vs) (Pv : Nat → Addr → List V → Hp → Prop)
    (h0 : ∀ D H', H D = none → Same H H' → H' D = some (.lst []) → Pv 0 D [] H')
    (hs : ∀ i D acc H', i < m → acc.length = i → H' D = some (.lst acc) → Pv i D acc H' → te ((wipe σ vs).set k (some (.int (i : Int)))) H' fun y H4 => H4 D = some (.lst acc) ∧ Pv (i + 1) D (acc ++ [y]) (upd H4 D (.lst (acc ++ [y]))))
    (mono : ∀ σ' H' Q Q', (∀ y H4, Q y H4 → Q' y H4) → te σ' H' Q → te σ' H' Q')
    (hd : ∀ D acc H', acc.length = m → H' D = some (.lst acc) → Pv m D acc H' → Q (.ref D) H') : tLc (iRng1 ta) (gName k) tYes te vs σ H Q := by
  refine ha _ ⟨(m : Int), rfl, by omega, by omega, fun D hD => ?_⟩
  refine lc_range (lo := 0) (n := (m : Int).toNat) (fun i H' => ∃ acc, acc.length = i ∧ H' D = some (.lst acc) ∧ Pv i D acc H') ⟨[], rfl, upd_same, h0 D _ hD (same_upd hD) upd_same⟩ (fun i H' hi ⟨acc, hl, hH, p⟩ => ?_) (fun H' ⟨acc, hl, hH, p⟩ => hd D acc H' (by simpa using hl) hH (by simpa using p))
  have e : (0 : Int) + (i : Int) = (i : Int) := Int.zero_add _
  show wipe ((wipe σ vs).set k (some (.int ((0 : Int) + (i : Int))))) vs = wipe σ vs ∧ _
  refine ⟨hw _, ?_⟩
  refine z_yes ?_
  refine z_ifT ?_
  rw [e]
  have hi' : i < m := by simpa using hi
  exact mono _ _ _ _ (fun y H4 ⟨e1, e2⟩ => ⟨acc, e1, Nat.lt_of_lt_of_le (show acc.length < 1000 by omega) (by decide), acc ++ [y], by simp [hl], upd_same, e2⟩) (hs i D acc H' (by simpa using hi) hl hH p)
end
end Z
namespace Z
open PySem PySem.Spec PyProof.Rows L2
section
variable {K : PySem.W.Frag} {H : Hp} {Q : VK} {p : Addr} {xs : List V} {σ : L2.St} {i : Int} {RO : Option Int → Hp → Prop} {te : TE} {tl th : TO}
theorem z_sl {g : V → Option Int → Option Int → Hp → VK → Prop} (h : te σ H fun x H1 => tl σ H1 fun l H2 => th σ H2 fun u H3 => g x l u H3 Q) : tSl g te tl th σ H Q := h
theorem z_noPart (q : RO none H) : tNoPart σ H RO := q
theorem z_part (h : te σ H fun x H1 => ∃ i, x = .int i ∧ RO (some i) H1) : tPart te σ H RO := h
theorem z_partI (q : RO (some i) H) : ∃ i', V.int i = .int i' ∧ RO (some i') H := ⟨i, rfl, q⟩
theorem z_slL {lo hi : Option Int} {ys : List V} (h : SqL K H p xs) (e : cutV xs lo hi = ys) (q : ∀ a H', H a = none → Same H H' → H' a = some (.lst ys) → Q (.ref a) H') : rSlL K (.ref p) lo hi H Q := by
  subst e
  exact ⟨p, xs, rfl, h, fun a ha => q a _ ha (same_upd ha) upd_same⟩
end
end Z
namespace Z
open PySem PySem.Spec PyProof.Rows L2
theorem z_slT {K : PySem.W.Frag} {H : Hp} {Q : VK} {p : Addr} {xs ys : List V} {lo hi : Option Int} (h : SqT K H p xs) (hn : ¬ (HT.sIx xs.length 0 lo = 0 ∧ HT.sIx xs.length xs.length hi = xs.length)) (e : cutV xs lo hi = ys)
    (q : ∀ a H', H a = none → Same H H' → H' a = some (.tup ys) → Q (.ref a) H') : rSlT K (.ref p) lo hi H Q := by
  subst e
  exact ⟨p, xs, rfl, h, hn, fun a ha => q a _ ha (same_upd ha) upd_same⟩
theorem eqv_q (a b : Rat) : PyData.eqv (qD a) (qD b) = decide (a = b) := by
  show (a.num == b.num && ((a.den : Int) == (b.den : Int) && true)) = decide (a = b)
  by_cases h : a = b
  · subst h
    simp
  · rw [decide_eq_false h]
    by_cases h1 : a.num = b.num
    · have h2 : ¬ (a.den : Int) = b.den := fun z => h (Rat.ext h1 (by omega))
      simp [h2]
    · simp [h1]
theorem shaped_q (a : Rat) : SeqAt.shaped (qD a) = true := rfl
theorem z_eqQ {K : PySem.W.Frag} {x y : V} {a b : Rat} {H : Hp} {Q : VK} (h1 : Dp K H x (qD a)) (h2 : Dp K H y (qD b)) (q : Q (.bl (decide (a = b))) H) : rEqD K x y H Q := ⟨qD a, qD b, h1, h2, shaped_q a, shaped_q b, by rw [eqv_q]; exact q⟩
theorem z_neQ {K : PySem.W.Frag} {x y : V} {a b : Rat} {H : Hp} {Q : VK} (h1 : Dp K H x (qD a)) (h2 : Dp K H y (qD b)) (q : Q (.bl (decide (¬ a = b))) H) : rNeD K x y H Q := ⟨qD a, qD b, h1, h2, shaped_q a, shaped_q b, by
  rw [eqv_q, show (!decide (a = b)) = decide (¬ a = b) by simp]
  exact q⟩
theorem z_neSame {K : PySem.W.Frag} {x y : V} {d : PyData} {H : Hp} {Q : VK} (h1 : Dp K H x d) (h2 : Dp K H y d) (s : SeqAt.shaped d = true) (q : Q (.bl false) H) : rNeD K x y H Q :=
  ⟨d, d, h1, h2, s, s, by rw [SeqAt.eqv_refl d (SeqAt.canLay_of_shaped s)]; exact q⟩
end Z
namespace Z
open PySem PySem.Spec PyProof.Rows L2
def rIsN : R2 := fun x y H Q => y = .non ∧ Q (.bl (decide (x = .non))) H
def rNotN : R2 := fun x y H Q => y = .non ∧ Q (.bl (!decide (x = .non))) H
theorem op_isN1 {X : Cx} : OpR X (compareOp .Is) rIsN := op_isN
theorem op_notN1 {X : Cx} : OpR X (compareOp .IsNot) rNotN := op_notN
section
variable {σ : L2.St} {H : Hp} {n : L2.St → Hp → Prop} {r : VK} {b c : L2.St → Hp → Prop} {tb : TS} {K : PySem.W.Frag} {Q : VK} {p : Addr} {v y : V} {xs : List V}
theorem z_isNN (q : Q (.bl true) H) : rIsN .non .non H Q := ⟨rfl, by simpa using q⟩
theorem z_isNR (q : Q (.bl false) H) : rIsN (.ref p) .non H Q := ⟨rfl, by simpa using q⟩
theorem z_notNN (q : Q (.bl false) H) : rNotN .non .non H Q := ⟨rfl, by simpa using q⟩
theorem z_notNR (q : Q (.bl true) H) : rNotN (.ref p) .non H Q := ⟨rfl, by simpa using q⟩
theorem z_bmL {r : V → List V → Hp → VK → Prop} {to : TE} {t : TA} (ho : ∀ R : VK, R (.ref p) H → to σ H R) (hp : H p = some (.lst xs)) (h : t σ H fun vs H2 => r (.ref p) vs H2 Q) : tBM K "list" r to t σ H Q :=
  ho _ ⟨.inl ⟨rfl, _, .inl (.inl hp)⟩, h⟩
theorem z_append (hp : H p = some (.lst xs)) (hl : xs.length < 1000) (q : Q .non (upd H p (.lst (xs ++ [y])))) : rAppend (.ref p) [y] H Q := ⟨p, xs, y, rfl, rfl, hp, Nat.lt_of_lt_of_le hl (by decide), q⟩
/-- the list that a for goes over, made on the way -/
def ForL (K : PySem.W.Frag) (g : TG) (tb : TS) (n : L2.St → Hp → Prop) (r : VK) (b c : L2.St → Hp → Prop) (σ : L2.St) : VK := fun x H1 => tFor (iList K (tC x)) g tb ⟨n, r, b, c⟩ σ H1
theorem z_forE {tl : TE} {g : TG} (h : tl σ H (ForL K g tb n r b c σ)) : tFor (iList K tl) g tb ⟨n, r, b, c⟩ σ H := h
/-- [e for x in l], where e answers at once -/
theorem z_lcM {tl : TE} {k : Nat} {te : TE} {vs : List Nat} {a : Addr} {xs ws : List V} (hlen : ws.length = xs.length) (hm : xs.length ≤ 1000) (ha : ∀ R : VK, R (.ref a) H → tl σ H R) (hx : H a = some (.lst xs)) (hw : ∀ x, wipe ((wipe σ vs).set k (some x)) vs = wipe σ vs)
    (body : ∀ (i : Nat) (x w : V) (H' : Hp), xs[i]? = some x → ws[i]? = some w → Same H H' → ∀ R : VK, R w H' → te ((wipe σ vs).set k (some x)) H' R)
    (hd : ∀ D H', H D = none → Same H H' → H' D = some (.lst ws) → Q (.ref D) H') : tLc (iList K tl) (gName k) tYes te vs σ H Q := by
  refine ha _ ⟨a, rfl, ⟨xs, .inl (.inl hx)⟩, fun D hD => ?_⟩
  have hDa : a ≠ D := ne_of_none hx hD
  refine lc_list (xs := xs) (fun i H' => Same H H' ∧ H' D = some (.lst (ws.take i)) ∧ H' a = some (.lst xs)) ⟨same_upd hD, upd_same, by rw [upd_ne hDa]; exact hx⟩ (fun i H' _ h => .inl (.inl h.2.2)) (fun i x H' hi ⟨s, hH, h3⟩ => ?_) (fun H' ⟨s, hH, _⟩ => hd D H' hD s (by rw [hH, ← hlen, List.take_length]))
  show wipe ((wipe σ vs).set k (some x)) vs = wipe σ vs ∧ _
  refine ⟨hw _, ?_⟩
  refine z_yes ?_
  refine z_ifT ?_
  have hi' : i < xs.length := by
    rcases Nat.lt_or_ge i xs.length with h | h
    · exact h
    · rw [List.getElem?_eq_none h] at hi
      cases hi
  have hiw : i < ws.length := by omega
  have hw' : ws[i]? = some ws[i] := List.getElem?_eq_getElem hiw
  refine body i x _ H' hi hw' s _ ?_
  refine ⟨_, hH, Nat.lt_of_lt_of_le (show (ws.take i).length < 1000 by rw [List.length_take]; omega) (by decide), fun q x' e => ?_, ?_, ?_⟩
  · have hq : q ≠ D := ne_of_none e hD
    rw [upd_ne hq]
    exact s _ _ e
  · rw [upd_same, List.take_add_one, hw']
    rfl
  · rw [upd_ne hDa]
    exact h3
end
/-! ### numbers over a common denominator -/
def Zb (r : Rat) (N M : Nat) : Prop := ∃ k : Int, r * (N : Rat) = (k : Rat) ∧ k.natAbs ≤ M
theorem zb_add {a b : Rat} {N M M' : Nat} (h : Zb a N M) (h' : Zb b N M') : Zb (a + b) N (M + M') := by
  obtain ⟨k, e, l⟩ := h
  obtain ⟨k', e', l'⟩ := h'
  exact ⟨k + k', by rw [Rat.add_mul, e, e', Rat.intCast_add], by omega⟩
theorem zb_neg {a : Rat} {N M : Nat} (h : Zb a N M) : Zb (-a) N M := by
  obtain ⟨k, e, l⟩ := h
  exact ⟨-k, by rw [Rat.neg_mul, e, Rat.intCast_neg], by omega⟩
theorem zb_sub {a b : Rat} {N M M' : Nat} (h : Zb a N M) (h' : Zb b N M') : Zb (a - b) N (M + M') := by
  rw [Rat.sub_eq_add_neg]
  exact zb_add h (zb_neg h')
theorem zb_mul {a b : Rat} {N N' M M' : Nat} (h : Zb a N M) (h' : Zb b N' M') : Zb (a * b) (N * N') (M * M') := by
  obtain ⟨k, e, l⟩ := h
  obtain ⟨k', e', l'⟩ := h'
  refine ⟨k * k', ?_, by rw [Int.natAbs_mul]; exact Nat.mul_le_mul l l'⟩
  rw [Rat.natCast_mul, Rat.intCast_mul, ← e, ← e']
  grind
theorem zb_up {a : Rat} {N M : Nat} (c : Nat) (h : Zb a N M) : Zb a (N * c) (M * c) := by
  obtain ⟨k, e, l⟩ := h
  refine ⟨k * (c : Int), ?_, by rw [Int.natAbs_mul]; exact Nat.mul_le_mul l (by omega)⟩
  rw [Rat.natCast_mul, Rat.intCast_mul, ← e, Rat.intCast_natCast]
  grind
theorem Zb.le {a : Rat} {N M M' : Nat} (h : Zb a N M) (l : M ≤ M') : Zb a N M' := by
  obtain ⟨k, e, l'⟩ := h
  exact ⟨k, e, Nat.le_trans l' l⟩
theorem Zb.bd {a : Rat} {N M : Nat} (h : Zb a N M) (h0 : N ≠ 0) : Bd a M N := by
  obtain ⟨k, e, l⟩ := h
  have hN : (N : Rat) ≠ 0 := fun z => h0 (by exact_mod_cast z)
  have e2 : a = Rat.divInt k (N : Int) := by
    rw [Rat.divInt_eq_div, ← e, Rat.intCast_natCast]
    grind
  rw [e2]
  exact (bd_divInt (by omega)).le l (by omega)
theorem zb_divInt {n d : Int} {N M c : Nat} (hd : d ≠ 0) (hN : (N : Int) = d * (c : Int)) (hl : n.natAbs * c ≤ M) : Zb (Rat.divInt n d) N M := by
  refine ⟨n * (c : Int), ?_, by rw [Int.natAbs_mul]; exact hl⟩
  have hd' : (d : Rat) ≠ 0 := fun z => hd (by exact_mod_cast z)
  have e : (N : Rat) = (d : Rat) * (c : Rat) := by
    rw [← Rat.intCast_natCast N, hN, Rat.intCast_mul, Rat.intCast_natCast]
  rw [Rat.divInt_eq_div, e, Rat.intCast_mul, Rat.intCast_natCast]
  grind
theorem zb_of {r : Rat} {p q N M : Nat} (h : Bd r p q) (hN : ∀ d, d ≤ q → d ≠ 0 → d ∣ N) (hl : p * N ≤ M) : Zb r N M := by
  obtain ⟨c, hc⟩ := hN r.den h.2 r.den_nz
  have hd := r.den_nz
  have e := zb_divInt (n := r.num) (d := (r.den : Int)) (N := N) (M := M) (c := c) (by omega) (by exact_mod_cast hc) (Nat.le_trans (Nat.mul_le_mul h.1 (show c ≤ N by rw [hc]; exact Nat.le_mul_of_pos_left _ (by omega))) hl)
  rwa [Rat.num_divInt_den] at e
end Z

namespace Z
open PySem PySem.Spec PyProof.Rows L2
def RevQ (K : PySem.W.Frag) (Q : VK) : VK := fun x H1 => ∃ a xs, x = .ref a ∧ SqL K H1 a xs ∧ ∀ p, H1 p = none → Q (.ref p) (upd H1 p (.lst xs.reverse))
section
variable {K : PySem.W.Frag} {H : Hp} {Q : VK} {p q : Addr} {xs ys : List V} {y : V} {σ : L2.St}
theorem z_revL {te : TE} (h : te σ H (RevQ K Q)) : tRevL K te σ H Q := h
theorem z_revE (h : SqL K H p xs) (k : ∀ a H', H a = none → Same H H' → H' a = some (.lst xs.reverse) → Q (.ref a) H') : RevQ K Q (.ref p) H :=
  ⟨p, xs, rfl, h, fun l hl => k l _ hl (same_upd hl) upd_same⟩
theorem z_pop (hp : H p = some (.lst (xs ++ [y]))) (k : Q y (upd H p (.lst xs))) : rPop (.ref p) [] H Q :=
  ⟨p, xs ++ [y], y, rfl, rfl, hp, by simp, by simpa using k⟩
theorem z_cat (h1 : H p = some (.lst xs)) (h2 : H q = some (.lst ys)) (hl : xs.length + ys.length ≤ 1000) (k : ∀ a H', H a = none → Same H H' → H' a = some (.lst (xs ++ ys)) → Q (.ref a) H') : rCat (.ref p) (.ref q) H Q :=
  ⟨p, q, xs, ys, rfl, rfl, h1, h2, sz hl, fun a ha => k a _ ha (same_upd ha) upd_same⟩
theorem z_extend (h1 : H p = some (.lst xs)) (h2 : H q = some (.lst ys)) (hl : xs.length + ys.length ≤ 1000) (k : Q .non (upd H p (.lst (xs ++ ys)))) : rExtend (.ref p) [.ref q] H Q :=
  ⟨p, q, xs, ys, rfl, rfl, h1, h2, sz hl, k⟩
theorem z_bm0L {r : V → List V → Hp → VK → Prop} {to : TE} (ho : ∀ R : VK, R (.ref p) H → to σ H R) (hp : H p = some (.lst xs)) (h : r (.ref p) [] H Q) : tBM0 K "list" r to σ H Q :=
  ho _ ⟨.inl ⟨rfl, _, .inl (.inl hp)⟩, h⟩
end
end Z

namespace G
open PySem PySem.Spec PyProof.Rows L2 Z
def topS (i : Nat) : Stmt := PySem.Challenge.pw_fontwinding_k26_lines_and_area.main.body.getD i (.Pass ⟨0, 0, 0, 0⟩)
abbrev s_lines : Stmt := topS 1
abbrev s_double_area : Stmt := topS 2
abbrev s__law_cell : Stmt := topS 4
abbrev s__law_stream : Stmt := topS 5
abbrev s__law_next : Stmt := topS 6
abbrev s__law_coordinate : Stmt := topS 7
abbrev s__law_outline : Stmt := topS 8
abbrev s__law_near : Stmt := topS 9
abbrev s__law_is_integer : Stmt := topS 10
abbrev s_law : Stmt := topS 11
theorem sc_double_area : FnScope ["outline", "total", "p", "q"] ["outline"] (defScope s_double_area) := ⟨rfl, rfl, rfl, by decide +kernel, rfl, by decide +kernel, by decide +kernel⟩
theorem sc__law_cell : FnScope ["script", "k"] ["script", "k"] (defScope s__law_cell) := ⟨rfl, rfl, rfl, by decide +kernel, rfl, by decide +kernel, by decide +kernel⟩
theorem sc__law_stream : FnScope ["cell"] ["cell"] (defScope s__law_stream) := ⟨rfl, rfl, rfl, by decide +kernel, rfl, by decide +kernel, by decide +kernel⟩
theorem sc__law_next : FnScope ["stream", "size", "drawn", "mixed"] ["stream", "size"] (defScope s__law_next) := ⟨rfl, rfl, rfl, by decide +kernel, rfl, by decide +kernel, by decide +kernel⟩
theorem sc__law_coordinate : FnScope ["stream", "mode"] ["stream", "mode"] (defScope s__law_coordinate) := ⟨rfl, rfl, rfl, by decide +kernel, rfl, by decide +kernel, by decide +kernel⟩
theorem sc__law_outline : FnScope ["stream", "count", "modes", "mode", "points", "k", "x", "y", "same"] ["stream", "count", "modes"] (defScope s__law_outline) := ⟨rfl, rfl, rfl, by decide +kernel, rfl, by decide +kernel, by decide +kernel⟩
theorem sc__law_near : FnScope ["stream", "outline", "a", "b", "kind"] ["stream", "outline"] (defScope s__law_near) := ⟨rfl, rfl, rfl, by decide +kernel, rfl, by decide +kernel, by decide +kernel⟩
theorem sc__law_is_integer : FnScope ["actual"] ["actual"] (defScope s__law_is_integer) := ⟨rfl, rfl, rfl, by decide +kernel, rfl, by decide +kernel, by decide +kernel⟩
theorem sc_law : FnScope ["script", "stream", "count", "outline", "o", "expected", "k", "p", "q", "actual", "line"] ["script"] (defScope s_law) := ⟨rfl, rfl, rfl, by decide +kernel, rfl, by decide +kernel, by decide +kernel⟩
structure Txt (K : PySem.W.Frag) (mg : Str → Option Value) (A : Nat → Addr) (D : Nat → FuncData) : Prop where
  F_lines : Fun K "lines" "lines" s_lines (A 0) (D 0)
  m_lines : mg "lines" = some (.ref (A 0))
  b_lines : Binds K (D 0) ["outline"] []
  F_double_area : Fun K "double_area" "double_area" s_double_area (A 1) (D 1)
  m_double_area : mg "double_area" = some (.ref (A 1))
  b_double_area : Binds K (D 1) ["outline"] []
  F__law_cell : Fun K "_law_cell" "_law_cell" s__law_cell (A 2) (D 2)
  m__law_cell : mg "_law_cell" = some (.ref (A 2))
  b__law_cell : Binds K (D 2) ["script", "k"] []
  F__law_stream : Fun K "_law_stream" "_law_stream" s__law_stream (A 3) (D 3)
  m__law_stream : mg "_law_stream" = some (.ref (A 3))
  b__law_stream : Binds K (D 3) ["cell"] []
  F__law_next : Fun K "_law_next" "_law_next" s__law_next (A 4) (D 4)
  m__law_next : mg "_law_next" = some (.ref (A 4))
  b__law_next : Binds K (D 4) ["stream", "size"] []
  F__law_coordinate : Fun K "_law_coordinate" "_law_coordinate" s__law_coordinate (A 5) (D 5)
  m__law_coordinate : mg "_law_coordinate" = some (.ref (A 5))
  b__law_coordinate : Binds K (D 5) ["stream", "mode"] []
  F__law_outline : Fun K "_law_outline" "_law_outline" s__law_outline (A 6) (D 6)
  m__law_outline : mg "_law_outline" = some (.ref (A 6))
  b__law_outline : Binds K (D 6) ["stream", "count", "modes"] []
  F__law_near : Fun K "_law_near" "_law_near" s__law_near (A 7) (D 7)
  m__law_near : mg "_law_near" = some (.ref (A 7))
  b__law_near : Binds K (D 7) ["stream", "outline"] []
  F__law_is_integer : Fun K "_law_is_integer" "_law_is_integer" s__law_is_integer (A 8) (D 8)
  m__law_is_integer : mg "_law_is_integer" = some (.ref (A 8))
  b__law_is_integer : Binds K (D 8) ["actual"] []
  F_law : Fun K "law" "law" s_law (A 9) (D 9)
  m_law : mg "law" = some (.ref (A 9))
  b_law : Binds K (D 9) ["script"] []
  z_bool : mg "bool" = none
  z_int : mg "int" = none
  z_isinstance : mg "isinstance" = none
  z_len : mg "len" = none
  z_list : mg "list" = none
  z_range : mg "range" = none
  z_tuple : mg "tuple" = none
  z_zip : mg "zip" = none
theorem nd_lines : (["outline", "a", "b"] : List Str).Nodup := by decide +kernel
theorem gt_lines {P : Program} {w : World} {K : PySem.W.Frag} {mg : Str → Option Value} {base : Heap} {A : Nat → Addr} {D : Nat → FuncData} (T : Txt K mg A D) :
    Gl.GT P w K mg base "lines" "lines" s_lines (A 0) (D 0) ["outline", "a", "b"] "outline" (Gl.bTg (defBody s_lines)) (Gl.bIt (defBody s_lines)) (Gl.bE (defBody s_lines)) (Gl.bYp (defBody s_lines)) (Gl.bYs (defBody s_lines)) (Gl.bFp (defBody s_lines))
      (gTup K 2 (gCons (gName 1) (gCons (gName 2) gNil))) (tTup (tCons (tVar 1) (tCons (tVar 2) tNil))) (iZip K (tCons (tVar 0) (tCons (tSl (rSlL K) (tVar 0) (tPart (tC (.int 1))) tNoPart) tNil))) where
  D := ⟨T.F_lines, rfl, rfl, rfl, nd_lines, rfl, rfl, by decide +kernel⟩
  body := rfl
  hs := fun _ _ => rfl
  int := fun _ _ => rfl
  hg := fun A' L cd outer s0 H0 => pg_tup (by rfl) (pgs_cons (pg_name (i := 1) nd_lines rfl (.inl rfl)) (pgs_cons (pg_name (i := 2) nd_lines rfl (.inl rfl)) pgs_nil))
  he := fun A' L cd outer s0 H0 => pe_tup (pa_cons (pv 1) (pa_cons (pv 2) pa_nil))
  hi := fun A' L cd outer s0 H0 => pi_zip (by rfl) T.z_zip (pa_cons (pv 0) (pa_cons (pe_slice sl_list (pv 0) (po_some pe_int) po_none) pa_nil))
  r1 := Gl.zip_r1
  r2 := Gl.zip_r2
local macro_rules | `(tactic| walk_at "z1") => `(tactic| first
  | with_reducible refine z_seq ?_
  | with_reducible refine z_asg ?_
  | with_reducible refine z_asgS ?_
  | with_reducible refine z_ifs ?_
  | ((with_reducible refine' z_var ?h ?_); case h => with_unfolding_all exact rfl)
  | with_reducible refine z_c ?_
  | with_reducible refine z_op ?_
  | with_reducible refine z_un ?_
  | with_reducible refine z_I0 ?_
  | ((with_reducible refine z_I ?h ?_); case h => first | (exact Or.inr ⟨by decide, by decide⟩) | (exact Or.inl ⟨by decide, by decide⟩) | (show (0 : Int) < _; first | assumption | omega))
  | with_reducible refine z_U ?_
  | with_reducible refine z_eqI ?_
  | with_reducible refine z_neI ?_
  | with_reducible refine z_test ?_
  | with_reducible refine z_tB ?_
  | with_reducible refine z_bl ?_
  | with_reducible refine z_notT ?_
  | with_reducible refine z_andT ?_
  | with_reducible refine z_orT ?_
  | with_reducible refine z_andV ?_
  | with_reducible refine z_orV ?_
  | with_reducible refine z_notV ?_
  | with_reducible refine z_ifE ?_
  | with_reducible refine z_ifT ?_
  | with_reducible refine z_ifF ?_
  | with_reducible refine z_ifNT ?_
  | with_reducible refine z_ifNF ?_
  | with_reducible refine z_chain ?_
  | with_reducible refine z_nil ?_
  | with_reducible refine z_cons ?_
  | with_reducible refine z_tup ?_
  | with_reducible refine z_lst ?_
  | with_reducible refine z_cb ?_
  | with_reducible refine z_call ?_
  | with_reducible refine z_callS ?_
  | with_reducible refine z_int1 ?_
  | with_reducible refine z_int1b ?_
  | with_reducible refine z_abs ?_
  | with_reducible refine z_gcd ?_
  | with_reducible refine z_ret ?_
  | with_reducible refine z_retN ?_
  | with_reducible refine z_drop ?_
  | with_reducible refine z_next ?_
  | with_reducible refine z_brk ?_
  | with_reducible refine z_cont ?_
  | with_reducible refine z_par ?_
  | with_reducible refine z_two ?_
  | with_reducible refine z_asgT ?_
  | with_reducible refine z_sl ?_
  | with_reducible refine z_noPart ?_
  | with_reducible refine z_part ?_
  | with_reducible refine z_partI ?_
  | with_reducible refine z_gName ?_
  | with_reducible refine z_gcons ?_
  | with_reducible refine z_gnil ?_
  | ((with_reducible refine' z_up ?h ?hm ?_); (case h => walk_at "sq"); (case hm => exact rfl))
  | ((with_reducible refine' z_gT ?h ?hm ?_); (case h => walk_at "sq"); (case hm => exact rfl))
  | with_reducible refine z_isII ?_
  | with_reducible refine z_isNN ?_
  | with_reducible refine z_isNR ?_
  | with_reducible refine z_notNN ?_
  | with_reducible refine z_notNR ?_
  | with_reducible refine z_isIB ?_
  | with_reducible refine z_isBB ?_
  | ((with_reducible refine' z_isT ?h ?_); (case h => walk_at "sq"))
  | ((with_reducible refine' z_isLL ?h ?_); case h => assumption)
  | ((with_reducible refine z_newT ?h ?_); case h => exact Nat.le_of_ble_eq_true rfl)
  | ((with_reducible refine z_newL ?h ?_); case h => exact Nat.le_of_ble_eq_true rfl)
  | ((with_reducible refine' z_ixL ?h ?h2 ?_); (case h => walk_at "sq"); (case h2 => exact rfl))
  | ((with_reducible refine' z_ixT ?h ?h2 ?_); (case h => walk_at "sq"); (case h2 => exact rfl))
  | ((with_reducible refine' z_lenL ?h ?_); case h => walk_at "sq")
  | ((with_reducible refine' z_lenT ?h ?_); case h => walk_at "sq")
  | ((with_reducible refine z_ifYes ?h ?_); (case h => exact rfl))
  | ((with_reducible refine z_ifNo ?h ?_); (case h => exact rfl)))
local macro_rules | `(tactic| walk_at "sq") => `(tactic| first | assumption | exact Or.inl (Or.inl (by assumption)) | exact Or.inl (Or.inl upd_same))
local macro_rules | `(tactic| walk_at "z") => `(tactic| repeat (walk_at "z1"))
/-! ### promises -/
def sp__law_cell (K : PySem.W.Frag) : Sp := fun vs H Q _ => ∃ (l : Addr) (ns : List Int) (j : Nat), vs = [.ref l, .int (j : Int)] ∧ SqL K H l (ns.map V.int) ∧ ∀ v, Q (.int v) H
/-- a stream: three ints, whatever they are -/
def IsStm (H : Hp) (p : Addr) : Prop := ∃ a b m : Int, H p = some (.lst [.int a, .int b, .int m])
def sp__law_stream : Sp := fun vs H Q _ => ∃ c : Int, vs = [.int c] ∧ ∀ p H' a b m, H p = none → Same H H' → H' p = some (.lst [.int a, .int b, .int m]) → Q (.ref p) H'
def sp__law_next : Sp := fun vs H Q _ => ∃ (p : Addr) (z : Int), vs = [.ref p, .int z] ∧ IsStm H p ∧ 0 < z ∧ z.natAbs < 2 ^ 1000 ∧ ∀ v a b m, 0 ≤ v → v < z → Q (.int v) (upd H p (.lst [.int a, .int b, .int m]))
section
theorem ok__law_cell {P : Program} {w : World} {K : PySem.W.Frag} {mg : Str → Option Value} {base : Heap} {A : Nat → Addr} {D : Nat → FuncData} (T : Txt K mg A D) : FnOk P w K mg base (L2.CX P w) 1 (A 2) (D 2) ["script", "k"] (sp__law_cell K) := by
  refine T.F__law_cell.okX sc__law_cell (fun vs H Q E h => ?_) (fun cdv A' outer s H vs Q E hr h => ?_)
  · obtain ⟨l, ns, j, rfl, _⟩ := h
    rfl
  obtain ⟨l, ns, j, rfl, hS, q⟩ := h
  refine ⟨_, (pss_cons (ps_if (pt_cmpR op_lt (pv 1) (pe_callB Z.c_len (by rfl) T.z_len (by decide +kernel) (pa_cons (pv 0) pa_nil)) (nomark _))
  (pss_one (ps_ret (pe_ix ix_list (pv 0) (pv 1) (fun _ _ => rfl))))
  pss_nil)
  (pss_one (ps_ret pe_int))), ?_⟩
  walk_at "z"
  refine z_if (fun hj => ?_) (fun _ => ?_)
  · walk_at "z"
    rw [List.length_map] at hj
    have hj' : j < ns.length := by omega
    refine z_ixL hS (v := .int ns[j]) (atI_nat (by rw [List.getElem?_map, List.getElem?_eq_getElem hj']; rfl)) (q _)
  · walk_at "z"
    exact q 0
theorem ok__law_stream {P : Program} {w : World} {K : PySem.W.Frag} {mg : Str → Option Value} {base : Heap} {A : Nat → Addr} {D : Nat → FuncData} (T : Txt K mg A D) : FnOk P w K mg base (L2.CX P w) 1 (A 3) (D 3) ["cell"] sp__law_stream := by
  refine T.F__law_stream.okX sc__law_stream (fun vs H Q E h => ?_) (fun cdv A' outer s H vs Q E hr h => ?_)
  · obtain ⟨c, rfl, _⟩ := h
    rfl
  obtain ⟨c, rfl, q⟩ := h
  refine ⟨_, (pss_cons (ps_if (pt_cmpR op_ge (pv 0) (Z.pe_powc (v := 1000000000000000000) ⟨by decide, by decide, by decide⟩ (by decide)) (nomark _))
  (pss_one (ps_ret (pe_lst (pa_cons (pv 0) (pa_cons pe_int (pa_cons (pe_op op_mod (pe_callTy Z.c_int (by rfl) T.z_int (by decide +kernel) (pa_cons (pv 0) pa_nil)) pe_int) pa_nil))))))
  pss_nil)
  (pss_one (ps_ret (pe_lst (pa_cons pe_int (pa_cons pe_int (pa_cons (pe_op op_mod (pe_callTy Z.c_int (by rfl) T.z_int (by decide +kernel) (pa_cons (pv 0) pa_nil)) pe_int) pa_nil))))))), ?_⟩
  walk_at "z"
  refine z_if (fun hj => ?_) (fun _ => ?_)
  · walk_at "z"
    exact fun p H' hp s h => q p H' _ _ _ hp s h
  · walk_at "z"
    exact fun p H' hp s h => q p H' _ _ _ hp s h
theorem ok__law_next {P : Program} {w : World} {K : PySem.W.Frag} {mg : Str → Option Value} {base : Heap} {A : Nat → Addr} {D : Nat → FuncData} (T : Txt K mg A D) : FnOk P w K mg base (L2.CX P w) 1 (A 4) (D 4) ["stream", "size"] sp__law_next := by
  refine T.F__law_next.okX sc__law_next (fun vs H Q E h => ?_) (fun cdv A' outer s H vs Q E hr h => ?_)
  · obtain ⟨p, z, rfl, _⟩ := h
    rfl
  obtain ⟨p, z, rfl, ⟨a, b, m, hp⟩, hz, hz2, q⟩ := h
  refine ⟨_, (pss_cons (ps_if (pt_cmpR op_gt (pe_ix ix_list (pv 0) pe_int (fun _ _ => rfl)) pe_int (nomark _))
  (pss_cons (ps_set (i := 2) sc__law_next.nd rfl (.inl rfl) (pe_op op_mod (pe_callTy Z.c_int (by rfl) T.z_int (by decide +kernel) (pa_cons (pe_ix ix_list (pv 0) pe_int (fun _ _ => rfl)) pa_nil)) (pv 1)))
  (pss_cons (ps_asg (pe_op op_fdivW (pe_ix ix_list (pv 0) pe_int (fun _ _ => rfl)) (pv 1)) (pg_sub (pv 0) pe_int set_list))
  (pss_one (ps_ret (pv 2)))))
  pss_nil)
  (pss_cons (ps_asg (pe_op op_add (pe_ix ix_list (pv 0) pe_int (fun _ _ => rfl)) pe_int) (pg_sub (pv 0) pe_int set_list))
  (pss_cons (ps_set (i := 3) sc__law_next.nd rfl (.inl rfl) (pe_op op_mod (pe_callTy Z.c_int (by rfl) T.z_int (by decide +kernel) (pa_cons (pe_op op_add (pe_op op_mul (pe_ix ix_list (pv 0) pe_int (fun _ _ => rfl)) pe_int) (pe_op op_mul (pe_ix ix_list (pv 0) pe_int (fun _ _ => rfl)) pe_int)) pa_nil)) pe_int))
  (pss_cons (ps_set (i := 3) sc__law_next.nd rfl (.inl rfl) (pe_op op_mod (pe_callTy Z.c_int (by rfl) T.z_int (by decide +kernel) (pa_cons (pe_op op_add (pe_op op_mulW (pv 3) (pv 3)) (pe_op op_mul (pe_ix ix_list (pv 0) pe_int (fun _ _ => rfl)) pe_int)) pa_nil)) pe_int))
  (pss_cons (ps_set (i := 3) sc__law_next.nd rfl (.inl rfl) (pe_op op_mod (pe_callTy Z.c_int (by rfl) T.z_int (by decide +kernel) (pa_cons (pe_op op_add (pe_op op_mul (pv 3) pe_int) (pe_ix ix_list (pv 0) pe_int (fun _ _ => rfl))) pa_nil)) pe_int))
  (pss_one (ps_ret (pe_op op_mod (pe_callTy Z.c_int (by rfl) T.z_int (by decide +kernel) (pa_cons (pv 3) pa_nil)) (pv 1))))))))), ?_⟩
  walk_at "z"
  refine z_if (fun hj => ?_) (fun _ => ?_)
  · walk_at "z"
    refine z_I (wide_div hz hz2 (by decide) (by decide)) ?_
    walk_at "z"
    refine z_setL hp rfl ?_
    walk_at "z"
    exact q _ _ _ _ (Int.emod_nonneg _ (by omega)) (Int.emod_lt_of_pos _ hz)
  · walk_at "z"
    refine z_setL hp rfl ?_
    have hp1 : (upd H p (HO.lst ([V.int a, V.int b, V.int m].set (Int.toNat 1) (V.int (b + 1))))) p = some (.lst [V.int a, V.int (b + 1), V.int m]) := upd_same
    walk_at "z"
    refine z_I ?_ ?_
    · exact wide_mul (a := 32) (b := 32) (by omega) (by omega) (by decide) (by decide) (by decide)
    walk_at "z"
    exact q _ _ _ _ (Int.emod_nonneg _ (by omega)) (Int.emod_lt_of_pos _ hz)
end
def sp__law_is_integer : Sp := fun vs H Q _ => ∃ i, vs = [.int i] ∧ Q (.bl true) H
section
theorem ok__law_is_integer {P : Program} {w : World} {K : PySem.W.Frag} {mg : Str → Option Value} {base : Heap} {A : Nat → Addr} {D : Nat → FuncData} (T : Txt K mg A D) : FnOk P w K mg base (L2.CX P w) 1 (A 8) (D 8) ["actual"] sp__law_is_integer := by
  refine T.F__law_is_integer.okX sc__law_is_integer (fun vs H Q E h => ?_) (fun cdv A' outer s H vs Q E hr h => ?_)
  · obtain ⟨i, rfl, _⟩ := h
    rfl
  obtain ⟨i, rfl, q⟩ := h
  refine ⟨_, (pss_one (ps_ret (pe_and (pe_callB call_isi (by rfl) T.z_isinstance (by decide +kernel) (pa_cons (pv 0) (pa_cons (pe_bltn (v := .ty "int") (by rfl) T.z_int (by decide +kernel) rfl) pa_nil))) (pe_one (pe_not (pe_callB call_isi (by rfl) T.z_isinstance (by decide +kernel) (pa_cons (pv 0) (pa_cons (pe_bltn (v := .ty "bool") (by rfl) T.z_bool (by decide +kernel) rfl) pa_nil)))))))), ?_⟩
  walk_at "z"
  exact q
end
theorem isI {i : Int} {H : Hp} {Q : VK} {E : XK} (q : Q (.bl true) H) : sp__law_is_integer [.int i] H Q E := ⟨i, rfl, q⟩
local macro_rules | `(tactic| walk_at "z1") => `(tactic| with_reducible refine isI ?_)

/-! ### numbers in lowest terms -/
theorem gd_pos {n d : Int} (h : d ≠ 0) : 0 < gd n d := by
  unfold gd
  have : 0 < Nat.gcd n.natAbs d.natAbs := Nat.gcd_pos_of_pos_right _ (by omega)
  omega
theorem gd_dvd_l (n d : Int) : gd n d ∣ n := by
  unfold gd
  exact Int.dvd_trans (Int.natCast_dvd_natCast.mpr (Nat.gcd_dvd_left _ _)) (Int.natAbs_dvd_self)
theorem gd_dvd_r (n d : Int) : gd n d ∣ d := by
  unfold gd
  exact Int.dvd_trans (Int.natCast_dvd_natCast.mpr (Nat.gcd_dvd_right _ _)) (Int.natAbs_dvd_self)
theorem rd_pos {n d : Int} (h : d ≠ 0) : 0 < rd n d := by
  have g := gd_pos (n := n) h
  obtain ⟨k, hk⟩ := gd_dvd_r n d
  unfold rd
  split
  · rename_i hd
    have e : -d = gd n d * (-k) := by rw [Int.mul_neg, ← hk]
    rw [e, Int.mul_ediv_cancel_left _ (by omega)]
    have : ¬ 0 ≤ k := fun z => by have := Int.mul_nonneg (Int.le_of_lt g) z; omega
    omega
  · rename_i hd
    have e : d / gd n d = k := Int.ediv_eq_of_eq_mul_right (by omega) hk
    rw [e]
    have : ¬ k ≤ 0 := fun z => by have := Int.mul_nonpos_of_nonneg_of_nonpos (Int.le_of_lt g) z; omega
    omega
/-- what the program divides: by the negative of the common divisor where d is negative -/
theorem fdiv_neg {n g : Int} (hg : 0 < g) (h : g ∣ n) : Int.fdiv n (-g) = -n / g := by
  obtain ⟨k, rfl⟩ := h
  rw [show g * k = (-g) * (-k) by rw [Int.neg_mul_neg], Int.mul_fdiv_cancel_left _ (by omega), Int.neg_mul_neg, show -(g * k) = g * (-k) by rw [Int.mul_neg], Int.mul_ediv_cancel_left _ (by omega)]
theorem fdiv_pos {n g : Int} (hg : 0 < g) : Int.fdiv n g = n / g := Int.fdiv_eq_ediv_of_nonneg _ (by omega)
theorem gd_log {n d : Int} {k : Nat} (h : d ≠ 0) (hd : d.natAbs < 2 ^ k) : (gd n d).natAbs < 2 ^ k := by
  have : Nat.gcd n.natAbs d.natAbs ≤ d.natAbs := Nat.gcd_le_right _ (by omega)
  unfold gd
  omega
theorem cfd {j : Int} (h : j ≠ 0) (hj : j.natAbs < 2 ^ 1000) : CFd 0 j := ⟨h, Nat.lt_of_lt_of_le (PySem.Flt.log2_lt_of (by decide) hj) (by decide)⟩
theorem lt4 {a : Nat} (h : a < 2 ^ 400) : a < 2 ^ 1000 := Nat.lt_of_lt_of_le h (Nat.pow_le_pow_right (by decide) (by decide))
theorem lt1000 {a : Nat} (h : a < 2 ^ 100) : a < 2 ^ 1000 := Nat.lt_of_lt_of_le h (Nat.pow_le_pow_right (by decide) (by decide))



/-! ### the draws of a law: the heap H0 stands, a stream stands at p -/
structure Sd (H0 H : Hp) (p : Addr) : Prop where
  same : Same H0 H
  fresh : H0 p = none
  stm : IsStm H p
theorem Sd.mk0 {H H' : Hp} {p : Addr} {a b m : Int} (h : H p = none) (s : Same H H') (e : H' p = some (.lst [.int a, .int b, .int m])) : Sd H H' p := ⟨s, h, a, b, m, e⟩
theorem Sd.mono {H0 H H' : Hp} {p : Addr} (S : Sd H0 H p) (s : Same H H') : Sd H0 H' p := by
  obtain ⟨a, b, m, e⟩ := S.stm
  exact ⟨S.same.trans s, S.fresh, a, b, m, s _ _ e⟩
theorem nx {H0 H : Hp} {p : Addr} {z : Int} {Q : VK} {E : XK} (S : Sd H0 H p) (hz : 0 < z) (hz2 : z.natAbs < 2 ^ 1000) (q : ∀ v H', 0 ≤ v → v < z → Sd H0 H' p → (∀ b, b ≠ p → H' b = H b) → Q (.int v) H') : sp__law_next [.ref p, .int z] H Q E := by
  refine ⟨p, z, rfl, S.stm, hz, hz2, fun v a b m h0 h1 => q v _ h0 h1 ⟨fun c o e => ?_, S.fresh, a, b, m, upd_same⟩ fun b hb => upd_ne hb⟩
  rw [upd_ne (ne_of_none e S.fresh)]
  exact S.same c o e
theorem Sd.ext {H0 H : Hp} {p q : Addr} {o : HO} (S : Sd H0 H p) (h : H q = none) : Sd H0 (upd H q o) p := by
  obtain ⟨a, b, m, hp⟩ := S.stm
  exact ⟨S.same.trans (same_upd h), S.fresh, a, b, m, by rw [upd_ne (ne_of_none hp h)]; exact hp⟩
theorem kp_refl {p : Addr} {H : Hp} : Kp p H H := fun _ _ _ e => e
theorem _root_.Z.Kp.trans' {p : Addr} {H H1 H2 : Hp} (a : Kp p H H1) (b : Kp p H1 H2) : Kp p H H2 := fun c o h e => b c o h (a c o h e)
theorem kp_eq {p : Addr} {H H' : Hp} (k : ∀ b, b ≠ p → H' b = H b) : Kp p H H' := fun b o h e => by
  rw [k b h]
  exact e
theorem kp_of {p : Addr} {H H' : Hp} (s : Same H H') : Kp p H H' := fun b x _ e => s b x e
theorem Sd.ne {H0 H : Hp} {p q : Addr} {xs : List V} (S : Sd H0 H p) (h : H q = some (.tup xs)) : q ≠ p := by
  obtain ⟨_, _, _, e⟩ := S.stm
  exact ne_of h e (by intro z; cases z)
theorem Sd.ne0 {H0 H : Hp} {p q : Addr} (S : Sd H0 H p) (h : H q = none) : q ≠ p := by
  obtain ⟨_, _, _, e⟩ := S.stm
  exact Ne.symm (ne_of_none e h)
theorem lt400 {a : Nat} (h : a < 2 ^ 100) : a < 2 ^ 400 := Nat.lt_of_lt_of_le h (Nat.pow_le_pow_right (by decide) (by decide))
theorem kp_sd {H0 H H' : Hp} {p : Addr} {K : PySem.W.Frag} {v : V} {d : PyData} (S : Sd H0 H p) (k : Kp p H H') (t : tupOnly d = true) (h : Dp K H v d) : Dp K H' v d := by
  obtain ⟨a, b, m, e⟩ := S.stm
  exact dp_kp k e t h
/-! ### the four operations, and comparing -/






/-! ### grid points -/
abbrev GP := Int × Int
def gD (z : GP) : PyData := .tuple [.int z.1, .int z.2]
/-- both parts within N -/
def Gb (N : Nat) (z : GP) : Prop := z.1.natAbs ≤ N ∧ z.2.natAbs ≤ N
theorem Gb.le {N M : Nat} {z : GP} (h : Gb N z) (l : N ≤ M) : Gb M z := ⟨Nat.le_trans h.1 l, Nat.le_trans h.2 l⟩
theorem dp_g {K : PySem.W.Frag} {H : Hp} {v : V} {z : GP} (h : Dp K H v (gD z)) : ∃ p, v = .ref p ∧ SqT K H p [.int z.1, .int z.2] := by
  obtain ⟨p, v1, v2, e, hS, h1, h2⟩ := dp_t2 h
  rw [dp_int h1, dp_int h2] at hS
  exact ⟨p, e, hS⟩
theorem dp_mkg {K : PySem.W.Frag} {H : Hp} {p : Addr} {x y : Int} (h : H p = some (.tup [.int x, .int y])) : Dp K H (.ref p) (gD (x, y)) := dp_mk h (.cons (.int _) (.cons (.int _) .nil))
theorem dp_seqg {K : PySem.W.Frag} {H : Hp} {p : Addr} {x y : Int} (h : SqT K H p [.int x, .int y]) : Dp K H (.ref p) (gD (x, y)) := .tup h (.cons (.int _) (.cons (.int _) .nil))
/-- values that stand for grid points -/
def Gs (K : PySem.W.Frag) (H : Hp) : List V → List GP → Prop
  | [], [] => True
  | v :: vs, z :: zs => Dp K H v (gD z) ∧ Gs K H vs zs
  | _, _ => False
section
variable {K : PySem.W.Frag} {H H' : Hp}
theorem Gs.len : ∀ {vs : List V} {zs : List GP}, Gs K H vs zs → vs.length = zs.length
  | [], [], _ => rfl
  | _ :: _, _ :: _, h => congrArg (· + 1) (Gs.len h.2)
theorem Gs.mono (s : Same H H') : ∀ {vs : List V} {zs : List GP}, Gs K H vs zs → Gs K H' vs zs
  | [], [], _ => trivial
  | _ :: _, _ :: _, h => ⟨dp_mono s h.1, Gs.mono s h.2⟩
theorem Gs.kp {p : Addr} {xs : List V} (k : Kp p H H') (hp : H p = some (.lst xs)) : ∀ {vs : List V} {zs : List GP}, Gs K H vs zs → Gs K H' vs zs
  | [], [], _ => trivial
  | _ :: _, _ :: _, h => ⟨dp_kp k hp rfl h.1, Gs.kp k hp h.2⟩
theorem Gs.app : ∀ {vs ws : List V} {zs us : List GP}, Gs K H vs zs → Gs K H ws us → Gs K H (vs ++ ws) (zs ++ us)
  | [], _, [], _, _, k => k
  | _ :: _, _, _ :: _, _, h, k => ⟨h.1, Gs.app h.2 k⟩
theorem Gs.get {vs : List V} {zs : List GP} {i : Nat} {z : GP} (h : Gs K H vs zs) (e : zs[i]? = some z) : ∃ v, vs[i]? = some v ∧ Dp K H v (gD z) := by
  induction vs generalizing zs i with
  | nil =>
    cases zs with
    | nil => simp at e
    | cons => exact h.elim
  | cons w ws ih =>
    cases zs with
    | nil => exact h.elim
    | cons u us =>
      cases i with
      | zero =>
        cases e
        exact ⟨w, rfl, h.1⟩
      | succ i => exact ih h.2 (by simpa using e)
theorem Gs.getv {vs : List V} {zs : List GP} {i : Nat} {v : V} (h : Gs K H vs zs) (e : vs[i]? = some v) : ∃ z, zs[i]? = some z ∧ Dp K H v (gD z) := by
  have hi : i < vs.length := (List.getElem?_eq_some_iff.mp e).1
  obtain ⟨w, hw, d⟩ := h.get (z := zs[i]'(by rw [← h.len]; exact hi)) (List.getElem?_eq_getElem _)
  rw [e] at hw
  cases hw
  exact ⟨_, List.getElem?_eq_getElem _, d⟩
theorem Gs.data : ∀ {vs : List V} {zs : List GP}, Gs K H vs zs → DpAll K H vs (zs.map gD)
  | [], [], _ => .nil
  | _ :: _, _ :: _, h => .cons h.1 (Gs.data h.2)
theorem gs_nil : Gs K H [] [] := trivial
theorem gs_one {v : V} {z : GP} (h : Dp K H v (gD z)) : Gs K H [v] [z] := ⟨h, trivial⟩
end
theorem nat_idx {xs : List V} {k : Nat} {v : V} (h : xs[k]? = some v) : atI xs (k : Int) = some v := atI_nat h
/-! ### drawn outlines -/
def sp__law_coordinate : Sp := fun vs H Q _ => ∃ (p : Addr) (H0 : Hp) (m : Int), vs = [.ref p, .int m] ∧ Sd H0 H p ∧ ∀ (v : Int) (H' : Hp), v.natAbs ≤ 500000000000 → Sd H0 H' p → (∀ b, b ≠ p → H' b = H b) → Q (.int v) H'
section
theorem ok__law_coordinate {P : Program} {w : World} {K : PySem.W.Frag} {mg : Str → Option Value} {base : Heap} {A : Nat → Addr} {D : Nat → FuncData} (T : Txt K mg A D) : FnOk P w K mg base (L2.CX P w) 2 (A 5) (D 5) ["stream", "mode"] sp__law_coordinate := by
  refine T.F__law_coordinate.okX sc__law_coordinate (fun vs H Q E h => ?_) (fun cdv A' outer s H vs Q E hr h => ?_)
  · obtain ⟨p, H0, m, rfl, _⟩ := h
    rfl
  obtain ⟨p, H0, m, rfl, S, q⟩ := h
  refine ⟨_, (pss_cons (ps_if (pt_cmpR op_eq (pv 1) pe_int (nomark _))
  (pss_one (ps_ret (pe_op op_sub (pe_op op_mul pe_int (pe_call (ok__law_next T) (hr.mono (by decide)) (by rfl) T.m__law_next T.F__law_next.kp T.b__law_next .nil (passes_call (takes_of rfl rfl rfl rfl) (fun _ _ _ _ h => h)) (pa_cons (pv 0) (pa_cons pe_int pa_nil)))) pe_int)))
  pss_nil)
  (pss_cons (ps_if (pt_cmpR op_eq (pv 1) pe_int (nomark _))
  (pss_one (ps_ret (pe_op op_sub (pe_call (ok__law_next T) (hr.mono (by decide)) (by rfl) T.m__law_next T.F__law_next.kp T.b__law_next .nil (passes_call (takes_of rfl rfl rfl rfl) (fun _ _ _ _ h => h)) (pa_cons (pv 0) (pa_cons pe_int pa_nil))) pe_int)))
  pss_nil)
  (pss_cons (ps_if (pt_cmpR op_eq (pv 1) pe_int (nomark _))
  (pss_one (ps_ret (pe_op op_sub (pe_call (ok__law_next T) (hr.mono (by decide)) (by rfl) T.m__law_next T.F__law_next.kp T.b__law_next .nil (passes_call (takes_of rfl rfl rfl rfl) (fun _ _ _ _ h => h)) (pa_cons (pv 0) (pa_cons pe_int pa_nil))) pe_int)))
  pss_nil)
  (pss_cons (ps_if (pt_cmpR op_eq (pv 1) pe_int (nomark _))
  (pss_one (ps_ret (pe_op op_sub (pe_op op_mul pe_int (pe_call (ok__law_next T) (hr.mono (by decide)) (by rfl) T.m__law_next T.F__law_next.kp T.b__law_next .nil (passes_call (takes_of rfl rfl rfl rfl) (fun _ _ _ _ h => h)) (pa_cons (pv 0) (pa_cons pe_int pa_nil)))) pe_int)))
  pss_nil)
  (pss_one (ps_ret (pe_op op_sub (pe_call (ok__law_next T) (hr.mono (by decide)) (by rfl) T.m__law_next T.F__law_next.kp T.b__law_next .nil (passes_call (takes_of rfl rfl rfl rfl) (fun _ _ _ _ h => h)) (pa_cons (pv 0) (pa_cons (Z.pe_powc (v := 1000000000000) ⟨by decide, by decide, by decide⟩ (by decide)) pa_nil))) (pe_op op_mul pe_int (Z.pe_powc (v := 100000000000) ⟨by decide, by decide, by decide⟩ (by decide)))))))))), ?_⟩
  walk_at "z"
  refine z_if (fun _ => ?_) (fun _ => ?_)
  · walk_at "z"
    refine nx S (by decide) (lt1000 (by decide)) fun v H1 v0 v1 S1 e1 => ?_
    walk_at "z"
    exact q _ _ (by omega) S1 e1
  walk_at "z"
  refine z_if (fun _ => ?_) (fun _ => ?_)
  · walk_at "z"
    refine nx S (by decide) (lt1000 (by decide)) fun v H1 v0 v1 S1 e1 => ?_
    walk_at "z"
    exact q _ _ (by omega) S1 e1
  walk_at "z"
  refine z_if (fun _ => ?_) (fun _ => ?_)
  · walk_at "z"
    refine nx S (by decide) (lt1000 (by decide)) fun v H1 v0 v1 S1 e1 => ?_
    walk_at "z"
    exact q _ _ (by omega) S1 e1
  walk_at "z"
  refine z_if (fun _ => ?_) (fun _ => ?_)
  · walk_at "z"
    refine nx S (by decide) (lt1000 (by decide)) fun v H1 v0 v1 S1 e1 => ?_
    walk_at "z"
    exact q _ _ (by omega) S1 e1
  · walk_at "z"
    refine nx S (by decide) (lt1000 (by decide)) fun v H1 v0 v1 S1 e1 => ?_
    walk_at "z"
    exact q _ _ (by omega) S1 e1
end
/-- a drawn outline: count points, then the first one again -/
def Drawn (zs : List GP) (n : Nat) : Prop := zs.length = n + 1 ∧ (∀ z ∈ zs, Gb 500000000000 z) ∧ zs[n]? = zs[0]?
def sp__law_outline (K : PySem.W.Frag) : Sp := fun vs H Q _ => ∃ (p : Addr) (H0 : Hp) (n : Nat) (m : Int), vs = [.ref p, .int (n : Int), .int m] ∧ Sd H0 H p ∧ 1 ≤ n ∧ n ≤ 100 ∧ 0 < m ∧ m < 100 ∧
  ∀ (q : Addr) (ws : List V) (zs : List GP) (H' : Hp), H q = none → H' q = some (.lst ws) → Gs K H' ws zs → Drawn zs n → Sd H0 H' p → Kp p H H' → Q (.ref q) H'
section
theorem ok__law_outline {P : Program} {w : World} {K : PySem.W.Frag} {mg : Str → Option Value} {base : Heap} {A : Nat → Addr} {D : Nat → FuncData} (T : Txt K mg A D) : FnOk P w K mg base (L2.CX P w) 3 (A 6) (D 6) ["stream", "count", "modes"] (sp__law_outline K) := by
  refine T.F__law_outline.okX sc__law_outline (fun vs H Q E h => ?_) (fun cdv A' outer s H vs Q E hr h => ?_)
  · obtain ⟨p, H0, n, m, rfl, _⟩ := h
    rfl
  obtain ⟨p, H0, n, m, rfl, S, hn, hn2, hm, hm2, q⟩ := h
  refine ⟨_, (pss_cons (ps_set (i := 3) sc__law_outline.nd rfl (.inl rfl) (pe_call (ok__law_next T) (hr.mono (by decide)) (by rfl) T.m__law_next T.F__law_next.kp T.b__law_next .nil (passes_call (takes_of rfl rfl rfl rfl) (fun _ _ _ _ h => h)) (pa_cons (pv 0) (pa_cons (pv 2) pa_nil))))
  (pss_cons (ps_set (i := 4) sc__law_outline.nd rfl (.inl rfl) (pe_lst pa_nil))
  (pss_cons (ps_for (passes_of rfl) rfl (pi_range1 (by rfl) T.z_range (pa_cons (pv 1) pa_nil)) (pg_name (i := 5) sc__law_outline.nd rfl (.inl rfl))
  (pss_cons (ps_set (i := 6) sc__law_outline.nd rfl (.inl rfl) (pe_call (ok__law_coordinate T) (hr.mono (by decide)) (by rfl) T.m__law_coordinate T.F__law_coordinate.kp T.b__law_coordinate .nil (passes_call (takes_of rfl rfl rfl rfl) (fun _ _ _ _ h => h)) (pa_cons (pv 0) (pa_cons (pv 3) pa_nil))))
  (pss_cons (ps_set (i := 7) sc__law_outline.nd rfl (.inl rfl) (pe_call (ok__law_coordinate T) (hr.mono (by decide)) (by rfl) T.m__law_coordinate T.F__law_coordinate.kp T.b__law_coordinate .nil (passes_call (takes_of rfl rfl rfl rfl) (fun _ _ _ _ h => h)) (pa_cons (pv 0) (pa_cons (pv 3) pa_nil))))
  (pss_cons (ps_set (i := 8) sc__law_outline.nd rfl (.inl rfl) (pe_call (ok__law_next T) (hr.mono (by decide)) (by rfl) T.m__law_next T.F__law_next.kp T.b__law_next .nil (passes_call (takes_of rfl rfl rfl rfl) (fun _ _ _ _ h => h)) (pa_cons (pv 0) (pa_cons pe_int pa_nil))))
  (Evl.pss_cut (ps_if (PW.pt (pw_and (pt_cmpR op_gt (pv 5) pe_int (nomark _)) (pw_and1 (pt_cmpR op_lt (pv 8) pe_int (nomark _)))))
  (pss_one (ps_set (i := 7) sc__law_outline.nd rfl (.inl rfl) (pe_ix ix_tup (pe_ix ix_list (pv 4) (pe_op op_sub (pv 5) pe_int) (fun _ _ => rfl)) pe_int (fun _ _ => rfl))))
  pss_nil)
  (Evl.pss_cut (ps_if (PW.pt (pw_or (PW.pt (pw_and (pt_cmpR op_gt (pv 5) pe_int (nomark _)) (pw_and1 (pt_cmpR op_eq (pv 8) pe_int (nomark _))))) (pw_or1 (PW.pt (pw_and (pt_cmpR op_gt (pv 5) pe_int (nomark _)) (pw_and1 (pt_cmpR op_eq (pv 8) pe_int (nomark _))))))))
  (pss_one (ps_set (i := 6) sc__law_outline.nd rfl (.inl rfl) (pe_ix ix_tup (pe_ix ix_list (pv 4) (pe_op op_sub (pv 5) pe_int) (fun _ _ => rfl)) pe_int (fun _ _ => rfl))))
  pss_nil)
  (pss_one (ps_expr (pe_bm PySem.F.plainAttrs_list PySem.F.slot_list_append PySem.F.type_list_append mt_append (pv 4) (pa_cons (pe_tup (pa_cons (pv 6) (pa_cons (pv 7) pa_nil))) pa_nil))))))))))
  (pss_cons (ps_expr (pe_bm PySem.F.plainAttrs_list PySem.F.slot_list_append PySem.F.type_list_append mt_append (pv 4) (pa_cons (pe_ix ix_list (pv 4) pe_int (fun _ _ => rfl)) pa_nil)))
  (pss_one (ps_ret (pv 4))))))), ?_⟩
  walk_at "z"
  refine nx S hm (lt1000 (Nat.lt_of_le_of_lt (show m.natAbs ≤ 100 by omega) (by decide))) fun mo H1 _ _ S1 e1 => ?_
  walk_at "z"
  intro l H2 f2 s2 h2
  have S2 := S1.mono s2
  have hlp : l ≠ p := fun z => by
    obtain ⟨_, _, _, e⟩ := S1.stm
    rw [z, e] at f2
    cases f2
  have hHl : H l = none := by
    rw [← e1 l hlp]
    exact f2
  have k2 : Kp p H H2 := (kp_eq e1).trans' (kp_of s2)
  have hl0 : H0 l = none := by
    cases z : H0 l with
    | none => rfl
    | some o => rw [S1.same _ _ z] at f2; cases f2
  walk_at "z"
  refine z_forR1 n (by omega) (fun R q => by walk_at "z"; exact q) (fun i σ' H' => Sd H0 H' p ∧ Kp p H H' ∧ ∃ (ws : List V) (zs : List GP) (w1 w2 w3 w4 : Option V), σ' = [some (.ref p), some (.int (n : Int)), some (.int m), some (.int mo), some (.ref l), w1, w2, w3, w4] ∧ H' l = some (.lst ws) ∧ Gs K H' ws zs ∧ zs.length = i ∧ ∀ z ∈ zs, Gb 500000000000 z)
    ⟨S2, k2, [], [], _, _, _, _, rfl, h2, gs_nil, rfl, fun z hz => by simp at hz⟩ ?_ ?_
  · rintro i σ' H3 hi ⟨S3, k3, ws, zs, w1, w2, w3, w4, rfl, hl3, g3, hz, hb⟩
    have hw : ws.length = i := by rw [g3.len, hz]
    walk_at "z"
    refine ⟨p, H0, mo, rfl, S3, fun x H4 bx S4 e4 => ?_⟩
    walk_at "z"
    refine ⟨p, H0, mo, rfl, S4, fun y H5 by' S5 e5 => ?_⟩
    walk_at "z"
    refine nx S5 (by decide) (lt1000 (by decide)) fun sm H6 _ _ S6 e6 => ?_
    obtain ⟨_, _, _, st3⟩ := S3.stm
    have e36 : ∀ b, b ≠ p → H6 b = H3 b := fun b h => ((e6 b h).trans (e5 b h)).trans (e4 b h)
    have k6 : Kp p H3 H6 := kp_eq e36
    have g6 := g3.kp k6 st3
    have hl6 : H6 l = some (.lst ws) := by rw [e36 l hlp]; exact hl3
    have k6' := k3.trans' k6
    clear S4 S5 e4 e5 e6 e36 k6 g3 hl3 st3 S3 k3 S2 S1 S e1 k2 f2 s2 h2
    walk_at "z"
    refine z_cut (fun σ' H' => H' = H6 ∧ ∃ (y : Int), σ' = [some (.ref p), some (.int (n : Int)), some (.int m), some (.int mo), some (.ref l), some (.int (i : Int)), some (.int x), some (.int y), some (.int sm)] ∧ y.natAbs ≤ 500000000000) ?_ ?_
    · walk_at "z"
      refine z_if (fun c => ?_) (fun c => ?_)
      · walk_at "z"
        refine z_if (fun c2 => ?_) (fun c2 => ?_)
        · obtain ⟨v, hv, dv⟩ := g6.get (i := i - 1) (z := zs[i - 1]'(by omega)) (List.getElem?_eq_getElem _)
          have bv := hb _ (List.getElem_mem (h := show i - 1 < zs.length by omega))
          obtain ⟨pv, rfl, hpv⟩ := dp_g dv
          walk_at "z"
          refine z_ixL (.inl (.inl hl6)) (v := .ref pv) (by rw [show (i : Int) - 1 = ((i - 1 : Nat) : Int) by omega]; exact nat_idx hv) ?_
          walk_at "z"
          exact ⟨rfl, _, rfl, bv.2⟩
        · walk_at "z"
          exact ⟨rfl, _, rfl, by'⟩
      · walk_at "z"
        exact ⟨rfl, _, rfl, by'⟩
    rintro σ' H7 ⟨rfl, y, rfl, by2⟩
    clear by'
    walk_at "z"
    refine z_cut (fun σ' H' => H' = H7 ∧ ∃ (x : Int), σ' = [some (.ref p), some (.int (n : Int)), some (.int m), some (.int mo), some (.ref l), some (.int (i : Int)), some (.int x), some (.int y), some (.int sm)] ∧ x.natAbs ≤ 500000000000) ?_ ?_
    · have prev : (0 : Int) < (i : Int) → ∃ (pv : Addr) (z : GP), atI ws ((i : Int) - 1) = some (.ref pv) ∧ SqT K H7 pv [.int z.1, .int z.2] ∧ Gb 500000000000 z := fun c => by
        obtain ⟨v, hv, dv⟩ := g6.get (i := i - 1) (z := zs[i - 1]'(by omega)) (List.getElem?_eq_getElem _)
        have bv := hb _ (List.getElem_mem (h := show i - 1 < zs.length by omega))
        obtain ⟨pv, rfl, hpv⟩ := dp_g dv
        exact ⟨pv, _, by rw [show (i : Int) - 1 = ((i - 1 : Nat) : Int) by omega]; exact nat_idx hv, hpv, bv⟩
      walk_at "z"
      refine z_if (fun c => ?_) (fun c => ?_)
      · obtain ⟨pv, z, e1, e2, bz⟩ := prev c
        walk_at "z"
        refine z_if (fun c2 => ?_) (fun c2 => ?_)
        · walk_at "z"
          refine z_ixL (.inl (.inl hl6)) e1 ?_
          walk_at "z"
          exact ⟨rfl, _, rfl, bz.1⟩
        · walk_at "z"
          refine z_if (fun c3 => ?_) (fun c3 => absurd c c3)
          walk_at "z"
          refine z_if (fun c4 => ?_) (fun c4 => ?_)
          · walk_at "z"
            refine z_ixL (.inl (.inl hl6)) e1 ?_
            walk_at "z"
            exact ⟨rfl, _, rfl, bz.1⟩
          · walk_at "z"
            exact ⟨rfl, _, rfl, bx⟩
      · walk_at "z"
        refine z_if (fun c3 => absurd c3 c) (fun c3 => ?_)
        walk_at "z"
        exact ⟨rfl, _, rfl, bx⟩
    clear bx
    rintro σ' H8 ⟨rfl, x, rfl, bx⟩
    walk_at "z"
    refine z_bmL (fun R q => by walk_at "z"; exact q) hl6 ?_
    walk_at "z"
    intro p9 H9 f9 s9 h9
    have S9 := S6.mono s9
    have hl9 := s9 _ _ hl6
    walk_at "z"
    refine z_append hl9 (by omega) ?_
    walk_at "z"
    have g9 : Gs K H9 (ws ++ [.ref p9]) (zs ++ [(x, y)]) := (g6.mono s9).app (gs_one (dp_mkg h9))
    obtain ⟨a9, b9, m9, st9⟩ := S9.stm
    have ks : Kp l H9 (upd H9 l (.lst (ws ++ [.ref p9]))) := fun b o hb e => by rw [upd_ne hb]; exact e
    have so : Same H0 (upd H9 l (.lst (ws ++ [.ref p9]))) := fun b o e => by
      rw [upd_ne (fun z => by rw [z, hl0] at e; cases e)]
      exact S9.same b o e
    refine ⟨⟨so, S9.fresh, a9, b9, m9, by rw [upd_ne (Ne.symm hlp)]; exact st9⟩, fun b o hb e => ?_, _, _, _, _, _, _, rfl, upd_same, g9.kp ks hl9, by simp [hz], fun z hz' => ?_⟩
    · rw [upd_ne (fun z => by rw [z, hHl] at e; cases e)]
      exact s9 b o (k6' b o hb e)
    · rcases List.mem_append.mp hz' with z1 | z1
      · exact hb z z1
      · rw [List.mem_singleton.mp z1]
        exact ⟨bx, by2⟩
  · rintro σ' H3 ⟨S3, k3, ws, zs, w1, w2, w3, w4, rfl, hl3, g3, hz, hb⟩
    have hw : ws.length = n := by rw [g3.len, hz]
    walk_at "z"
    refine z_bmL (fun R q => by walk_at "z"; exact q) hl3 ?_
    walk_at "z"
    obtain ⟨z0, hz0⟩ : ∃ z0, zs[0]? = some z0 := ⟨_, List.getElem?_eq_getElem (show 0 < zs.length by omega)⟩
    obtain ⟨v, hv, dv⟩ := g3.get hz0
    refine z_ixL (.inl (.inl hl3)) (nat_idx hv) ?_
    walk_at "z"
    refine z_append hl3 (by omega) ?_
    walk_at "z"
    have g9 : Gs K H3 (ws ++ [v]) (zs ++ [z0]) := g3.app (gs_one dv)
    obtain ⟨a9, b9, m9, st9⟩ := S3.stm
    have ks : Kp l H3 (upd H3 l (.lst (ws ++ [v]))) := fun b o hb e => by rw [upd_ne hb]; exact e
    have so : Same H0 (upd H3 l (.lst (ws ++ [v]))) := fun b o e => by
      rw [upd_ne (fun z => by rw [z, hl0] at e; cases e)]
      exact S3.same b o e
    refine q l _ _ _ hHl upd_same (g9.kp ks hl3) ⟨by simp [hz], fun z hz' => ?_, ?_⟩ ⟨so, S3.fresh, a9, b9, m9, by rw [upd_ne (Ne.symm hlp)]; exact st9⟩ (fun b o hb e => ?_)
    · rcases List.mem_append.mp hz' with z1 | z1
      · exact hb z z1
      · rw [List.mem_singleton.mp z1]
        exact hb _ (List.mem_of_getElem? hz0)
    · rw [List.getElem?_append_right (by omega), List.getElem?_append_left (by omega), hz, Nat.sub_self, hz0]
      rfl
    · rw [upd_ne (fun z => by rw [z, hHl] at e; cases e)]
      exact k3 b o hb e
end
/-- a grid point near an outline -/
def sp__law_near (K : PySem.W.Frag) : Sp := fun vs H Q _ => ∃ (p o : Addr) (H0 : Hp) (ws : List V) (zs : List GP) (N : Nat), vs = [.ref p, .ref o] ∧ Sd H0 H p ∧ H0 o = some (.lst ws) ∧ Gs K H ws zs ∧ (∀ z ∈ zs, Gb N z) ∧ N ≤ 1000000000000 ∧ 1 ≤ ws.length ∧ ws.length ≤ 200 ∧
  ∀ (v : V) (z : GP) (H' : Hp), Dp K H' v (gD z) → Gb (N + 5000) z → Sd H0 H' p → Kp p H H' → Q v H'
theorem idx_nat {xs : List V} {j : Int} (h0 : 0 ≤ j) (h1 : j < (xs.length : Int)) : ∃ v, xs[j.toNat]? = some v ∧ atI xs j = some v := by
  have hl : j.toNat < xs.length := by omega
  obtain ⟨v, hv⟩ : ∃ v, xs[j.toNat]? = some v := ⟨_, List.getElem?_eq_getElem hl⟩
  refine ⟨v, hv, ?_⟩
  have := nat_idx hv
  rwa [Int.toNat_of_nonneg h0] at this
section
theorem ok__law_near {P : Program} {w : World} {K : PySem.W.Frag} {mg : Str → Option Value} {base : Heap} {A : Nat → Addr} {D : Nat → FuncData} (T : Txt K mg A D) : FnOk P w K mg base (L2.CX P w) 2 (A 7) (D 7) ["stream", "outline"] (sp__law_near K) := by
  refine T.F__law_near.okX sc__law_near (fun vs H Q E h => ?_) (fun cdv A' outer s H vs Q E hr h => ?_)
  · obtain ⟨p, o, H0, ws, zs, N, rfl, _⟩ := h
    rfl
  obtain ⟨p, o, H0, ws, zs, N, rfl, S, ho, g, hb, hN, hl1, hl2, q⟩ := h
  have lb : ((ws.length : Int)).natAbs < 2 ^ 100 := Nat.lt_of_le_of_lt (show ((ws.length : Int)).natAbs ≤ 200 by omega) (by decide)
  refine ⟨_, (pss_cons (ps_set (i := 2) sc__law_near.nd rfl (.inl rfl) (pe_ix ix_list (pv 1) (pe_call (ok__law_next T) (hr.mono (by decide)) (by rfl) T.m__law_next T.F__law_next.kp T.b__law_next .nil (passes_call (takes_of rfl rfl rfl rfl) (fun _ _ _ _ h => h)) (pa_cons (pv 0) (pa_cons (pe_callB Z.c_len (by rfl) T.z_len (by decide +kernel) (pa_cons (pv 1) pa_nil)) pa_nil))) (fun _ _ => rfl)))
  (pss_cons (ps_set (i := 3) sc__law_near.nd rfl (.inl rfl) (pe_ix ix_list (pv 1) (pe_call (ok__law_next T) (hr.mono (by decide)) (by rfl) T.m__law_next T.F__law_next.kp T.b__law_next .nil (passes_call (takes_of rfl rfl rfl rfl) (fun _ _ _ _ h => h)) (pa_cons (pv 0) (pa_cons (pe_callB Z.c_len (by rfl) T.z_len (by decide +kernel) (pa_cons (pv 1) pa_nil)) pa_nil))) (fun _ _ => rfl)))
  (pss_cons (ps_set (i := 4) sc__law_near.nd rfl (.inl rfl) (pe_call (ok__law_next T) (hr.mono (by decide)) (by rfl) T.m__law_next T.F__law_next.kp T.b__law_next .nil (passes_call (takes_of rfl rfl rfl rfl) (fun _ _ _ _ h => h)) (pa_cons (pv 0) (pa_cons pe_int pa_nil))))
  (pss_cons (ps_if (pt_cmpR op_eq (pv 4) pe_int (nomark _))
  (pss_one (ps_ret (pv 2)))
  pss_nil)
  (pss_cons (ps_if (pt_cmpR op_eq (pv 4) pe_int (nomark _))
  (pss_one (ps_ret (pe_tup (pa_cons (pe_op op_fdivW (pe_op op_add (pe_ix ix_tup (pv 2) pe_int (fun _ _ => rfl)) (pe_ix ix_tup (pv 3) pe_int (fun _ _ => rfl))) pe_int) (pa_cons (pe_op op_fdivW (pe_op op_add (pe_ix ix_tup (pv 2) pe_int (fun _ _ => rfl)) (pe_ix ix_tup (pv 3) pe_int (fun _ _ => rfl))) pe_int) pa_nil)))))
  pss_nil)
  (pss_cons (ps_if (pt_cmpR op_eq (pv 4) pe_int (nomark _))
  (pss_one (ps_ret (pe_tup (pa_cons (pe_ix ix_tup (pv 2) pe_int (fun _ _ => rfl)) (pa_cons (pe_ix ix_tup (pv 3) pe_int (fun _ _ => rfl)) pa_nil)))))
  pss_nil)
  (pss_cons (ps_if (pt_cmpR op_eq (pv 4) pe_int (nomark _))
  (pss_one (ps_ret (pe_tup (pa_cons (pe_op op_sub (pe_op op_add (pe_ix ix_tup (pv 2) pe_int (fun _ _ => rfl)) (pe_call (ok__law_next T) (hr.mono (by decide)) (by rfl) T.m__law_next T.F__law_next.kp T.b__law_next .nil (passes_call (takes_of rfl rfl rfl rfl) (fun _ _ _ _ h => h)) (pa_cons (pv 0) (pa_cons pe_int pa_nil)))) pe_int) (pa_cons (pe_ix ix_tup (pv 2) pe_int (fun _ _ => rfl)) pa_nil)))))
  pss_nil)
  (pss_cons (ps_if (pt_cmpR op_eq (pv 4) pe_int (nomark _))
  (pss_one (ps_ret (pe_tup (pa_cons (pe_op op_sub (pe_op op_add (pe_ix ix_tup (pv 2) pe_int (fun _ _ => rfl)) (pe_call (ok__law_next T) (hr.mono (by decide)) (by rfl) T.m__law_next T.F__law_next.kp T.b__law_next .nil (passes_call (takes_of rfl rfl rfl rfl) (fun _ _ _ _ h => h)) (pa_cons (pv 0) (pa_cons pe_int pa_nil)))) pe_int) (pa_cons (pe_op op_sub (pe_op op_add (pe_ix ix_tup (pv 2) pe_int (fun _ _ => rfl)) (pe_call (ok__law_next T) (hr.mono (by decide)) (by rfl) T.m__law_next T.F__law_next.kp T.b__law_next .nil (passes_call (takes_of rfl rfl rfl rfl) (fun _ _ _ _ h => h)) (pa_cons (pv 0) (pa_cons pe_int pa_nil)))) pe_int) pa_nil)))))
  pss_nil)
  (pss_one (ps_ret (pe_tup (pa_cons (pe_op op_sub (pe_call (ok__law_next T) (hr.mono (by decide)) (by rfl) T.m__law_next T.F__law_next.kp T.b__law_next .nil (passes_call (takes_of rfl rfl rfl rfl) (fun _ _ _ _ h => h)) (pa_cons (pv 0) (pa_cons pe_int pa_nil))) pe_int) (pa_cons (pe_op op_sub (pe_call (ok__law_next T) (hr.mono (by decide)) (by rfl) T.m__law_next T.F__law_next.kp T.b__law_next .nil (passes_call (takes_of rfl rfl rfl rfl) (fun _ _ _ _ h => h)) (pa_cons (pv 0) (pa_cons pe_int pa_nil))) pe_int) pa_nil))))))))))))), ?_⟩
  walk_at "z"
  refine z_lenL (.inl (.inl (S.same _ _ ho))) ?_
  walk_at "z"
  refine nx S (by omega) (lt1000 lb) fun j H1 j0 j1 S1 e1 => ?_
  obtain ⟨_, _, _, st⟩ := S.stm
  have g1 := g.kp (kp_eq e1) st
  obtain ⟨va, hva, ia⟩ := idx_nat j0 j1
  obtain ⟨za, hza, da⟩ := g1.getv hva
  have ba := hb za (List.mem_of_getElem? hza)
  walk_at "z"
  refine z_ixL (.inl (.inl (S1.same _ _ ho))) ia ?_
  walk_at "z"
  refine z_lenL (.inl (.inl (S1.same _ _ ho))) ?_
  walk_at "z"
  refine nx S1 (by omega) (lt1000 lb) fun j' H2 j0' j1' S2 e2 => ?_
  obtain ⟨_, _, _, st1⟩ := S1.stm
  have g2 := g1.kp (kp_eq e2) st1
  obtain ⟨vb, hvb, ib⟩ := idx_nat j0' j1'
  obtain ⟨zb, hzb, db⟩ := g2.getv hvb
  have bb := hb zb (List.mem_of_getElem? hzb)
  walk_at "z"
  refine z_ixL (.inl (.inl (S2.same _ _ ho))) ib ?_
  walk_at "z"
  refine nx S2 (by decide) (lt1000 (by decide)) fun c H3 _ _ S3 e3 => ?_
  have k3 : Kp p H H3 := ((kp_eq e1).trans' (kp_eq e2)).trans' (kp_eq e3)
  have da3 := kp_sd S1 ((kp_eq e2).trans' (kp_eq e3)) rfl da
  have db3 := kp_sd S2 (kp_eq e3) rfl db
  clear g g1 g2 st st1 da db S S1 S2 e1 e2 e3 ia ib hva hvb
  obtain ⟨pa, rfl, ha⟩ := dp_g da3
  obtain ⟨pb, rfl, hb'⟩ := dp_g db3
  obtain ⟨_, _, _, st3⟩ := S3.stm
  walk_at "z"
  refine z_if (fun _ => ?_) (fun _ => ?_)
  · walk_at "z"
    exact q _ za H3 da3 (ba.le (by omega)) S3 k3
  walk_at "z"
  have b1 := ba.1
  have b2 := ba.2
  have b3 := bb.1
  have b4 := bb.2
  refine z_if (fun _ => ?_) (fun _ => ?_)
  · walk_at "z"
    refine z_I (wide_div (b := 2) (by decide) (by decide) (by decide) (by decide)) ?_
    walk_at "z"
    refine z_I (wide_div (b := 2) (by decide) (by decide) (by decide) (by decide)) ?_
    walk_at "z"
    intro p9 H9 _ s9 h9
    exact q _ _ H9 (dp_mkg h9) ⟨by show (_ / 2 : Int).natAbs ≤ _; omega, by show (_ / 2 : Int).natAbs ≤ _; omega⟩ (S3.mono s9) (k3.trans' (kp_of s9))
  walk_at "z"
  refine z_if (fun _ => ?_) (fun _ => ?_)
  · walk_at "z"
    intro p9 H9 _ s9 h9
    exact q _ _ H9 (dp_mkg h9) ⟨by show (za.1).natAbs ≤ _; omega, by show (zb.2).natAbs ≤ _; omega⟩ (S3.mono s9) (k3.trans' (kp_of s9))
  walk_at "z"
  refine z_if (fun _ => ?_) (fun _ => ?_)
  · walk_at "z"
    refine nx S3 (by decide) (lt1000 (by decide)) fun d H4 _ _ S4 e4 => ?_
    have ha4 := seqT_kp (kp_eq e4) st3 ha
    walk_at "z"
    intro p9 H9 _ s9 h9
    exact q _ _ H9 (dp_mkg h9) ⟨by show (za.1 + d - 32).natAbs ≤ _; omega, by show (za.2).natAbs ≤ _; omega⟩ (S4.mono s9) ((k3.trans' (kp_eq e4)).trans' (kp_of s9))
  walk_at "z"
  refine z_if (fun _ => ?_) (fun _ => ?_)
  · walk_at "z"
    refine nx S3 (by decide) (lt1000 (by decide)) fun d H4 _ _ S4 e4 => ?_
    have ha4 := seqT_kp (kp_eq e4) st3 ha
    walk_at "z"
    refine nx S4 (by decide) (lt1000 (by decide)) fun d' H5 _ _ S5 e5 => ?_
    walk_at "z"
    intro p9 H9 _ s9 h9
    exact q _ _ H9 (dp_mkg h9) ⟨by show (za.1 + d - 2).natAbs ≤ _; omega, by show (za.2 + d' - 2).natAbs ≤ _; omega⟩ (S5.mono s9) (((k3.trans' (kp_eq e4)).trans' (kp_eq e5)).trans' (kp_of s9))
  walk_at "z"
  refine nx S3 (by decide) (lt1000 (by decide)) fun d H4 _ _ S4 e4 => ?_
  walk_at "z"
  refine nx S4 (by decide) (lt1000 (by decide)) fun d' H5 _ _ S5 e5 => ?_
  walk_at "z"
  intro p9 H9 _ s9 h9
  exact q _ _ H9 (dp_mkg h9) ⟨by show (d - 1000).natAbs ≤ _; omega, by show (d' - 1500).natAbs ≤ _; omega⟩ (S5.mono s9) (((k3.trans' (kp_eq e4)).trans' (kp_eq e5)).trans' (kp_of s9))
end
/-- all but p -/
def hide (p : Addr) (H : Hp) : Hp := fun b => if b = p then none else H b
theorem same_hide {p : Addr} {H : Hp} : Same (hide p H) H := fun b o e => by
  unfold hide at e
  split at e
  · cases e
  · exact e
theorem hide_at {p b : Addr} {H : Hp} (h : b ≠ p) : hide p H b = H b := if_neg h
theorem Sd.hid {H0 H : Hp} {p : Addr} (S : Sd H0 H p) : Sd (hide p H) H p := ⟨same_hide, if_pos rfl, S.stm⟩
/-! ### crossings -/
def left (a b : GP) (x y : Int) : Prop := (b.1 - a.1) * (y - a.2) ≤ (x - a.1) * (b.2 - a.2)
instance {a b : GP} {x y : Int} : Decidable (left a b x y) := by unfold left; infer_instance
def crs (a b : GP) (x y : Int) : Int := if a.2 ≤ y ∧ y < b.2 ∧ left a b x y then -1 else if b.2 ≤ y ∧ y < a.2 ∧ left b a x y then 1 else 0
/-- a grid point within 10 ^ 13 -/
abbrev Gm (z : GP) : Prop := Gb 10000000000000 z
theorem gm_sub {a b : Int} (h : a.natAbs ≤ 10000000000000) (k : b.natAbs ≤ 10000000000000) : (a - b).natAbs < 2 ^ 60 := Nat.lt_of_le_of_lt (show (a - b).natAbs ≤ 20000000000000 by omega) (by decide)
theorem gm_mul {a b : Int} (h : a.natAbs < 2 ^ 60) (k : b.natAbs < 2 ^ 60) : CMulW a b := wide_mul h k (by decide) (by decide) (by decide)

theorem nep' {Ha Hb : Hp} {p q : Addr} (h : Hb q = none) (S : Sd Ha Hb p) : q ≠ p := fun z => by
  obtain ⟨_, _, _, e⟩ := S.stm
  rw [← z, h] at e
  cases e
theorem shaped_g (z : GP) : SeqAt.shaped (gD z) = true := rfl
theorem dp_gs {K : PySem.W.Frag} {H : Hp} {p : Addr} {ws : List V} {zs : List GP} (h : H p = some (.lst ws)) (g : Gs K H ws zs) : Dp K H (.ref p) (.list (zs.map gD)) := .lst (.inl (.inl h)) g.data
theorem shaped_gs (zs : List GP) : SeqAt.shaped (.list (zs.map gD)) = true := by
  have h1 : PyData.canLayAll0 (zs.map gD) = true := by
    induction zs with
    | nil => rfl
    | cons z zs ih =>
      show (PyData.canLay0 (gD z) && PyData.canLayAll0 (zs.map gD)) = true
      rw [ih]
      rfl
  have h2 : PyData.depthAll (zs.map gD) ≤ 1 := by
    induction zs with
    | nil => exact Nat.zero_le 1
    | cons z zs ih =>
      have h1' : PyData.canLayAll0 (zs.map gD) = true := by
        have h1 : (PyData.canLay0 (gD z) && PyData.canLayAll0 (zs.map gD)) = true := h1
        exact ((Bool.and_eq_true _ _).mp h1).2
      have := ih h1'
      show max (PyData.depth (gD z)) (PyData.depthAll (zs.map gD)) ≤ 1
      have e : PyData.depth (gD z) = 1 := rfl
      omega
  unfold SeqAt.shaped
  rw [Bool.and_eq_true]
  refine ⟨h1, decide_eq_true ?_⟩
  show PyData.depthAll (zs.map gD) + 1 ≤ 64
  omega
/-! ### winding numbers -/
/-- the sum over the first i lines -/
def psum (f : GP → GP → Int) (zs : List GP) : Nat → Int
  | 0 => 0
  | i + 1 => psum f zs i + (match zs[i]?, zs[i + 1]? with | some a, some b => f a b | _, _ => 0)
theorem psum_s {f : GP → GP → Int} {zs : List GP} {i : Nat} {a b : GP} (ha : zs[i]? = some a) (hb : zs[i + 1]? = some b) : psum f zs (i + 1) = psum f zs i + f a b := by
  show psum f zs i + _ = _
  rw [ha, hb]
def wn (zs : List GP) (x y : Int) : Int := psum (fun a b => crs a b x y) zs (zs.length - 1)

/-! ### sums along a list of points -/
def wlh (f : GP → GP → Int) : GP → List GP → Int
  | _, [] => 0
  | a, b :: r => f a b + wlh f b r
def wl (f : GP → GP → Int) : List GP → Int
  | [] => 0
  | a :: r => wlh f a r
theorem wlh_app (f : GP → GP → Int) : ∀ (xs : List GP) (x p : GP) (B : List GP), wlh f x (xs ++ p :: B) = wlh f x (xs ++ [p]) + wlh f p B
  | [], x, p, B => by
    show f x p + wlh f p B = f x p + 0 + wlh f p B
    omega
  | y :: xs, x, p, B => by
    show f x y + wlh f y (xs ++ p :: B) = f x y + wlh f y (xs ++ [p]) + _
    rw [wlh_app f xs y p B]
    omega
theorem wl_app (f : GP → GP → Int) (A : List GP) (p : GP) (B : List GP) : wl f (A ++ p :: B) = wl f (A ++ [p]) + wl f (p :: B) := by
  cases A with
  | nil =>
    show wlh f p B = 0 + wlh f p B
    omega
  | cons a A => exact wlh_app f A a p B
theorem wl_two (f : GP → GP → Int) (p q : GP) (B : List GP) : wl f (p :: q :: B) = f p q + wl f (q :: B) := rfl
theorem take_at {zs : List GP} {i : Nat} {z : GP} (h : zs[i]? = some z) : zs.take (i + 1) = zs.take i ++ [z] := by
  rw [List.take_add_one, h]
  rfl
theorem drop_at {zs : List GP} {i : Nat} {z : GP} (h : zs[i]? = some z) : zs.drop i = z :: zs.drop (i + 1) := by
  obtain ⟨hi, e⟩ := List.getElem?_eq_some_iff.mp h
  rw [List.drop_eq_getElem_cons hi, e]
theorem psum_take (f : GP → GP → Int) {zs : List GP} : ∀ i, i < zs.length → psum f zs i = wl f (zs.take (i + 1))
  | 0, h => by
    have h0 : zs[0]? = some (zs[0]'h) := List.getElem?_eq_getElem h
    rw [take_at h0]
    rfl
  | i + 1, h => by
    have h0 : zs[i]? = some (zs[i]'(by omega)) := List.getElem?_eq_getElem _
    have h1 : zs[i + 1]? = some (zs[i + 1]'h) := List.getElem?_eq_getElem h
    rw [psum_s h0 h1, psum_take f i (by omega), take_at h1, take_at h0, List.append_assoc]
    show _ = wl f (zs.take i ++ zs[i] :: [zs[i + 1]])
    rw [wl_app f (zs.take i) _ [_], wl_two]
    show _ = _ + (_ + 0)
    omega
theorem psum_wl (f : GP → GP → Int) {zs : List GP} (h : 0 < zs.length) : psum f zs (zs.length - 1) = wl f zs := by
  rw [psum_take f _ (by omega), Nat.sub_add_cancel h, List.take_length]
theorem wlh_rev (f : GP → GP → Int) (hf : ∀ a b, f b a = - f a b) : ∀ (r : List GP) (a : GP), wl f ((a :: r).reverse) = - wlh f a r
  | [], a => rfl
  | b :: r, a => by
    rw [List.reverse_cons, List.reverse_cons, List.append_assoc]
    show wl f (r.reverse ++ b :: [a]) = _
    rw [wl_app f r.reverse b [a], ← List.reverse_cons, wlh_rev f hf r b, wl_two, hf]
    show - wlh f b r + (- f a b + 0) = - (f a b + wlh f b r)
    omega
theorem wl_rev (f : GP → GP → Int) (hf : ∀ a b, f b a = - f a b) (zs : List GP) : wl f zs.reverse = - wl f zs := by
  cases zs with
  | nil => rfl
  | cons a r => exact wlh_rev f hf r a
theorem wl_grow (f : GP → GP → Int) {zs : List GP} {i : Nat} {p q : GP} (m : GP) (hp : zs[i]? = some p) (hq : zs[i + 1]? = some q) :
    wl f (zs.take (i + 1) ++ [m] ++ zs.drop (i + 1)) = wl f zs + (f p m + f m q - f p q) := by
  have e : wl f zs = wl f (zs.take i ++ [p]) + wl f (p :: q :: zs.drop (i + 2)) := by
    rw [← wl_app, ← drop_at hq, ← drop_at hp, List.take_append_drop]
  rw [take_at hp, drop_at hq, e, List.append_assoc, List.append_assoc]
  show wl f (zs.take i ++ p :: m :: q :: zs.drop (i + 2)) = _
  rw [wl_app f (zs.take i) p (m :: q :: _), wl_two, wl_two, wl_two]
  omega
theorem wl_part (f : GP → GP → Int) (hf : ∀ a b, f b a = - f a b) {zs : List GP} {j k : Nat} {p q : GP} (hjk : j ≤ k) (hp : zs[j]? = some p) (hq : zs[k]? = some q) :
    wl f ((zs.drop j).take (k + 1 - j) ++ [p]) + wl f (zs.take (j + 1) ++ zs.drop k) = wl f zs := by
  have hD : (zs.drop j)[k - j]? = some q := by
    rw [List.getElem?_drop, show j + (k - j) = k by omega]
    exact hq
  have e : wl f zs = wl f (zs.take j ++ [p]) + wl f (zs.drop j) := by
    have := wl_app f (zs.take j) p (zs.drop (j + 1))
    rwa [← drop_at hp, List.take_append_drop] at this
  have e2 : wl f (zs.drop j) = wl f ((zs.drop j).take (k - j) ++ [q]) + wl f (zs.drop k) := by
    have := wl_app f ((zs.drop j).take (k - j)) q ((zs.drop j).drop (k - j + 1))
    rw [← drop_at hD, List.take_append_drop] at this
    rw [this, List.drop_drop, show j + (k - j) = k by omega]
  rw [show k + 1 - j = k - j + 1 by omega, take_at hD, take_at hp, drop_at hq, List.append_assoc]
  show wl f ((zs.drop j).take (k - j) ++ q :: [p]) + wl f (zs.take j ++ p :: []  ++ q :: zs.drop (k + 1)) = _
  rw [List.append_assoc]
  show _ + wl f (zs.take j ++ p :: q :: zs.drop (k + 1)) = _
  rw [wl_app f _ q [p], wl_app f (zs.take j) p (q :: _), wl_two, wl_two, hf p q, e, e2, ← drop_at hq]
  show _ + (_ + 0) + _ = _
  omega
section
variable {K : PySem.W.Frag} {H : Hp}
theorem Gs.take : ∀ {vs : List V} {zs : List GP} (n : Nat), Gs K H vs zs → Gs K H (vs.take n) (zs.take n)
  | _, _, 0, _ => trivial
  | [], [], _ + 1, _ => trivial
  | _ :: _, _ :: _, n + 1, h => ⟨h.1, Gs.take n h.2⟩
theorem Gs.drop : ∀ {vs : List V} {zs : List GP} (n : Nat), Gs K H vs zs → Gs K H (vs.drop n) (zs.drop n)
  | _, _, 0, h => h
  | [], [], _ + 1, _ => trivial
  | _ :: _, _ :: _, n + 1, h => Gs.drop n h.2
theorem Gs.rev : ∀ {vs : List V} {zs : List GP}, Gs K H vs zs → Gs K H vs.reverse zs.reverse
  | [], [], _ => trivial
  | _ :: _, _ :: _, h => by
    rw [List.reverse_cons, List.reverse_cons]
    exact (Gs.rev h.2).app (gs_one h.1)
end
theorem cut_to {xs : List V} {k : Nat} (h : k ≤ xs.length) : cutV xs none (some (k : Int)) = xs.take k := by
  unfold cutV
  rw [HT.sIx_nat, HT.sIx_none, Nat.min_eq_left h]
  rfl
theorem cut_from {xs : List V} {k : Nat} (h : k ≤ xs.length) : cutV xs (some (k : Int)) none = xs.drop k := by
  unfold cutV
  rw [HT.sIx_nat, HT.sIx_none, Nat.min_eq_left h, List.take_of_length_le (by rw [List.length_drop]; omega)]
theorem cut_mid {xs : List V} {j k : Nat} (hj : j ≤ xs.length) (h : k ≤ xs.length) : cutV xs (some (j : Int)) (some (k : Int)) = (xs.drop j).take (k - j) := by
  unfold cutV
  rw [HT.sIx_nat, HT.sIx_nat, Nat.min_eq_left h, Nat.min_eq_left hj]
/-- twice the area beside one line -/
def crp (a b : GP) : Int := a.1 * b.2 - a.2 * b.1
def crc (c a b : GP) : Int := (a.1 - c.1) * (b.2 - c.2) - (a.2 - c.2) * (b.1 - c.1)
theorem crc_eq (c a b : GP) : crc c a b = crp a b + (crp c a - crp c b) := by
  unfold crc crp
  grind
theorem crp_anti (a b : GP) : crp b a = - crp a b := by
  unfold crp
  grind
theorem crc_psum {zs : List GP} (c : GP) : ∀ (i : Nat) (z0 zi : GP), zs[0]? = some z0 → zs[i]? = some zi → psum (crc c) zs i = psum crp zs i + (crp c z0 - crp c zi)
  | 0, z0, zi, h0, h => by
    rw [h0] at h
    cases h
    show (0 : Int) = 0 + _
    omega
  | i + 1, z0, zi, h0, h => by
    have hi : i < zs.length := by
      have := (List.getElem?_eq_some_iff.mp h).1
      omega
    obtain ⟨za, hza⟩ : ∃ za, zs[i]? = some za := ⟨_, List.getElem?_eq_getElem hi⟩
    rw [psum_s hza h, psum_s hza h, crc_psum c i z0 za h0 hza, crc_eq]
    omega
theorem crc_wl {zs : List GP} {n : Nat} (D : Drawn zs n) (c : GP) : psum (crc c) zs n = psum crp zs (zs.length - 1) := by
  obtain ⟨hl, _, hcl⟩ := D
  obtain ⟨z0, hz⟩ : ∃ z, zs[0]? = some z := ⟨_, List.getElem?_eq_getElem (by omega)⟩
  rw [crc_psum c n z0 z0 hz (hcl.trans hz), hl, Nat.add_sub_cancel]
  omega
theorem gm60 {a : Int} (h : a.natAbs ≤ 10000000000000) : a.natAbs < 2 ^ 60 := Nat.lt_of_le_of_lt h (by decide)
def sp_double_area (K : PySem.W.Frag) : Sp := fun vs H Q _ => ∃ (o : Addr) (ws : List V) (zs : List GP), vs = [.ref o] ∧ H o = some (.lst ws) ∧ Gs K H ws zs ∧ (∀ z ∈ zs, Gm z) ∧ ∀ H', Same H H' → Q (.int (psum crp zs (zs.length - 1))) H'
section
theorem ok_double_area {P : Program} {w : World} {K : PySem.W.Frag} {mg : Str → Option Value} {base : Heap} {A : Nat → Addr} {D : Nat → FuncData} (T : Txt K mg A D) : FnOk P w K mg base (L2.CX P w) 2 (A 1) (D 1) ["outline"] (sp_double_area K) := by
  refine T.F_double_area.okX sc_double_area (fun vs H Q E h => ?_) (fun cdv A' outer s H vs Q E hr h => ?_)
  · obtain ⟨o, ws, zs, rfl, _⟩ := h
    rfl
  obtain ⟨o, ws, zs, rfl, ho, g, hb, q⟩ := h
  refine ⟨_, (pss_cons (ps_set (i := 1) sc_double_area.nd rfl (.inl rfl) pe_int)
  (pss_cons (Gl.ps_forG (gt_lines T) hr rfl (by rfl) T.m_lines T.F_lines.kp T.b_lines (pa_cons (pv 0) pa_nil) (pg_tup (by rfl) (pgs_cons (pg_name (i := 2) sc_double_area.nd rfl (.inl rfl)) (pgs_cons (pg_name (i := 3) sc_double_area.nd rfl (.inl rfl)) pgs_nil)))
  (pss_one (ps_aug (i := 1) sc_double_area.nd rfl (.inl rfl) (pe_op op_sub (pe_op op_mulW (pe_ix ix_tup (pv 2) pe_int (fun _ _ => rfl)) (pe_ix ix_tup (pv 3) pe_int (fun _ _ => rfl))) (pe_op op_mulW (pe_ix ix_tup (pv 2) pe_int (fun _ _ => rfl)) (pe_ix ix_tup (pv 3) pe_int (fun _ _ => rfl)))) ip_add)))
  (pss_one (ps_ret (pv 1))))), ?_⟩
  walk_at "z"
  refine ⟨_, rfl, o, ws, rfl, ho, fun i σ' H' => Same H H' ∧ ∃ u1 u2, σ' = [some (.ref o), some (.int (psum crp zs i)), u1, u2], ⟨fun _ _ e => e, _, _, rfl⟩, fun i σ' H' ⟨s, _⟩ => s _ _ ho, ?_, ?_⟩
  · rintro i u v σ' H' p hu hv ⟨s, u1, u2, rfl⟩ hp
    obtain ⟨za, hza, da⟩ := (g.mono s).getv hu
    obtain ⟨zb, hzb, db⟩ := (g.mono s).getv hv
    have sn : Same H' (upd H' p (.tup [u, v])) := same_upd hp
    have hpt : upd H' p (HO.tup [u, v]) p = some (.tup [u, v]) := upd_same
    have ps := psum_s (f := crp) hza hzb
    have ga := hb za (List.mem_of_getElem? hza)
    have gb := hb zb (List.mem_of_getElem? hzb)
    generalize upd H' p (HO.tup [u, v]) = H2 at *
    obtain ⟨pa, rfl, ha⟩ := dp_g (dp_mono sn da)
    obtain ⟨pb, rfl, hpb⟩ := dp_g (dp_mono sn db)
    refine z_gT (.inl (.inl hpt)) rfl ?_
    walk_at "z"
    refine z_aug rfl ?_
    walk_at "z"
    refine z_I (gm_mul (gm60 ga.1) (gm60 gb.2)) ?_
    walk_at "z"
    refine z_I (gm_mul (gm60 ga.2) (gm60 gb.1)) ?_
    walk_at "z"
    refine z_ipI ?_
    walk_at "z"
    exact ⟨s.trans sn, _, _, by rw [ps]; rfl⟩
  · rintro σ' H' ⟨s, u1, u2, rfl⟩
    walk_at "z"
    rw [show ws.length - 1 = zs.length - 1 by rw [g.len]]
    exact q H' s
end
def sp_law (K : PySem.W.Frag) : Sp := fun vs H Q _ => ∃ (a : Addr) (ns : List Int), vs = [.ref a] ∧ SqL K H a (ns.map V.int) ∧ ns.length ≤ 63 ∧ ∀ H', Q (.bl true) H'
section
theorem ok_law {P : Program} {w : World} {K : PySem.W.Frag} {mg : Str → Option Value} {base : Heap} {A : Nat → Addr} {D : Nat → FuncData} (T : Txt K mg A D) : FnOk P w K mg base CX0 4 (A 9) (D 9) ["script"] (sp_law K) := by
  refine T.F_law.ok sc_law (fun vs H Q E h => ?_) (fun cdv A' outer s H vs Q E hr h => ?_)
  · obtain ⟨l, ns, rfl, _⟩ := h
    rfl
  obtain ⟨l, ns, rfl, hS, _, q⟩ := h
  refine ⟨_, (pss_cons (ps_set (i := 1) sc_law.nd rfl (.inl rfl) (pe_call (ok__law_stream T) (hr.mono (by decide)) (by rfl) T.m__law_stream T.F__law_stream.kp T.b__law_stream .nil passL (pa_cons (pe_call (ok__law_cell T) (hr.mono (by decide)) (by rfl) T.m__law_cell T.F__law_cell.kp T.b__law_cell .nil passL (pa_cons (pv 0) (pa_cons pe_int pa_nil))) pa_nil)))
  (pss_cons (ps_set (i := 2) sc_law.nd rfl (.inl rfl) (pe_op op_add (pe_call (ok__law_next T) (hr.mono (by decide)) (by rfl) T.m__law_next T.F__law_next.kp T.b__law_next .nil passL (pa_cons (pv 1) (pa_cons pe_int pa_nil))) pe_int))
  (Evl.pss_cut (ps_if (pt_cmpR op_eq (pe_call (ok__law_next T) (hr.mono (by decide)) (by rfl) T.m__law_next T.F__law_next.kp T.b__law_next .nil passL (pa_cons (pv 1) (pa_cons pe_int pa_nil))) pe_int (nomark _))
  (pss_one (ps_set (i := 2) sc_law.nd rfl (.inl rfl) (pe_op op_add (pe_call (ok__law_next T) (hr.mono (by decide)) (by rfl) T.m__law_next T.F__law_next.kp T.b__law_next .nil passL (pa_cons (pv 1) (pa_cons pe_int pa_nil))) pe_int)))
  pss_nil)
  (pss_cons (ps_set (i := 3) sc_law.nd rfl (.inl rfl) (pe_call (ok__law_outline T) (hr.mono (by decide)) (by rfl) T.m__law_outline T.F__law_outline.kp T.b__law_outline .nil passL (pa_cons (pv 1) (pa_cons (pv 2) (pa_cons pe_int pa_nil)))))
  (pss_cons (ps_set (i := 4) sc_law.nd rfl (.inl rfl) (pe_call (ok__law_near T) (hr.mono (by decide)) (by rfl) T.m__law_near T.F__law_near.kp T.b__law_near .nil passL (pa_cons (pe_call (ok__law_stream T) (hr.mono (by decide)) (by rfl) T.m__law_stream T.F__law_stream.kp T.b__law_stream .nil passL (pa_cons (pe_call (ok__law_cell T) (hr.mono (by decide)) (by rfl) T.m__law_cell T.F__law_cell.kp T.b__law_cell .nil passL (pa_cons (pv 0) (pa_cons pe_int pa_nil))) pa_nil)) (pa_cons (pv 3) pa_nil))))
  (pss_cons (ps_set (i := 5) sc_law.nd rfl (.inl rfl) pe_int)
  (pss_cons (ps_for PassesOwn.never rfl (pi_range1 (by rfl) T.z_range (pa_cons (pv 2) pa_nil)) (pg_name (i := 6) sc_law.nd rfl (.inl rfl))
  (pss_cons (ps_set (i := 7) sc_law.nd rfl (.inl rfl) (pe_ix ix_list (pv 3) (pv 6) (fun _ _ => rfl)))
  (pss_cons (ps_set (i := 8) sc_law.nd rfl (.inl rfl) (pe_ix ix_list (pv 3) (pe_op op_add (pv 6) pe_int) (fun _ _ => rfl)))
  (pss_one (ps_set (i := 5) sc_law.nd rfl (.inl rfl) (pe_op op_sub (pe_op op_add (pv 5) (pe_op op_mulW (pe_op op_sub (pe_ix ix_tup (pv 7) pe_int (fun _ _ => rfl)) (pe_ix ix_tup (pv 4) pe_int (fun _ _ => rfl))) (pe_op op_sub (pe_ix ix_tup (pv 8) pe_int (fun _ _ => rfl)) (pe_ix ix_tup (pv 4) pe_int (fun _ _ => rfl))))) (pe_op op_mulW (pe_op op_sub (pe_ix ix_tup (pv 7) pe_int (fun _ _ => rfl)) (pe_ix ix_tup (pv 4) pe_int (fun _ _ => rfl))) (pe_op op_sub (pe_ix ix_tup (pv 8) pe_int (fun _ _ => rfl)) (pe_ix ix_tup (pv 4) pe_int (fun _ _ => rfl))))))))))
  (pss_cons (ps_set (i := 9) sc_law.nd rfl (.inl rfl) (pe_call (ok_double_area T) (hr.mono (by decide)) (by rfl) T.m_double_area T.F_double_area.kp T.b_double_area .nil passL (pa_cons (pe_callTy Z.c_listOf (by rfl) T.z_list (by decide +kernel) (pa_cons (pv 3) pa_nil)) pa_nil)))
  (pss_cons (ps_if (PW.pt (pw_or (pt_not (pt_val (pe_call (ok__law_is_integer T) (hr.mono (by decide)) (by rfl) T.m__law_is_integer T.F__law_is_integer.kp T.b__law_is_integer .nil passL (pa_cons (pv 9) pa_nil)))) (pw_or1 (pt_cmpR op_ne (pv 9) (pv 5) (nomark _)))))
  (pss_one (ps_ret pe_bl))
  pss_nil)
  (pss_cons (ps_set (i := 9) sc_law.nd rfl (.inl rfl) (pe_call (ok_double_area T) (hr.mono (by decide)) (by rfl) T.m_double_area T.F_double_area.kp T.b_double_area .nil passL (pa_cons (pe_revL (pv 3)) pa_nil)))
  (pss_cons (ps_if (PW.pt (pw_or (pt_not (pt_val (pe_call (ok__law_is_integer T) (hr.mono (by decide)) (by rfl) T.m__law_is_integer T.F__law_is_integer.kp T.b__law_is_integer .nil passL (pa_cons (pv 9) pa_nil)))) (pw_or1 (pt_cmpR op_ne (pv 9) (pe_op op_sub pe_int (pv 5)) (nomark _)))))
  (pss_one (ps_ret pe_bl))
  pss_nil)
  (pss_cons (ps_if (PW.pt (pw_or (pt_cmpR (op_neD hr.units) (Gl.pe_listF (k := 0) (gt_lines T) (hr.mono (by omega)) (by rfl) T.m_lines T.F_lines.kp T.b_lines (by rfl) T.z_list (by decide +kernel) (pa_cons (pe_lst (pa_cons (pv 4) pa_nil)) pa_nil)) (pe_lst pa_nil) (nomark _)) (pw_or1 (pt_cmpR op_ne (pe_call (ok_double_area T) (hr.mono (by decide)) (by rfl) T.m_double_area T.F_double_area.kp T.b_double_area .nil passL (pa_cons (pe_lst (pa_cons (pv 4) pa_nil)) pa_nil)) pe_int (nomark _)))))
  (pss_one (ps_ret pe_bl))
  pss_nil)
  (pss_cons (ps_set (i := 6) sc_law.nd rfl (.inl rfl) pe_int)
  (pss_cons (Gl.ps_forG (gt_lines T) hr rfl (by rfl) T.m_lines T.F_lines.kp T.b_lines (pa_cons (pe_callTy Z.c_listOf (by rfl) T.z_list (by decide +kernel) (pa_cons (pv 3) pa_nil)) pa_nil) (pg_name (i := 10) sc_law.nd rfl (.inl rfl))
  (pss_cons (ps_if (PW.pt (pw_or (pt_not (pt_val (pe_callB call_isi (by rfl) T.z_isinstance (by decide +kernel) (pa_cons (pv 10) (pa_cons (pe_bltn (v := .ty "tuple") (by rfl) T.z_tuple (by decide +kernel) rfl) pa_nil))))) (pw_or (pt_cmpR op_ge (pv 6) (pv 2) (nomark _)) (pw_or1 (pt_cmpR (op_neD hr.units) (pv 10) (pe_tup (pa_cons (pe_ix ix_list (pv 3) (pv 6) (fun _ _ => rfl)) (pa_cons (pe_ix ix_list (pv 3) (pe_op op_add (pv 6) pe_int) (fun _ _ => rfl)) pa_nil))) (nomark _))))))
  (pss_one (ps_ret pe_bl))
  pss_nil)
  (pss_one (ps_set (i := 6) sc_law.nd rfl (.inl rfl) (pe_op op_add (pv 6) pe_int)))))
  (pss_one (ps_ret (pe_cmpR op_eq (pv 6) (pv 2) (nomark _)))))))))))))))))), ?_⟩
  walk_at "z"
  refine ⟨l, ns, 0, rfl, hS, fun v => ?_⟩
  walk_at "z"
  refine ⟨v, rfl, fun p H1 i1 j1 m hp s1 h1 => ?_⟩
  have S1 := Sd.mk0 hp s1 h1
  walk_at "z"
  refine nx S1 (by decide) (lt1000 (by decide)) fun c H2 c0 c1 S2 e2 => ?_
  walk_at "z"
  refine z_cut (fun σ' H' => ∃ n : Nat, σ' = [some (.ref l), some (.ref p), some (.int (n : Int)), none, none, none, none, none, none, none, none] ∧ 1 ≤ n ∧ n ≤ 40 ∧ Sd H H' p) ?_ ?_
  · walk_at "z"
    refine nx S2 (by decide) (lt1000 (by decide)) fun d H3 _ _ S3 e3 => ?_
    walk_at "z"
    refine z_if (fun _ => ?_) (fun _ => ?_)
    · walk_at "z"
      refine nx S3 (by decide) (lt1000 (by decide)) fun d' H4 _ _ S4 e4 => ?_
      walk_at "z"
      exact ⟨(d' + 1).toNat, by rw [show (((d' + 1).toNat : Nat) : Int) = d' + 1 by omega]; rfl, by omega, by omega, S4⟩
    · walk_at "z"
      exact ⟨(c + 1).toNat, by rw [show (((c + 1).toNat : Nat) : Int) = c + 1 by omega]; rfl, by omega, by omega, S3⟩
  clear S2 S1 e2 h1 s1 c0 c1
  rintro σ' H2 ⟨n, rfl, n1, n40, S2⟩
  walk_at "z"
  refine ⟨p, H, n, 5, rfl, S2, n1, by omega, by decide, by decide, fun o ws zs H3 f3 ho g D S3 k3 => ?_⟩
  have ln := D.1
  have lw : ws.length = n + 1 := by rw [g.len, ln]
  walk_at "z"
  refine ⟨l, ns, 1, rfl, S3.same.seq hS, fun v => ?_⟩
  walk_at "z"
  refine ⟨v, rfl, fun p5 H4 i5 j5 m5 hp5 s4 h4 => ?_⟩
  have S4 := Sd.mk0 hp5 s4 h4
  walk_at "z"
  refine ⟨p5, o, H3, ws, zs, 500000000000, rfl, S4, ho, g.mono s4, D.2.1, by decide, by omega, by omega, fun vc cz H5 dc gc S5 k5 => ?_⟩
  have ho5 := S5.same _ _ ho
  have g5 := g.mono S5.same
  have gm : ∀ z ∈ zs, Gm z := fun z hz => (D.2.1 z hz).le (by decide)
  have gcz : Gm cz := gc.le (by decide)
  clear S5 k5 S4 h4 s4 g ho S3 k3 S2 hS f3
  obtain ⟨pc, rfl, hc⟩ := dp_g dc
  walk_at "z"
  refine z_forR1 n (by omega) (fun R q => by walk_at "z"; exact q) (fun i σ' H' => H' = H5 ∧ ∃ u1 u2 u3, σ' = [some (.ref l), some (.ref p), some (.int (n : Int)), some (.ref o), some (.ref pc), some (.int (psum (crc cz) zs i)), u1, u2, u3, none, none]) ⟨rfl, _, _, _, rfl⟩ ?_ ?_
  · rintro i σ' H8 hi ⟨rfl, u1, u2, u3, rfl⟩
    obtain ⟨za, hza⟩ : ∃ z, zs[i]? = some z := ⟨_, List.getElem?_eq_getElem (show i < zs.length by omega)⟩
    obtain ⟨zb, hzb⟩ : ∃ z, zs[i + 1]? = some z := ⟨_, List.getElem?_eq_getElem (show i + 1 < zs.length by omega)⟩
    obtain ⟨va, hva, da⟩ := g5.get hza
    obtain ⟨vb, hvb, db⟩ := g5.get hzb
    have ga := gm za (List.mem_of_getElem? hza)
    have gb := gm zb (List.mem_of_getElem? hzb)
    have ps := psum_s (f := crc cz) hza hzb
    obtain ⟨pa, rfl, ha⟩ := dp_g da
    obtain ⟨pb, rfl, hb⟩ := dp_g db
    walk_at "z"
    refine z_ixL (.inl (.inl ho5)) (nat_idx hva) ?_
    walk_at "z"
    refine z_ixL (.inl (.inl ho5)) (show atI ws ((i : Int) + 1) = _ from nat_idx hvb) ?_
    walk_at "z"
    refine z_I (gm_mul (gm_sub ga.1 gcz.1) (gm_sub gb.2 gcz.2)) ?_
    walk_at "z"
    refine z_I (gm_mul (gm_sub ga.2 gcz.2) (gm_sub gb.1 gcz.1)) ?_
    walk_at "z"
    exact ⟨rfl, _, _, _, by rw [ps]; unfold crc; rw [← Int.add_sub_assoc]; rfl⟩
  · rintro σ' H8 ⟨rfl, u1, u2, u3, rfl⟩
    rw [crc_wl D cz]
    generalize hE : psum crp zs (zs.length - 1) = E
    walk_at "z"
    refine z_listOf (.inl (.inl ho5)) fun o2 H9 f9 s9 ho9 => ?_
    walk_at "z"
    refine ⟨o2, ws, zs, rfl, ho9, g5.mono s9, gm, fun H10 s10 => ?_⟩
    rw [hE]
    have s80 := s9.trans s10
    walk_at "z"
    refine z_if (fun c => absurd rfl c) (fun _ => ?_)
    walk_at "z"
    refine z_revL ?_
    walk_at "z"
    refine z_revE (.inl (.inl (s80 _ _ ho5))) fun p23 H11 f11 s11 h11 => ?_
    have s81 := s80.trans s11
    walk_at "z"
    refine ⟨p23, _, zs.reverse, rfl, h11, (g5.mono s81).rev, fun x hx => gm x (List.mem_reverse.mp hx), fun H12 s12 => ?_⟩
    have wr := wl_rev crp crp_anti zs
    rw [← psum_wl crp (by rw [List.length_reverse]; omega), ← psum_wl crp (by omega), hE] at wr
    rw [wr]
    have s82 := s81.trans s12
    walk_at "z"
    refine z_if (fun c => absurd (show (-E : Int) = 0 - E by omega) c) (fun _ => ?_)
    walk_at "z"
    unfold Gl.tListF
    walk_at "z"
    intro p30 H13 f13 s13 h13
    have s83 := s82.trans s13
    have dc83 := dp_mono s83 dc
    walk_at "z"
    refine ⟨p30, [.ref pc], rfl, h13, Nat.le_of_ble_eq_true rfl, fun pS H14 ws14 f14 h14 l14 _ s14 => ?_⟩
    have e14 : ws14 = [] := List.length_eq_zero_iff.mp l14
    subst e14
    have s84 := s83.trans s14
    walk_at "z"
    intro p15 H15 f15 s15 h15
    refine z_neSame (d := .list []) (.lst (.inl (.inl (s15 _ _ h14))) .nil) (.lst (.inl (.inl h15)) .nil) (by decide) ?_
    have s85 := s84.trans s15
    walk_at "z"
    intro p16 H16 f16 s16 h16
    have s86 := s85.trans s16
    walk_at "z"
    refine ⟨p16, [.ref pc], [cz], rfl, h16, gs_one (dp_mono s86 dc), fun x hx => by rw [List.mem_singleton.mp hx]; exact gcz, fun H17 s17 => ?_⟩
    have s87 := s86.trans s17
    have ho17 := s87 _ _ ho5
    have g17 := g5.mono s87
    walk_at "z"
    clear s87 s17 h16 s16 f16 s86 s85 h15 s15 f15 s84 h14 l14 s14 f14 dc83 s83 h13 s13 f13 s82 wr s12 s81 h11 s11 f11 s80 s10 ho9 s9 f9 hE
    unfold Gl.tForG
    walk_at "z"
    refine z_listOf (.inl (.inl ho17)) fun o3 H18 f18 s18 ho18 => ?_
    have g18 := g17.mono s18
    have hol := s18 _ _ ho17
    clear ho17 g17 s18 f18
    walk_at "z"
    refine ⟨o3, ws, rfl, ho18, fun i σ' H' => Same H18 H' ∧ ∃ u1 u3 u4 u5 u6, σ' = [some (.ref l), some (.ref p), some (.int (n : Int)), some (.ref o), some (.ref pc), u1, some (.int (i : Int)), u3, u4, u5, u6], ⟨fun _ _ e => e, _, _, _, _, _, rfl⟩, fun i σ' H' ⟨s, _⟩ => s _ _ ho18, ?_, ?_⟩
    · rintro i u v σ' H' pp hu hv ⟨s, v1, v3, v4, v5, v6, rfl⟩ hp
      obtain ⟨za, hza, da⟩ := (g18.mono s).getv hu
      obtain ⟨zb, hzb, db⟩ := (g18.mono s).getv hv
      have hin : i + 1 < ws.length := (List.getElem?_eq_some_iff.mp hv).1
      have sn : Same H' (upd H' pp (.tup [u, v])) := same_upd hp
      have hpt : upd H' pp (HO.tup [u, v]) pp = some (.tup [u, v]) := upd_same
      generalize upd H' pp (HO.tup [u, v]) = H2 at *
      have hol2 := (s.trans sn) _ _ hol
      walk_at "z"
      rw [if_neg (show ¬ decide ((n : Int) ≤ (i : Int)) = true by rw [decide_eq_false (show ¬ (n : Int) ≤ (i : Int) by omega)]; decide)]
      walk_at "z"
      refine z_ixL (.inl (.inl hol2)) (nat_idx hu) ?_
      walk_at "z"
      refine z_ixL (.inl (.inl hol2)) (show atI ws ((i : Int) + 1) = _ from nat_idx hv) ?_
      walk_at "z"
      intro p9 H9 f9 s9 h9
      have d1 := dp_mono (sn.trans s9) da
      have d2 := dp_mono (sn.trans s9) db
      refine z_neSame (d := .tuple [gD za, gD zb]) (.tup (.inl (.inl (s9 _ _ hpt))) (.cons d1 (.cons d2 .nil))) (dp_mk h9 (.cons d1 (.cons d2 .nil))) (by rfl) ?_
      walk_at "z"
      exact ⟨(s.trans sn).trans s9, _, _, _, _, _, rfl⟩
    · rintro σ' H' ⟨s, v1, v3, v4, v5, v6, rfl⟩
      walk_at "z"
      rw [decide_eq_true (show ((ws.length - 1 : Nat) : Int) = (n : Int) by omega)]
      exact q _
end

theorem all_mk {l : PySem.W.OpenLaw} {w : World} {K : PySem.W.Frag} {h : Heap} {mg : Str → Option Value} {fa : Addr} (X : K.In h) (G : h.Ns mainGlobals mg) (hfa : mg "law" = some (.ref fa))
    {a0 : Addr} {od0 an0 : Option Addr} {sl0 : Array (Option Value)} {oc0 kV0 dc0 pm0 cd0 ct0 : Value} {a1 : Addr} {od1 an1 : Option Addr} {sl1 : Array (Option Value)} {oc1 kV1 dc1 pm1 cd1 ct1 : Value} {a2 : Addr} {od2 an2 : Option Addr} {sl2 : Array (Option Value)} {oc2 kV2 dc2 pm2 cd2 ct2 : Value} {a3 : Addr} {od3 an3 : Option Addr} {sl3 : Array (Option Value)} {oc3 kV3 dc3 pm3 cd3 ct3 : Value} {a4 : Addr} {od4 an4 : Option Addr} {sl4 : Array (Option Value)} {oc4 kV4 dc4 pm4 cd4 ct4 : Value} {a5 : Addr} {od5 an5 : Option Addr} {sl5 : Array (Option Value)} {oc5 kV5 dc5 pm5 cd5 ct5 : Value} {a6 : Addr} {od6 an6 : Option Addr} {sl6 : Array (Option Value)} {oc6 kV6 dc6 pm6 cd6 ct6 : Value} {a7 : Addr} {od7 an7 : Option Addr} {sl7 : Array (Option Value)} {oc7 kV7 dc7 pm7 cd7 ct7 : Value} {a8 : Addr} {od8 an8 : Option Addr} {sl8 : Array (Option Value)} {oc8 kV8 dc8 pm8 cd8 ct8 : Value} {a9 : Addr} {od9 an9 : Option Addr} {sl9 : Array (Option Value)} {oc9 kV9 dc9 pm9 cd9 ct9 : Value}
    (n0 : PySem.W.nsIn K mainGlobals "lines" = some (some (.ref a0)))
    (l0 : K.lookup a0 = some ⟨oc0, od0, .func (PySem.W.fnOf "lines" "lines" (defArgs s_lines) (defBody s_lines) (defScope s_lines) .none kV0 dc0 pm0 an0 cd0 ct0), sl0⟩)
    (c0 : PySem.W.codeIn K cd0 "lines" = true) (k0 : PySem.W.keepIn K (.ref a0) = true)
    (n1 : PySem.W.nsIn K mainGlobals "double_area" = some (some (.ref a1)))
    (l1 : K.lookup a1 = some ⟨oc1, od1, .func (PySem.W.fnOf "double_area" "double_area" (defArgs s_double_area) (defBody s_double_area) (defScope s_double_area) .none kV1 dc1 pm1 an1 cd1 ct1), sl1⟩)
    (c1 : PySem.W.codeIn K cd1 "double_area" = true) (k1 : PySem.W.keepIn K (.ref a1) = true)
    (n2 : PySem.W.nsIn K mainGlobals "_law_cell" = some (some (.ref a2)))
    (l2 : K.lookup a2 = some ⟨oc2, od2, .func (PySem.W.fnOf "_law_cell" "_law_cell" (defArgs s__law_cell) (defBody s__law_cell) (defScope s__law_cell) .none kV2 dc2 pm2 an2 cd2 ct2), sl2⟩)
    (c2 : PySem.W.codeIn K cd2 "_law_cell" = true) (k2 : PySem.W.keepIn K (.ref a2) = true)
    (n3 : PySem.W.nsIn K mainGlobals "_law_stream" = some (some (.ref a3)))
    (l3 : K.lookup a3 = some ⟨oc3, od3, .func (PySem.W.fnOf "_law_stream" "_law_stream" (defArgs s__law_stream) (defBody s__law_stream) (defScope s__law_stream) .none kV3 dc3 pm3 an3 cd3 ct3), sl3⟩)
    (c3 : PySem.W.codeIn K cd3 "_law_stream" = true) (k3 : PySem.W.keepIn K (.ref a3) = true)
    (n4 : PySem.W.nsIn K mainGlobals "_law_next" = some (some (.ref a4)))
    (l4 : K.lookup a4 = some ⟨oc4, od4, .func (PySem.W.fnOf "_law_next" "_law_next" (defArgs s__law_next) (defBody s__law_next) (defScope s__law_next) .none kV4 dc4 pm4 an4 cd4 ct4), sl4⟩)
    (c4 : PySem.W.codeIn K cd4 "_law_next" = true) (k4 : PySem.W.keepIn K (.ref a4) = true)
    (n5 : PySem.W.nsIn K mainGlobals "_law_coordinate" = some (some (.ref a5)))
    (l5 : K.lookup a5 = some ⟨oc5, od5, .func (PySem.W.fnOf "_law_coordinate" "_law_coordinate" (defArgs s__law_coordinate) (defBody s__law_coordinate) (defScope s__law_coordinate) .none kV5 dc5 pm5 an5 cd5 ct5), sl5⟩)
    (c5 : PySem.W.codeIn K cd5 "_law_coordinate" = true) (k5 : PySem.W.keepIn K (.ref a5) = true)
    (n6 : PySem.W.nsIn K mainGlobals "_law_outline" = some (some (.ref a6)))
    (l6 : K.lookup a6 = some ⟨oc6, od6, .func (PySem.W.fnOf "_law_outline" "_law_outline" (defArgs s__law_outline) (defBody s__law_outline) (defScope s__law_outline) .none kV6 dc6 pm6 an6 cd6 ct6), sl6⟩)
    (c6 : PySem.W.codeIn K cd6 "_law_outline" = true) (k6 : PySem.W.keepIn K (.ref a6) = true)
    (n7 : PySem.W.nsIn K mainGlobals "_law_near" = some (some (.ref a7)))
    (l7 : K.lookup a7 = some ⟨oc7, od7, .func (PySem.W.fnOf "_law_near" "_law_near" (defArgs s__law_near) (defBody s__law_near) (defScope s__law_near) .none kV7 dc7 pm7 an7 cd7 ct7), sl7⟩)
    (c7 : PySem.W.codeIn K cd7 "_law_near" = true) (k7 : PySem.W.keepIn K (.ref a7) = true)
    (n8 : PySem.W.nsIn K mainGlobals "_law_is_integer" = some (some (.ref a8)))
    (l8 : K.lookup a8 = some ⟨oc8, od8, .func (PySem.W.fnOf "_law_is_integer" "_law_is_integer" (defArgs s__law_is_integer) (defBody s__law_is_integer) (defScope s__law_is_integer) .none kV8 dc8 pm8 an8 cd8 ct8), sl8⟩)
    (c8 : PySem.W.codeIn K cd8 "_law_is_integer" = true) (k8 : PySem.W.keepIn K (.ref a8) = true)
    (n9 : PySem.W.nsIn K mainGlobals "law" = some (some (.ref a9)))
    (l9 : K.lookup a9 = some ⟨oc9, od9, .func (PySem.W.fnOf "law" "law" (defArgs s_law) (defBody s_law) (defScope s_law) .none kV9 dc9 pm9 an9 cd9 ct9), sl9⟩)
    (c9 : PySem.W.codeIn K cd9 "law" = true) (k9 : PySem.W.keepIn K (.ref a9) = true)
    (z_bool : PySem.W.nsIn K mainGlobals "bool" = some none)
    (z_int : PySem.W.nsIn K mainGlobals "int" = some none)
    (z_isinstance : PySem.W.nsIn K mainGlobals "isinstance" = some none)
    (z_len : PySem.W.nsIn K mainGlobals "len" = some none)
    (z_list : PySem.W.nsIn K mainGlobals "list" = some none)
    (z_range : PySem.W.nsIn K mainGlobals "range" = some none)
    (z_tuple : PySem.W.nsIn K mainGlobals "tuple" = some none)
    (z_zip : PySem.W.nsIn K mainGlobals "zip" = some none)
    : ∃ fd : FuncData, (∀ (s : Shared) (v : Value), BindsTo s fd ⟨[v], []⟩ [("script", v)]) ∧ ∀ base : Heap, K.In base → base.Ns mainGlobals mg → FnOk l.prog w K mg base CX0 4 fa fd ["script"] (sp_law K) := by
  have e := hfa.symm.trans (PySem.W.mg_of X G n9)
  cases e
  have F0 := fun_mk (st := s_lines) l0 c0 k0
  have b0 := F0.binds (ps := ["outline"]) fun _ _ _ _ _ _ us hl => match us, hl with | [_], _ => rfl
  have F1 := fun_mk (st := s_double_area) l1 c1 k1
  have b1 := F1.binds (ps := ["outline"]) fun _ _ _ _ _ _ us hl => match us, hl with | [_], _ => rfl
  have F2 := fun_mk (st := s__law_cell) l2 c2 k2
  have b2 := F2.binds (ps := ["script", "k"]) fun _ _ _ _ _ _ us hl => match us, hl with | [_, _], _ => rfl
  have F3 := fun_mk (st := s__law_stream) l3 c3 k3
  have b3 := F3.binds (ps := ["cell"]) fun _ _ _ _ _ _ us hl => match us, hl with | [_], _ => rfl
  have F4 := fun_mk (st := s__law_next) l4 c4 k4
  have b4 := F4.binds (ps := ["stream", "size"]) fun _ _ _ _ _ _ us hl => match us, hl with | [_, _], _ => rfl
  have F5 := fun_mk (st := s__law_coordinate) l5 c5 k5
  have b5 := F5.binds (ps := ["stream", "mode"]) fun _ _ _ _ _ _ us hl => match us, hl with | [_, _], _ => rfl
  have F6 := fun_mk (st := s__law_outline) l6 c6 k6
  have b6 := F6.binds (ps := ["stream", "count", "modes"]) fun _ _ _ _ _ _ us hl => match us, hl with | [_, _, _], _ => rfl
  have F7 := fun_mk (st := s__law_near) l7 c7 k7
  have b7 := F7.binds (ps := ["stream", "outline"]) fun _ _ _ _ _ _ us hl => match us, hl with | [_, _], _ => rfl
  have F8 := fun_mk (st := s__law_is_integer) l8 c8 k8
  have b8 := F8.binds (ps := ["actual"]) fun _ _ _ _ _ _ us hl => match us, hl with | [_], _ => rfl
  have F9 := fun_mk (st := s_law) l9 c9 k9
  have b9 := F9.binds (ps := ["script"]) fun _ _ _ _ _ _ us hl => match us, hl with | [_], _ => rfl
  let A : Nat → Addr := fun | 0 => a0 | 1 => a1 | 2 => a2 | 3 => a3 | 4 => a4 | 5 => a5 | 6 => a6 | 7 => a7 | 8 => a8 | 9 => fa | _ => 0
  let D : Nat → FuncData := fun | 0 => PySem.W.fnOf "lines" "lines" (defArgs s_lines) (defBody s_lines) (defScope s_lines) .none kV0 dc0 pm0 an0 cd0 ct0 | 1 => PySem.W.fnOf "double_area" "double_area" (defArgs s_double_area) (defBody s_double_area) (defScope s_double_area) .none kV1 dc1 pm1 an1 cd1 ct1 | 2 => PySem.W.fnOf "_law_cell" "_law_cell" (defArgs s__law_cell) (defBody s__law_cell) (defScope s__law_cell) .none kV2 dc2 pm2 an2 cd2 ct2 | 3 => PySem.W.fnOf "_law_stream" "_law_stream" (defArgs s__law_stream) (defBody s__law_stream) (defScope s__law_stream) .none kV3 dc3 pm3 an3 cd3 ct3 | 4 => PySem.W.fnOf "_law_next" "_law_next" (defArgs s__law_next) (defBody s__law_next) (defScope s__law_next) .none kV4 dc4 pm4 an4 cd4 ct4 | 5 => PySem.W.fnOf "_law_coordinate" "_law_coordinate" (defArgs s__law_coordinate) (defBody s__law_coordinate) (defScope s__law_coordinate) .none kV5 dc5 pm5 an5 cd5 ct5 | 6 => PySem.W.fnOf "_law_outline" "_law_outline" (defArgs s__law_outline) (defBody s__law_outline) (defScope s__law_outline) .none kV6 dc6 pm6 an6 cd6 ct6 | 7 => PySem.W.fnOf "_law_near" "_law_near" (defArgs s__law_near) (defBody s__law_near) (defScope s__law_near) .none kV7 dc7 pm7 an7 cd7 ct7 | 8 => PySem.W.fnOf "_law_is_integer" "_law_is_integer" (defArgs s__law_is_integer) (defBody s__law_is_integer) (defScope s__law_is_integer) .none kV8 dc8 pm8 an8 cd8 ct8 | _ => PySem.W.fnOf "law" "law" (defArgs s_law) (defBody s_law) (defScope s_law) .none kV9 dc9 pm9 an9 cd9 ct9
  have T : Txt K mg A D :=
    {F_lines := F0,
     m_lines := PySem.W.mg_of X G n0,
     b_lines := b0,
     F_double_area := F1,
     m_double_area := PySem.W.mg_of X G n1,
     b_double_area := b1,
     F__law_cell := F2,
     m__law_cell := PySem.W.mg_of X G n2,
     b__law_cell := b2,
     F__law_stream := F3,
     m__law_stream := PySem.W.mg_of X G n3,
     b__law_stream := b3,
     F__law_next := F4,
     m__law_next := PySem.W.mg_of X G n4,
     b__law_next := b4,
     F__law_coordinate := F5,
     m__law_coordinate := PySem.W.mg_of X G n5,
     b__law_coordinate := b5,
     F__law_outline := F6,
     m__law_outline := PySem.W.mg_of X G n6,
     b__law_outline := b6,
     F__law_near := F7,
     m__law_near := PySem.W.mg_of X G n7,
     b__law_near := b7,
     F__law_is_integer := F8,
     m__law_is_integer := PySem.W.mg_of X G n8,
     b__law_is_integer := b8,
     F_law := F9,
     m_law := PySem.W.mg_of X G n9,
     b_law := b9,
     z_bool := PySem.W.mg_none_of X G z_bool,
     z_int := PySem.W.mg_none_of X G z_int,
     z_isinstance := PySem.W.mg_none_of X G z_isinstance,
     z_len := PySem.W.mg_none_of X G z_len,
     z_list := PySem.W.mg_none_of X G z_list,
     z_range := PySem.W.mg_none_of X G z_range,
     z_tuple := PySem.W.mg_none_of X G z_tuple,
     z_zip := PySem.W.mg_none_of X G z_zip}
  exact ⟨_, fun s v => .of_eq rfl, fun base _ _ => ok_law T⟩
end G
open PySem PySem.W PyProof.Rows
set_option maxRecDepth 100000 in
set_option maxHeartbeats 0 in
theorem PySem.Challenge.cw_fontwinding_k26_lines_and_area_holds : PySem.Challenge.rw_fontwinding_k26_lines_and_area.Holds := by
  w_on; o_law; k_head; (case hw => w_witness2)
  k_fill
  refine L2.walk_of (l := PySem.Challenge.rw_fontwinding_k26_lines_and_area) (n := 63) (k := 4) (x := "script") (CX := fun _ => L2.CX0) (sp := fun w => G.sp_law _) rfl (by decide) rfl ⟨rfl, by decide, by decide⟩ (fun w h Y => PySem.W.kIn_of Y) ?F (fun _ _ a ns hl _ hS => ⟨a, ns, rfl, hS, hl, fun _ => rfl⟩) (fun _ _ _ _ _ h => h)
  case F =>
    intro w mg fa h KX G0 hmg
    refine' G.all_mk KX G0 hmg ?n0 ?l0 ?c0 ?k0 ?n1 ?l1 ?c1 ?k1 ?n2 ?l2 ?c2 ?k2 ?n3 ?l3 ?c3 ?k3 ?n4 ?l4 ?c4 ?k4 ?n5 ?l5 ?c5 ?k5 ?n6 ?l6 ?c6 ?k6 ?n7 ?l7 ?c7 ?k7 ?n8 ?l8 ?c8 ?k8 ?n9 ?l9 ?c9 ?k9 ?z_bool ?z_int ?z_isinstance ?z_len ?z_list ?z_range ?z_tuple ?z_zip
    (case n0 => k_is)
    (case l0 => k_is)
    (case c0 => k_is)
    (case k0 => k_is)
    (case n1 => k_is)
    (case l1 => k_is)
    (case c1 => k_is)
    (case k1 => k_is)
    (case n2 => k_is)
    (case l2 => k_is)
    (case c2 => k_is)
    (case k2 => k_is)
    (case n3 => k_is)
    (case l3 => k_is)
    (case c3 => k_is)
    (case k3 => k_is)
    (case n4 => k_is)
    (case l4 => k_is)
    (case c4 => k_is)
    (case k4 => k_is)
    (case n5 => k_is)
    (case l5 => k_is)
    (case c5 => k_is)
    (case k5 => k_is)
    (case n6 => k_is)
    (case l6 => k_is)
    (case c6 => k_is)
    (case k6 => k_is)
    (case n7 => k_is)
    (case l7 => k_is)
    (case c7 => k_is)
    (case k7 => k_is)
    (case n8 => k_is)
    (case l8 => k_is)
    (case c8 => k_is)
    (case k8 => k_is)
    (case n9 => k_is)
    (case l9 => k_is)
    (case c9 => k_is)
    (case k9 => k_is)
    (case z_bool => k_is)
    (case z_int => k_is)
    (case z_isinstance => k_is)
    (case z_len => k_is)
    (case z_list => k_is)
    (case z_range => k_is)
    (case z_tuple => k_is)
    (case z_zip => k_is)
